import PyProof.Rows.All
import Wide.All
import OpenK.AllK
import Wide.FinOn
import PySem.PyData
import PySem.Str
import PySem.Syntax
import HandS.ForMost
import HandS.Walk
import HandS.Conv
import HandS.Deep
import PyProof.StrBlock2
import HandS.TupAny
import HandS.TupMul
import HandS.IsInst
import HandS.More
import KE.SortData
import PyProof.ReprReads
import PyProof.StrOps2
import PyProof.P3In
import PyProof.Rows.StrMeet
import HandS.Style
import HandS.SetFor
import HandS.Zip
import PyProof.SetRoads
import HandS.SetTxt0
import HandS.TupSets
import HandS.Comp
import HandS.Dict
import HandS.Defaults
import KE.GoesMore
import PyProof.EnumMake
import HandS.DictComp
import HandS.Codes
import HandS.Ends
import HandS.EndBits
import HandS.HeadHook4
import HandS.Head0
import HandS.Head1
import HandS.Head2
import HandS.HeadHook1
import HandS.HeadHook2
import PyProof.ReprLen
import PySem.Challenge.RW_mixedbags_k03_reports_and_persons
set_option Elab.async false
set_option linter.all false
set_option maxRecDepth 100000
section
namespace Dv
open PySem

abbrev Env := List (Option PyData)

/-- how a slot, a parameter, a result holds its value: shared; a list or a dict, one's own or somebody else's -/
inductive Md where
  | own | par | bor
  deriving DecidableEq, Repr
inductive Ty where
  | sh
  | lst (m : Md)
  | dic (m : Md)
  | pd
  deriving DecidableEq, Repr

structure Exn where
  cls : Nat
  fs : List (Str × PyData)

inductive Res (α : Type) where
  | ok (a : α) (env : Env)
  | ex (x : Exn) (env : Env)
  | bad

def Res.bind {α β : Type} (r : Res α) (f : α → Env → Res β) : Res β := match r with
  | .ok a env => f a env
  | .ex x env => .ex x env
  | .bad => .bad

inductive SRes where
  | nx (env : Env)
  | ret (d : PyData) (env : Env)
  | bk (env : Env)
  | ct (env : Env)
  | ex (x : Exn) (env : Env)
  | bad

inductive CRes where
  | ok (d : PyData) (outs : Env)
  | ex (x : Exn) (outs : Env)
  | bad

/-- primitive operations over operands -/
inductive Op where
  | add | sub | mul | mod | fdiv | pow | neg
  | eq | ne | lt | le | gt | ge | isN | notN | isIn | notIn
  | ix | len | tup | lst | srt | repr | int | all | rev | min2 | max2 | sum | min1 | max1 | lens | srs | addl
  deriving DecidableEq, Repr

/-- a target of an assignment, a loop: slots -/
inductive Tg where
  | one (i : Nat)
  | tup (is : List Nat)
  deriving DecidableEq, Repr

mutual
inductive E where
  | k (c : PyData)
  | v (i : Nat)
  | b (i : Nat)
  | mv (i : Nat)
  | op (o : Op) (as : List E)
  | sl (a : E) (lo hi : Option E)
  | isa (a : E) (ts : List String)
  | tup (es : List E)
  | lst (es : List E)
  | and (a b : E) | or (a b : E) | not (a : E)
  | ite (c a b : E)
  | ch (o1 o2 : Op) (a b c : E)
  | call (f : Nat) (as : List E)
  | comp (tg : Tg) (it : It) (ifs : Option E) (elt : E)
  | pop (i : Nat) (a : E)
  | kcall (f : Nat) (ns : List Str) (pm : List Nat) (as : List E)
  | dget (i : Nat) (a : E)
  | dct (a : E)
  | dcm (tg : Tg) (it : It) (ifs : Option E) (k v : E)
  | pd (a b : E)
inductive It where
  | seq (e : E)
  | rng (es : List E)
  | enm (es : List E)
  | zip (es : List E)
end

inductive S where
  | set (i : Nat) (e : E)
  | unp (is : List Nat) (e : E)
  | par (is : List Nat) (es : List E)
  | setix (i : Nat) (k e : E)
  | setk (i : Nat) (k e : E)
  | unp2 (i j : Nat) (e : E)
  | par3 (i j l : Nat) (a b c : E)
  | app (i : Nat) (e : E)
  | ins (i : Nat) (k e : E)
  | ite (c : E) (a b : List S)
  | for (tg : Tg) (it : It) (body : List S)
  | whl (c : E) (body : List S)
  | ret (e : E)
  | retN
  | ex (e : E)
  | pass | brk | cont | nev

def fetch (env : Env) (i : Nat) : Option PyData := (env[i]?).join

def setTg : Tg → PyData → Env → Option Env
  | .one i, d, env => some (env.set i (some d))
  | .tup is, d, env => match d with
    | .tuple ds => if ds.length = is.length then some ((is.zip ds).foldl (fun e p => e.set p.1 (some p.2)) env) else none
    | _ => none
def tgSlots : Tg → List Nat
  | .one i => [i]
  | .tup is => is
/-- a comprehension's own slots: forgotten, and as they were before -/
def wipeE : List Nat → Env → Env
  | [], env => env
  | i :: is, env => (wipeE is env).set i none
def backE : List Nat → Env → Env → Env
  | [], _, env => env
  | i :: is, old, env => (backE is old env).set i (old[i]?).join

def compL (f : PyData → Env → Res (Option PyData)) : List PyData → Env → Res (List PyData)
  | [], env => .ok [] env
  | x :: xs, env => (f x env).bind fun y env => (compL f xs env).bind fun ys env => .ok (match y with
    | some y => y :: ys
    | none => ys) env
def forL (f : PyData → Env → SRes) : List PyData → Env → SRes
  | [], env => .nx env
  | x :: xs, env => match f x env with
    | .nx env => forL f xs env
    | .ct env => forL f xs env
    | .bk env => .nx env
    | r => r
def whileL (c : Env → Res Bool) (f : Env → SRes) : Nat → Env → SRes
  | 0, _ => .bad
  | n + 1, env => match c env with
    | .ok b env => if b then match f env with
        | .nx env => whileL c f n env
        | .ct env => whileL c f n env
        | .bk env => .nx env
        | r => r
      else .nx env
    | .ex x env => .ex x env
    | .bad => .bad
end Dv
end
section
namespace Dv
open PySem PySem.Spec PyProof.Rows L2

/-! ### shared data: tuples, and lists and dicts that are never written again -/
def FzL (K : PySem.W.Frag) (H : Hp) (a : Addr) (xs : List V) : Prop := ∃ o, H a = some (.frz o (.lst xs))
theorem FzL.rd {K : PySem.W.Frag} {H : Hp} {a : Addr} {xs : List V} (h : FzL K H a xs) : Rd H a (.lst xs) := .inr h
def keyD : Key → PyData
  | .inl i => .int i
  | .inr x => .str x
mutual
inductive Sh (K : PySem.W.Frag) (H : Hp) : V → PyData → Prop
  | non : Sh K H .non .none
  | bl (b : Bool) : Sh K H (.bl b) (.bool b)
  | int (i : Int) : Sh K H (.int i) (.int i)
  | str (x : Str) : Sh K H (.str x) (.str x)
  | lst {a : Addr} {xs : List V} {ds : List PyData} : FzL K H a xs → ShA K H xs ds → Sh K H (.ref a) (.list ds)
  | tup {a : Addr} {xs : List V} {ds : List PyData} : SqT K H a xs → ShA K H xs ds → Sh K H (.ref a) (.tuple ds)
  | dK {a : Addr} {o : Obj} {kvs : List (Key × V)} {ds : List (PyData × PyData)} : H a = some (.frz o (.dK kvs)) → ShK K H kvs ds → Sh K H (.ref a) (.dict ds)
  | dT {a : Addr} {o : Obj} {kvs : List (List Key × V)} {ds : List (PyData × PyData)} : H a = some (.frz o (.dT kvs)) → ShT K H kvs ds → ds ≠ [] → Sh K H (.ref a) (.dict ds)
inductive ShA (K : PySem.W.Frag) (H : Hp) : List V → List PyData → Prop
  | nil : ShA K H [] []
  | cons {v : V} {vs : List V} {d : PyData} {ds : List PyData} : Sh K H v d → ShA K H vs ds → ShA K H (v :: vs) (d :: ds)
inductive ShK (K : PySem.W.Frag) (H : Hp) : List (Key × V) → List (PyData × PyData) → Prop
  | nil : ShK K H [] []
  | cons {k : Key} {v : V} {vs : List (Key × V)} {d : PyData} {ds : List (PyData × PyData)} : Sh K H v d → ShK K H vs ds → ShK K H ((k, v) :: vs) ((keyD k, d) :: ds)
inductive ShT (K : PySem.W.Frag) (H : Hp) : List (List Key × V) → List (PyData × PyData) → Prop
  | nil : ShT K H [] []
  | cons {k : List Key} {v : V} {vs : List (List Key × V)} {d : PyData} {ds : List (PyData × PyData)} : Sh K H v d → ShT K H vs ds → ShT K H ((k, v) :: vs) ((.tuple (k.map keyD), d) :: ds)
end

/-- tuples and locked things stay -/
structure Ext (H H' : Hp) : Prop where
  tup : ∀ b xs, H b = some (.tup xs) → H' b = some (.tup xs)
  frz : ∀ b o u, H b = some (.frz o u) → H' b = some (.frz o u)
theorem Ext.refl (H : Hp) : Ext H H := ⟨fun _ _ h => h, fun _ _ _ h => h⟩
theorem Ext.trans {H H1 H2 : Hp} (a : Ext H H1) (b : Ext H1 H2) : Ext H H2 := ⟨fun c xs h => b.tup c xs (a.tup c xs h), fun c o u h => b.frz c o u (a.frz c o u h)⟩
theorem Ext.of_same {H H' : Hp} (s : Same H H') : Ext H H' := ⟨fun b xs h => s b _ h, fun b o u h => s b _ h⟩
theorem Ext.rd {H H' : Hp} (e : Ext H H') {a : Addr} {xs : List V} (h : Rd H a (.tup xs)) : Rd H' a (.tup xs) := by
  rcases h with h | ⟨o, h⟩
  · exact .inl (e.tup _ _ h)
  · exact .inr ⟨o, e.frz _ _ _ h⟩
theorem Ext.sqT {K : PySem.W.Frag} {H H' : Hp} (e : Ext H H') {a : Addr} {xs : List V} (h : SqT K H a xs) : SqT K H' a xs := by
  rcases h with h | h
  · exact .inl (e.rd h)
  · exact .inr h
theorem Ext.fzL {K : PySem.W.Frag} {H H' : Hp} (e : Ext H H') {a : Addr} {xs : List V} (h : FzL K H a xs) : FzL K H' a xs := by
  obtain ⟨o, h⟩ := h
  exact ⟨o, e.frz _ _ _ h⟩
mutual
theorem Sh.ext {K : PySem.W.Frag} {H H' : Hp} (e : Ext H H') : ∀ {v : V} {d : PyData}, Sh K H v d → Sh K H' v d
  | _, _, .non => .non
  | _, _, .bl b => .bl b
  | _, _, .int i => .int i
  | _, _, .str x => .str x
  | _, _, .lst h a => .lst (e.fzL h) (ShA.ext e a)
  | _, _, .tup h a => .tup (e.sqT h) (ShA.ext e a)
  | _, _, .dK h a => .dK (e.frz _ _ _ h) (ShK.ext e a)
  | _, _, .dT h a q => .dT (e.frz _ _ _ h) (ShT.ext e a) q
theorem ShA.ext {K : PySem.W.Frag} {H H' : Hp} (e : Ext H H') : ∀ {vs : List V} {ds : List PyData}, ShA K H vs ds → ShA K H' vs ds
  | _, _, .nil => .nil
  | _, _, .cons h t => .cons (Sh.ext e h) (ShA.ext e t)
theorem ShK.ext {K : PySem.W.Frag} {H H' : Hp} (e : Ext H H') : ∀ {vs : List (Key × V)} {ds : List (PyData × PyData)}, ShK K H vs ds → ShK K H' vs ds
  | _, _, .nil => .nil
  | _, _, .cons h t => .cons (Sh.ext e h) (ShK.ext e t)
theorem ShT.ext {K : PySem.W.Frag} {H H' : Hp} (e : Ext H H') : ∀ {vs : List (List Key × V)} {ds : List (PyData × PyData)}, ShT K H vs ds → ShT K H' vs ds
  | _, _, .nil => .nil
  | _, _, .cons h t => .cons (Sh.ext e h) (ShT.ext e t)
end
theorem ShA.length {K : PySem.W.Frag} {H : Hp} : ∀ {vs : List V} {ds : List PyData}, ShA K H vs ds → vs.length = ds.length
  | _, _, .nil => rfl
  | _, _, .cons _ t => by rw [List.length_cons, List.length_cons, ShA.length t]
theorem ShA.get {K : PySem.W.Frag} {H : Hp} : ∀ {vs : List V} {ds : List PyData} {i : Nat} {d : PyData}, ShA K H vs ds → ds[i]? = some d → ∃ v, vs[i]? = some v ∧ Sh K H v d
  | _, _, _, _, .nil, h => by simp at h
  | _, _, 0, _, .cons h _, e => by simp at e; subst e; exact ⟨_, rfl, h⟩
  | _, _, i + 1, d, .cons _ t, e => by
    obtain ⟨v, h1, h2⟩ := ShA.get (i := i) (d := d) t (by simpa using e)
    exact ⟨v, by simpa using h1, h2⟩
theorem ShA.append {K : PySem.W.Frag} {H : Hp} : ∀ {vs ws : List V} {ds es : List PyData}, ShA K H vs ds → ShA K H ws es → ShA K H (vs ++ ws) (ds ++ es)
  | _, _, _, _, .nil, h => h
  | _, _, _, _, .cons a t, h => .cons a (ShA.append t h)
theorem ShA.take {K : PySem.W.Frag} {H : Hp} : ∀ {vs : List V} {ds : List PyData} (n : Nat), ShA K H vs ds → ShA K H (vs.take n) (ds.take n)
  | _, _, 0, _ => .nil
  | _, _, n + 1, .nil => .nil
  | _, _, n + 1, .cons a t => .cons a (ShA.take n t)
theorem ShA.drop {K : PySem.W.Frag} {H : Hp} : ∀ {vs : List V} {ds : List PyData} (n : Nat), ShA K H vs ds → ShA K H (vs.drop n) (ds.drop n)
  | _, _, 0, h => h
  | _, _, n + 1, .nil => .nil
  | _, _, n + 1, .cons a t => ShA.drop n t
theorem ShA.set {K : PySem.W.Frag} {H : Hp} {v : V} {d : PyData} (h : Sh K H v d) : ∀ {vs : List V} {ds : List PyData} (n : Nat), ShA K H vs ds → ShA K H (vs.set n v) (ds.set n d)
  | _, _, _, .nil => .nil
  | _, _, 0, .cons _ t => .cons h t
  | _, _, n + 1, .cons a t => .cons a (ShA.set h n t)
theorem ShA.eraseIdx {K : PySem.W.Frag} {H : Hp} : ∀ {vs : List V} {ds : List PyData} (n : Nat), ShA K H vs ds → ShA K H (vs.eraseIdx n) (ds.eraseIdx n)
  | _, _, _, .nil => .nil
  | _, _, 0, .cons _ t => t
  | _, _, n + 1, .cons a t => .cons a (ShA.eraseIdx n t)
mutual
/-- shared data without dicts, to be read -/
theorem Sh.dp {K : PySem.W.Frag} {H : Hp} : ∀ {v : V} {d : PyData}, Sh K H v d → d.hasDict = false → Dp K H v d
  | _, _, .non, _ => .non
  | _, _, .bl b, _ => .bl b
  | _, _, .int i, _ => .int i
  | _, _, .str x, _ => .str x
  | _, _, .lst h a, q => .lst (.inl h.rd) (ShA.dp a (by simpa [PyData.hasDict] using q))
  | _, _, .tup h a, q => .tup h (ShA.dp a (by simpa [PyData.hasDict] using q))
  | _, _, .dK _ _, q => by simp [PyData.hasDict] at q
  | _, _, .dT _ _ _, q => by simp [PyData.hasDict] at q
theorem ShA.dp {K : PySem.W.Frag} {H : Hp} : ∀ {vs : List V} {ds : List PyData}, ShA K H vs ds → PyData.hasDictAll ds = false → DpAll K H vs ds
  | _, _, .nil, _ => .nil
  | _, _, .cons h t, q => by
    simp only [PyData.hasDictAll, Bool.or_eq_false_iff] at q
    exact .cons (Sh.dp h q.1) (ShA.dp t q.2)
end

/-! ### slots -/
/-- to be read now: shared, or a list or dict whose items are shared -/
inductive Rt (K : PySem.W.Frag) (H : Hp) : V → PyData → Prop
  | sh {v : V} {d : PyData} : Sh K H v d → Rt K H v d
  | lst {a : Addr} {xs : List V} {ds : List PyData} : Rd H a (.lst xs) → ShA K H xs ds → Rt K H (.ref a) (.list ds)
  | dK {a : Addr} {kvs : List (Key × V)} {ds : List (PyData × PyData)} : Rd H a (.dK kvs) → ShK K H kvs ds → Rt K H (.ref a) (.dict ds)
  | pd {a : Addr} {d1 : PyData} {ds : List (PyData × PyData)} : Rt K H (.ref a) (.dict [(d1, .dict ds)])
theorem Rt.dp {K : PySem.W.Frag} {H : Hp} {v : V} {d : PyData} (h : Rt K H v d) (q : d.hasDict = false) : Dp K H v d := by
  cases h with
  | sh h => exact h.dp q
  | lst h a => exact .lst (.inl h) (a.dp (by simpa [PyData.hasDict] using q))
  | dK h a => simp [PyData.hasDict] at q
  | pd => simp [PyData.hasDict] at q
/-- how a slot holds: shared; an owned list; a list that somebody else owns and nobody writes now; an owned dict; .. -/
def Rep (K : PySem.W.Frag) (G : Addr → Prop) (H : Hp) : Ty → V → PyData → List Addr → Prop
  | .sh, v, d, A => Sh K H v d ∧ A = []
  | .lst .own, v, d, A => ∃ a vs ds, v = .ref a ∧ d = .list ds ∧ H a = some (.lst vs) ∧ ShA K H vs ds ∧ A = [a]
  | .lst .par, v, d, A => ∃ a vs ds, v = .ref a ∧ d = .list ds ∧ H a = some (.lst vs) ∧ ShA K H vs ds ∧ A = [a]
  | .lst .bor, v, d, A => ∃ a vs ds, v = .ref a ∧ d = .list ds ∧ ((G a ∧ H a = some (.lst vs)) ∨ FzL K H a vs) ∧ ShA K H vs ds ∧ A = []
  | .dic .own, v, d, A => ∃ a kvs ds, v = .ref a ∧ d = .dict ds ∧ H a = some (.dK kvs) ∧ ShK K H kvs ds ∧ A = [a]
  | .dic .par, v, d, A => ∃ a kvs ds, v = .ref a ∧ d = .dict ds ∧ H a = some (.dK kvs) ∧ ShK K H kvs ds ∧ A = [a]
  | .dic .bor, v, d, A => ∃ a kvs ds, v = .ref a ∧ d = .dict ds ∧ ((G a ∧ H a = some (.dK kvs)) ∨ ∃ o, H a = some (.frz o (.dK kvs))) ∧ ShK K H kvs ds ∧ A = []
  | .pd, v, d, A => ∃ a t x kvs d1 ds, v = .ref t ∧ d = .dict [(d1, .dict ds)] ∧ H a = some (.dK kvs) ∧ ShK K H kvs ds ∧ A = [a] ∧ SqT K H t [x, .ref a] ∧ Sh K H x d1
def Fr (G : Addr → Prop) (H H' : Hp) : Prop := ∀ a, G a → H' a = H a
theorem Fr.refl (G : Addr → Prop) (H : Hp) : Fr G H H := fun _ _ => rfl
theorem Fr.trans {G : Addr → Prop} {H H1 H2 : Hp} (a : Fr G H H1) (b : Fr G H1 H2) : Fr G H H2 := fun c h => (b c h).trans (a c h)
theorem Rep.rt {K : PySem.W.Frag} {G : Addr → Prop} {H : Hp} {τ : Ty} {v : V} {d : PyData} {A : List Addr} (h0 : Rep K G H τ v d A) : Rt K H v d := by
  match τ, h0 with
  | .sh, ⟨h, _⟩ => exact .sh h
  | .lst .own, ⟨a, vs, ds, e1, e2, h, s, _⟩ => subst e1 e2; exact .lst (.inl h) s
  | .lst .par, ⟨a, vs, ds, e1, e2, h, s, _⟩ => subst e1 e2; exact .lst (.inl h) s
  | .lst .bor, ⟨a, vs, ds, e1, e2, h, s, _⟩ =>
    subst e1 e2
    rcases h with ⟨_, h⟩ | h
    · exact .lst (.inl h) s
    · exact .lst h.rd s
  | .dic .own, ⟨a, vs, ds, e1, e2, h, s, _⟩ => subst e1 e2; exact .dK (.inl h) s
  | .dic .par, ⟨a, vs, ds, e1, e2, h, s, _⟩ => subst e1 e2; exact .dK (.inl h) s
  | .dic .bor, ⟨a, vs, ds, e1, e2, h, s, _⟩ =>
    subst e1 e2
    rcases h with ⟨_, h⟩ | ⟨o, h⟩
    · exact .dK (.inl h) s
    · exact .dK (.inr ⟨o, h⟩) s
  | .pd, ⟨a, t, x, kvs, d1, ds, e1, e2, _⟩ => subst e1 e2; exact .pd
/-- it stays, where its own things and the guarded ones stay -/
theorem Rep.stay {K : PySem.W.Frag} {G : Addr → Prop} {H H' : Hp} {τ : Ty} {v : V} {d : PyData} {A : List Addr} (h : Rep K G H τ v d A) (e : Ext H H') (f : Fr G H H') (k : ∀ a ∈ A, H' a = H a) : Rep K G H' τ v d A := by
  match τ, h with
  | .sh, ⟨h, e1⟩ => exact ⟨h.ext e, e1⟩
  | .lst .own, ⟨a, vs, ds, e1, e2, h, s, e3⟩ => exact ⟨a, vs, ds, e1, e2, (k a (by rw [e3]; exact List.mem_singleton_self _)).trans h, s.ext e, e3⟩
  | .lst .par, ⟨a, vs, ds, e1, e2, h, s, e3⟩ => exact ⟨a, vs, ds, e1, e2, (k a (by rw [e3]; exact List.mem_singleton_self _)).trans h, s.ext e, e3⟩
  | .lst .bor, ⟨a, vs, ds, e1, e2, h, s, e3⟩ =>
    refine ⟨a, vs, ds, e1, e2, ?_, s.ext e, e3⟩
    rcases h with ⟨g, h⟩ | h
    · exact .inl ⟨g, (f a g).trans h⟩
    · exact .inr (e.fzL h)
  | .dic .own, ⟨a, vs, ds, e1, e2, h, s, e3⟩ => exact ⟨a, vs, ds, e1, e2, (k a (by rw [e3]; exact List.mem_singleton_self _)).trans h, s.ext e, e3⟩
  | .dic .par, ⟨a, vs, ds, e1, e2, h, s, e3⟩ => exact ⟨a, vs, ds, e1, e2, (k a (by rw [e3]; exact List.mem_singleton_self _)).trans h, s.ext e, e3⟩
  | .dic .bor, ⟨a, vs, ds, e1, e2, h, s, e3⟩ =>
    refine ⟨a, vs, ds, e1, e2, ?_, s.ext e, e3⟩
    rcases h with ⟨g, h⟩ | ⟨o, h⟩
    · exact .inl ⟨g, (f a g).trans h⟩
    · exact .inr ⟨o, e.frz _ _ _ h⟩
  | .pd, ⟨a, t, x, kvs, d1, ds, e1, e2, h, s, e3, q, sh⟩ => exact ⟨a, t, x, kvs, d1, ds, e1, e2, (k a (by rw [e3]; exact List.mem_singleton_self _)).trans h, s.ext e, e3, e.sqT q, sh.ext e⟩
theorem Rep.mono {K : PySem.W.Frag} {G G' : Addr → Prop} {H : Hp} {τ : Ty} {v : V} {d : PyData} {A : List Addr} (h : Rep K G H τ v d A) (g : ∀ a, G a → G' a) : Rep K G' H τ v d A := by
  match τ, h with
  | .sh, h => exact h
  | .lst .own, h => exact h
  | .lst .par, h => exact h
  | .lst .bor, ⟨a, vs, ds, e1, e2, h, s, e3⟩ => exact ⟨a, vs, ds, e1, e2, h.imp (fun q => ⟨g _ q.1, q.2⟩) id, s, e3⟩
  | .dic .own, h => exact h
  | .pd, h => exact h
  | .dic .par, h => exact h
  | .dic .bor, ⟨a, vs, ds, e1, e2, h, s, e3⟩ => exact ⟨a, vs, ds, e1, e2, h.imp (fun q => ⟨g _ q.1, q.2⟩) id, s, e3⟩
end Dv
end
section
namespace Dv
open PySem PySem.Spec PyProof.Rows L2

/-! ### what the primitive operations give, by value -/
def shp (d : PyData) : Bool := SeqAt.shaped d
def addD : PyData → PyData → Option PyData
  | .int i, .int j => some (.int (i + j))
  | .bool a, .int j => some (.int ((if a = true then (1 : Int) else 0) + j))
  | .int i, .bool b => some (.int (i + b2i b))
  | .str a, .str b => if a.length + b.length ≤ sizeLine then some (.str (a ++ b)) else none
  | .list a, .list b => if a.length + b.length ≤ sizeLine then some (.list (a ++ b)) else none
  | .tuple a, .tuple b => if a.length + b.length ≤ sizeLine then some (.tuple (a ++ b)) else none
  | _, _ => none
def addlD : PyData → PyData → Option PyData
  | .list a, .list b => if a.length + b.length ≤ sizeLine then some (.list (a ++ b)) else none
  | _, _ => none
def subD : PyData → PyData → Option PyData
  | .int i, .int j => some (.int (i - j))
  | _, _ => none
def mulD : PyData → PyData → Option PyData
  | .int i, .int j => if (-(2 ^ 64) < i ∧ i < 2 ^ 64) ∨ (-(2 ^ 64) < j ∧ j < 2 ^ 64) then some (.int (i * j)) else none
  | .list xs, .int k => if -(2 ^ 62) ≤ k ∧ k ≤ 2 ^ 62 ∧ xs.length * k.toNat ≤ sizeLine then some (.list (List.replicate k.toNat xs).flatten) else none
  | .tuple xs, .int k => if xs ≠ [] ∧ 2 ≤ k ∧ k ≤ 1000 ∧ xs.length ≤ 1000 then some (.tuple (List.replicate k.toNat xs).flatten) else none
  | .str x, .int k => if 0 ≤ k ∧ k ≤ 1000 ∧ x.length ≤ 1000 then some (.str (Txt.mul x k)) else none
  | _, _ => none
def modD : PyData → PyData → Option PyData
  | .int i, .int j => if 0 < j then some (.int (i % j)) else none
  | _, _ => none
def fdivD : PyData → PyData → Option PyData
  | .int i, .int j => if 0 < j ∧ j < 1073741824 then some (.int (i / j)) else none
  | _, _ => none
def powD : PyData → PyData → Option PyData
  | .int i, .int j => if 0 ≤ j ∧ j ≤ 1000000 ∧ i.natAbs < 2 ^ 64 then some (.int (i ^ j.toNat)) else none
  | _, _ => none
def negD : PyData → Option PyData
  | .int i => some (.int (-i))
  | _ => none
def eqS (a b : PyData) : Option Bool := match a, b with
  | .str x, .str y => some (x == y)
  | _, _ => none
def eqD (a b : PyData) : Option PyData := if shp a && shp b then some (.bool (PyData.eqv a b)) else (eqS a b).map .bool
def neD (a b : PyData) : Option PyData := if shp a && shp b then some (.bool (!PyData.eqv a b)) else (eqS a b).map fun r => .bool (!r)
def ltS (a b : Str) : Bool := decide (a.cps.toList < b.cps.toList)
def ltD : PyData → PyData → Option PyData
  | .int i, .int j => some (.bool (decide (i < j)))
  | .str a, .str b => some (.bool (ltS a b))
  | _, _ => none
def leD : PyData → PyData → Option PyData
  | .int i, .int j => some (.bool (decide (i ≤ j)))
  | .str a, .str b => some (.bool (!ltS b a))
  | _, _ => none
def isNone : PyData → Bool
  | .none => true
  | _ => false
def inD : PyData → PyData → Option PyData
  | d, .list xs => if shp d && shp (.list xs) then some (.bool (xs.any fun y => PyData.eqv y d)) else none
  | d, .tuple xs => if shp d && shp (.tuple xs) then some (.bool (xs.any fun y => PyData.eqv y d)) else none
  | _, _ => none
def ixD : PyData → PyData → Option PyData
  | .list xs, .int i => atI xs i
  | .tuple xs, .int i => atI xs i
  | .str z, .int i => if z.length ≤ sizeLine then (atI z.cps.toList i).map fun c => .str ⟨#[c]⟩ else none
  | _, _ => none
def lenD : PyData → Option PyData
  | .list xs => some (.int xs.length)
  | .tuple xs => some (.int xs.length)
  | .str z => if z.length ≤ sizeLine then some (.int z.length) else none
  | _ => none
def tupD : PyData → Option PyData
  | .list xs => some (.tuple xs)
  | .tuple xs => some (.tuple xs)
  | _ => none
def lstD : PyData → Option PyData
  | .list xs => some (.list xs)
  | .tuple xs => some (.list xs)
  | _ => none
def intD : PyData → Option PyData
  | .int i => some (.int i)
  | .bool b => some (.int (if b then 1 else 0))
  | _ => none
def reprD (d : PyData) : Option PyData := if d.showable && !d.hasDict && decide (d.depth ≤ 60) && decide (d.shown.length ≤ sizeLine) then some (.str d.shown) else none

/-! ### values that are read -/
section
variable {K : PySem.W.Frag} {H H' : Hp} {v : V} {d : PyData}
theorem Rt.int_inv {i : Int} (h : Rt K H v (.int i)) : v = .int i := by cases h with | sh h => cases h; rfl
theorem Rt.str_inv {x : Str} (h : Rt K H v (.str x)) : v = .str x := by cases h with | sh h => cases h; rfl
theorem Rt.bl_inv {b : Bool} (h : Rt K H v (.bool b)) : v = .bl b := by cases h with | sh h => cases h; rfl
theorem Rt.non_inv (h : Rt K H v .none) : v = .non := by cases h with | sh h => cases h; rfl
theorem Rt.lst_inv {ds : List PyData} (h : Rt K H v (.list ds)) : ∃ a xs, v = .ref a ∧ Rd H a (.lst xs) ∧ ShA K H xs ds := by
  cases h with
  | sh h => cases h with | lst h a => exact ⟨_, _, rfl, h.rd, a⟩
  | lst h a => exact ⟨_, _, rfl, h, a⟩
theorem Rt.tup_inv {ds : List PyData} (h : Rt K H v (.tuple ds)) : ∃ a xs, v = .ref a ∧ SqT K H a xs ∧ ShA K H xs ds := by
  cases h with | sh h => cases h with | tup h a => exact ⟨_, _, rfl, h, a⟩
theorem Rt.non_iff (h : Rt K H v d) : decide (v = .non) = isNone d := by
  cases h with
  | sh h => cases h <;> rfl
  | lst h a => rfl
  | dK h a => rfl
  | pd => rfl
theorem ShA.same {xs : List V} {ds : List PyData} (s : Same H H') (h : ShA K H xs ds) : ShA K H' xs ds := h.ext (Ext.of_same s)
theorem Sh.same {d : PyData} (s : Same H H') (h : Sh K H v d) : Sh K H' v d := h.ext (Ext.of_same s)
theorem same_upd {p : Addr} {o : HO} (h : H p = none) : Same H (upd H p o) := fun b x e => by
  rw [upd_ne (ne_of_none e h)]
  exact e
end

/-- what an operation hands on: shared, or a new list -/
def RO (K : PySem.W.Frag) (H H' : Hp) (v : V) (d : PyData) : Prop :=
  Sh K H' v d ∨ ∃ p vs ds, v = .ref p ∧ d = .list ds ∧ H p = none ∧ H' p = some (.lst vs) ∧ ShA K H' vs ds
def Fin (K : PySem.W.Frag) (H : Hp) (d : PyData) (Q : VK) : Prop := ∀ v H', Same H H' → RO K H H' v d → Q v H'
theorem Fin.sh {K : PySem.W.Frag} {H : Hp} {d : PyData} {Q : VK} {v : V} (f : Fin K H d Q) (h : Sh K H v d) : Q v H := f v H (Same.refl H) (.inl h)
theorem Fin.newL {K : PySem.W.Frag} {H : Hp} {ds : List PyData} {Q : VK} {p : Addr} {vs : List V} (f : Fin K H (.list ds) Q) (n : H p = none) (h : ShA K H vs ds) : Q (.ref p) (upd H p (.lst vs)) :=
  f _ _ (same_upd n) (.inr ⟨p, vs, ds, rfl, rfl, n, upd_same, h.same (same_upd n)⟩)
theorem Fin.newT {K : PySem.W.Frag} {H : Hp} {ds : List PyData} {Q : VK} {p : Addr} {vs : List V} (f : Fin K H (.tuple ds) Q) (n : H p = none) (h : ShA K H vs ds) : Q (.ref p) (upd H p (.tup vs)) :=
  f _ _ (same_upd n) (.inl (.tup (SqT.of upd_same) (h.same (same_upd n))))
/-- a new list -/
def FinL (K : PySem.W.Frag) (H : Hp) (ds : List PyData) (Q : VK) : Prop := ∀ p vs H', Same H H' → H p = none → H' p = some (.lst vs) → ShA K H' vs ds → Q (.ref p) H'
theorem Fin.lst {K : PySem.W.Frag} {H : Hp} {ds : List PyData} {Q : VK} (f : Fin K H (.list ds) Q) : FinL K H ds Q := fun p vs H' s hn hp sa => f _ _ s (.inr ⟨p, vs, ds, rfl, rfl, hn, hp, sa⟩)
theorem FinL.newL {K : PySem.W.Frag} {H : Hp} {ds : List PyData} {Q : VK} {p : Addr} {vs : List V} (f : FinL K H ds Q) (n : H p = none) (h : ShA K H vs ds) : Q (.ref p) (upd H p (.lst vs)) :=
  f _ _ _ (same_upd n) n upd_same (h.same (same_upd n))
def rD2 (K : PySem.W.Frag) (f : PyData → PyData → Option PyData) : R2 := fun x y H Q => ∃ dx dy d, Rt K H x dx ∧ Rt K H y dy ∧ f dx dy = some d ∧ Fin K H d Q
def rD1 (K : PySem.W.Frag) (f : PyData → Option PyData) : V → Hp → VK → Prop := fun x H Q => ∃ dx d, Rt K H x dx ∧ f dx = some d ∧ Fin K H d Q
inductive RtA (K : PySem.W.Frag) (H : Hp) : List V → List PyData → Prop
  | nil : RtA K H [] []
  | cons {v : V} {vs : List V} {d : PyData} {ds : List PyData} : Rt K H v d → RtA K H vs ds → RtA K H (v :: vs) (d :: ds)
def rDA (K : PySem.W.Frag) (f : List PyData → Option PyData) : List V → Hp → VK → Prop := fun xs H Q => ∃ ds d, RtA K H xs ds ∧ f ds = some d ∧ Fin K H d Q
/-- the answer is a new list -/
def rDL (K : PySem.W.Frag) (f : List PyData → Option PyData) : List V → Hp → VK → Prop := fun xs H Q => ∃ ds es, RtA K H xs ds ∧ f ds = some (.list es) ∧ FinL K H es Q
theorem ShA.rep {K : PySem.W.Frag} {H : Hp} {vs : List V} {ds : List PyData} (h : ShA K H vs ds) : ∀ n : Nat, ShA K H (List.replicate n vs).flatten (List.replicate n ds).flatten
  | 0 => .nil
  | n + 1 => by
    rw [List.replicate_succ, List.replicate_succ, List.flatten_cons, List.flatten_cons]
    exact h.append (ShA.rep h n)
theorem ShA.nil_iff {K : PySem.W.Frag} {H : Hp} {vs : List V} {ds : List PyData} (h : ShA K H vs ds) : vs = [] ↔ ds = [] := by
  cases h <;> simp

section
variable {X : Cx} {pins : List (Addr × Obj)} {σ : L2.St} {H : Hp} {s : Shared} {a : Addr} {xs : List V}
theorem rdL (I : L2.Inv X pins σ H s) (h : Rd H a (.lst xs)) : xs.length ≤ sizeLine ∧ ∃ (its : List Value) (n : Nat), Vals xs its ∧ xs.length = its.length ∧ s.heap.get? a = some { cls := .type "list", data := .seq its.toArray n } := by
  obtain ⟨z, its, n, r, e⟩ := h.ok I.hok
  exact ⟨z, its, n, r, r.length, e⟩
end
section
variable {X : Cx}
theorem op_add_d : OpR X (binaryOp .Add) (rD2 X.K addD) := by
  intro pins s σ H x y v u Q I rx ry h
  obtain ⟨dx, dy, d, hx, hy, e, f⟩ := h
  unfold addD at e
  split at e
  · rename_i i j
    cases hx.int_inv; cases hy.int_inv; cases e
    exact op_add pins s σ H _ _ v u Q I rx ry ⟨i, j, rfl, rfl, f.sh (.int _)⟩
  · rename_i a j
    cases hx.bl_inv; cases hy.int_inv; cases e
    obtain ⟨t, rfl⟩ := ry
    cases rx
    exact IntBool.add_bool_int ⟨.int ((if a = true then (1 : Int) else 0) + j), H, I.tok _, ⟨_, rfl⟩, f.sh (.int _)⟩
  · rename_i i b
    cases hx.int_inv; cases hy.bl_inv; cases e
    exact op_add_ib pins s σ H _ _ v u Q I rx ry ⟨i, b, rfl, rfl, f.sh (.int _)⟩
  · rename_i a b
    cases hx.str_inv; cases hy.str_inv
    split at e
    · rename_i hl
      cases e
      exact op_add_str pins s σ H _ _ v u Q I rx ry ⟨a, b, rfl, rfl, hl, f.sh (.str _)⟩
    · cases e
  · rename_i xs ys
    obtain ⟨a, as, rfl, ha, sa⟩ := hx.lst_inv
    obtain ⟨b, bs, rfl, hb, sb⟩ := hy.lst_inv
    split at e
    · rename_i hl
      cases e
      cases rx; cases ry
      obtain ⟨z, its, n, r, hl1, e1⟩ := rdL I ha
      obtain ⟨z2, its2, n2, r2, hl2, e2⟩ := rdL I hb
      have l3 := sa.length; have l4 := sb.length
      refine PySem.P.add_list e1 e2 ?_ (by rw [List.size_toArray, List.size_toArray]; omega)
      have ea : its.toArray ++ its2.toArray = (its ++ its2).toArray := by simp
      rw [ea]
      exact ⟨.ref _, _, I.lnew (t' := s.toks) (r.append r2) (by rw [List.length_append]; omega), rfl, f.newL I.fresh (sa.append sb)⟩
    · cases e
  · rename_i xs ys
    obtain ⟨a, as, rfl, ha, sa⟩ := hx.tup_inv
    obtain ⟨b, bs, rfl, hb, sb⟩ := hy.tup_inv
    split at e
    · rename_i hl
      cases e
      have l3 := sa.length; have l4 := sb.length
      refine op_catA pins s σ H _ _ v u Q I rx ry ⟨a, b, as, bs, rfl, rfl, ha, hb, by omega, fun z => ?_, fun z z2 => ?_, fun z z2 p hp => f.newT hp (sa.append sb)⟩
      · have q := sa.nil_iff.mp z; subst q; exact f.sh (.tup hb (by simpa using sb))
      · have q := sb.nil_iff.mp z2; subst q; exact f.sh (.tup ha (by simpa using sa))
    · cases e
  · cases e
/-- the answer is a new list -/
def rDL2 (K : PySem.W.Frag) (f : PyData → PyData → Option PyData) : R2 := fun x y H Q => ∃ dx dy es, Rt K H x dx ∧ Rt K H y dy ∧ f dx dy = some (.list es) ∧ FinL K H es Q
theorem op_addl_d : OpR X (binaryOp .Add) (rDL2 X.K addlD) := by
  intro pins s σ H x y v u Q I rx ry h
  obtain ⟨dx, dy, es, hx, hy, e, f⟩ := h
  unfold addlD at e
  split at e
  · rename_i xs ys
    obtain ⟨a, as, rfl, ha, sa⟩ := hx.lst_inv
    obtain ⟨b, bs, rfl, hb, sb⟩ := hy.lst_inv
    split at e
    · rename_i hl
      cases e
      cases rx; cases ry
      obtain ⟨z, its, n, r, hl1, e1⟩ := rdL I ha
      obtain ⟨z2, its2, n2, r2, hl2, e2⟩ := rdL I hb
      have l3 := sa.length; have l4 := sb.length
      refine PySem.P.add_list e1 e2 ?_ (by rw [List.size_toArray, List.size_toArray]; omega)
      have ea : its.toArray ++ its2.toArray = (its ++ its2).toArray := by simp
      rw [ea]
      exact ⟨.ref _, _, I.lnew (t' := s.toks) (r.append r2) (by rw [List.length_append]; omega), rfl, f.newL I.fresh (sa.append sb)⟩
    · cases e
  · cases e
theorem op_sub_d : OpR X (binaryOp .Sub) (rD2 X.K subD) := by
  intro pins s σ H x y v u Q I rx ry h
  obtain ⟨dx, dy, d, hx, hy, e, f⟩ := h
  unfold subD at e
  split at e
  · rename_i i j
    cases hx.int_inv; cases hy.int_inv; cases e
    exact op_sub pins s σ H _ _ v u Q I rx ry ⟨i, j, rfl, rfl, f.sh (.int _)⟩
  · cases e
theorem op_mul_d : OpR X (binaryOp .Mult) (rD2 X.K mulD) := by
  intro pins s σ H x y v u Q I rx ry h
  obtain ⟨dx, dy, d, hx, hy, e, f⟩ := h
  unfold mulD at e
  split at e
  · rename_i i j
    split at e
    · rename_i hc
      cases hx.int_inv; cases hy.int_inv; cases e
      exact op_mul pins s σ H _ _ v u Q I rx ry ⟨i, j, rfl, rfl, hc, f.sh (.int _)⟩
    · cases e
  · rename_i xs k
    split at e
    · rename_i hc
      obtain ⟨a, as, rfl, ha, sa⟩ := hx.lst_inv
      cases hy.int_inv; cases e
      have l3 := sa.length
      cases rx
      obtain ⟨t, rfl⟩ := ry
      obtain ⟨z, its, n, r, hl, e⟩ := rdL I ha
      have hlen : its.toArray.size * k.toNat ≤ sizeLine := by rw [List.size_toArray, ← hl, l3]; exact hc.2.2
      have hcap : ¬ its.toArray.size * k.toNat > (2 ^ 63 - 1) / 8 := by
        have : (sizeLine : Nat) ≤ (2 ^ 63 - 1) / 8 := by decide
        omega
      have hfit : ¬ (!Builtin.List.listFitsIndex k) = true := by
        rw [fitsIndex_both (by omega) (by omega)]
        exact Bool.false_ne_true
      have hlong : ¬ Builtin.List.listTooLong (its.toArray.size * k.toNat) = true := by
        rw [notLongL hlen]
        exact Bool.false_ne_true
      have hnew : List.foldl (fun x1 x2 => x1 ++ x2) #[] (List.replicate (if its.toArray.isEmpty = true then 0 else k.toNat) its.toArray) = (List.replicate k.toNat its).flatten.toArray := by
        have f0 : ∀ m : Nat, List.foldl (fun x1 x2 => x1 ++ x2) #[] (List.replicate m its.toArray) = (List.replicate m its).flatten.toArray := fun m => by
          have := foldl_rep its m []
          rw [List.nil_append] at this
          exact this
        rw [f0]
        cases its with
        | nil => simp
        | cons a r' => rw [if_neg (by simp)]
      refine wpAny_binaryOp_repeat_ref (T := "list") (U := "int") (by decide) ⟨_, e, rfl⟩ (fun s' => typeIs_int s' k t) noFill_list_mul F.fills_int_mul F.slot_int_rmul repeat_list F.slot_int_index.lookup
        (call_meets F.slot_int_rmul (typeIs_int s k t) F.entry_int_rmul (F.args_int_rmul_2 _ _) (int___rmul___int_list k t _ its.toArray n)
          ⟨e, rfl, ⟨_, e, rfl⟩, call_meets F.slot_list_mul ⟨_, e, rfl⟩ F.entry_list_mul (F.args_list_mul_2 _ _) (AutoListH.list___mul___list_int_3 _ its.toArray n k t hfit hcap hlong) ⟨e, ?_⟩⟩)
      rw [hnew]
      exact ⟨.ref _, _, I.lnew (t' := s.toks) (r.rep k.toNat) (by rw [PyProof.Rows.lm_len_rep_flat, Nat.mul_comm, l3]; exact hc.2.2), rfl, f.newL I.fresh (sa.rep _)⟩
    · cases e
  · rename_i xs k
    split at e
    · rename_i hc
      obtain ⟨a, as, rfl, ha, sa⟩ := hx.tup_inv
      cases hy.int_inv; cases e
      have l3 := sa.length
      exact op_repT pins s σ H _ _ v u Q I rx ry ⟨a, k, as, rfl, rfl, ha, fun z => hc.1 (sa.nil_iff.mp z), hc.2.1, hc.2.2.1, by omega, fun p hp => f.newT hp (sa.rep _)⟩
    · cases e
  · rename_i z k
    split at e
    · rename_i hc
      cases hx.str_inv; cases hy.int_inv; cases e
      obtain ⟨t, rfl⟩ := rx
      obtain ⟨t2, rfl⟩ := ry
      refine SB.mul ⟨?_, fun h1 _ => ?_, fun _ _ => ?_⟩ fun t' n => ⟨.str _, H, I.tok _, ⟨_, rfl⟩, f.sh (.str _)⟩
      · have e1 : decide (k < -(2 ^ 63 : Int)) = false := decide_eq_false (by omega)
        have e2 : decide (k ≥ 2 ^ 63) = false := decide_eq_false (by omega)
        rw [e1, e2]; rfl
      · have h3 : (1000 : Int) ≤ (2 ^ 63 - 1) / k := by
          rw [Int.le_ediv_iff_mul_le (by omega)]
          omega
        have := hc.2.2
        omega
      · unfold Builtin.Str.tooLong
        have : z.length * k.toNat ≤ 1000 * 1000 := Nat.mul_le_mul hc.2.2 (by omega)
        have hs : sizeLine = 16777216 := by decide
        rw [hs]
        exact decide_eq_false (by omega)
    · cases e
  · cases e
theorem op_mod_d : OpR X (binaryOp .Mod) (rD2 X.K modD) := by
  intro pins s σ H x y v u Q I rx ry h
  obtain ⟨dx, dy, d, hx, hy, e, f⟩ := h
  unfold modD at e
  split at e
  · rename_i i j
    split at e
    · rename_i hc
      cases hx.int_inv; cases hy.int_inv; cases e
      exact op_mod pins s σ H _ _ v u Q I rx ry ⟨i, j, rfl, rfl, hc, f.sh (.int _)⟩
    · cases e
  · cases e
theorem op_fdiv_d : OpR X (binaryOp .FloorDiv) (rD2 X.K fdivD) := by
  intro pins s σ H x y v u Q I rx ry h
  obtain ⟨dx, dy, d, hx, hy, e, f⟩ := h
  unfold fdivD at e
  split at e
  · rename_i i j
    split at e
    · rename_i hc
      cases hx.int_inv; cases hy.int_inv; cases e
      exact op_fdiv pins s σ H _ _ v u Q I rx ry ⟨i, j, rfl, rfl, hc, f.sh (.int _)⟩
    · cases e
  · cases e
theorem op_pow_d : OpR X (binaryOp .Pow) (rD2 X.K powD) := by
  intro pins s σ H x y v u Q I rx ry h
  obtain ⟨dx, dy, d, hx, hy, e, f⟩ := h
  unfold powD at e
  split at e
  · rename_i i j
    split at e
    · rename_i hc
      cases hx.int_inv; cases hy.int_inv; cases e
      exact op_pow pins s σ H _ _ v u Q I rx ry ⟨i, j, rfl, rfl, hc, f.sh (.int _)⟩
    · cases e
  · cases e
theorem un_neg_d : UnR X (unaryOp .USub) (rD1 X.K negD) := by
  intro pins s σ H x v Q I rx h
  obtain ⟨dx, d, hx, e, f⟩ := h
  unfold negD at e
  split at e
  · rename_i i
    cases hx.int_inv; cases e
    exact un_neg pins s σ H _ v Q I rx ⟨i, rfl, f.sh (.int _)⟩
  · cases e
theorem noD {d : PyData} (h : shp d = true) : d.hasDict = false := PyData.hasDict_of_canLay d (SeqAt.canLay_of_shaped h)
theorem op_eq_d (hu : X.A.units + 64 < cLine) : OpR X (compareOp .Eq) (rD2 X.K eqD) := by
  intro pins s σ H x y v u Q I rx ry h
  obtain ⟨dx, dy, d, hx, hy, e, f⟩ := h
  unfold eqD at e
  split at e
  · rename_i hc
    rw [Bool.and_eq_true] at hc
    cases e
    exact op_eqD hu pins s σ H x y v u Q I rx ry ⟨dx, dy, hx.dp (noD hc.1), hy.dp (noD hc.2), hc.1, hc.2, f.sh (.bl _)⟩
  · unfold eqS at e
    split at e
    · cases hx.str_inv; cases hy.str_inv; cases e
      obtain ⟨t, rfl⟩ := rx
      obtain ⟨t2, rfl⟩ := ry
      exact PyProof.Rows.eq_str ⟨.bl _, H, I, rfl, f.sh (.bl _)⟩
    · cases e
theorem op_ne_d (hu : X.A.units + 64 < cLine) : OpR X (compareOp .NotEq) (rD2 X.K neD) := by
  intro pins s σ H x y v u Q I rx ry h
  obtain ⟨dx, dy, d, hx, hy, e, f⟩ := h
  unfold neD at e
  split at e
  · rename_i hc
    rw [Bool.and_eq_true] at hc
    cases e
    exact op_neD hu pins s σ H x y v u Q I rx ry ⟨dx, dy, hx.dp (noD hc.1), hy.dp (noD hc.2), hc.1, hc.2, f.sh (.bl _)⟩
  · unfold eqS at e
    split at e
    · cases hx.str_inv; cases hy.str_inv; cases e
      obtain ⟨t, rfl⟩ := rx
      obtain ⟨t2, rfl⟩ := ry
      exact PyProof.Rows.ne_str ⟨.bl _, H, I, rfl, f.sh (.bl _)⟩
    · cases e
theorem op_lt_d : OpR X (compareOp .Lt) (rD2 X.K ltD) := by
  intro pins s σ H x y v u Q I rx ry h
  obtain ⟨dx, dy, d, hx, hy, e, f⟩ := h
  unfold ltD at e
  split at e
  · rename_i i j
    cases hx.int_inv; cases hy.int_inv; cases e
    exact op_lt pins s σ H _ _ v u Q I rx ry ⟨i, j, rfl, rfl, f.sh (.bl _)⟩
  · rename_i i j
    cases hx.str_inv; cases hy.str_inv; cases e
    exact op_lt_str pins s σ H _ _ v u Q I rx ry ⟨i, j, rfl, rfl, f.sh (.bl _)⟩
  · cases e
theorem op_gt_d : OpR X (compareOp .Gt) (rD2 X.K fun a b => ltD b a) := by
  intro pins s σ H x y v u Q I rx ry h
  obtain ⟨dx, dy, d, hx, hy, e, f⟩ := h
  replace e : ltD dy dx = some d := e
  unfold ltD at e
  split at e
  · rename_i i j
    cases hx.int_inv; cases hy.int_inv; cases e
    exact op_gt pins s σ H _ _ v u Q I rx ry ⟨j, i, rfl, rfl, f.sh (.bl _)⟩
  · rename_i i j
    cases hx.str_inv; cases hy.str_inv; cases e
    exact op_gt_str pins s σ H _ _ v u Q I rx ry ⟨j, i, rfl, rfl, f.sh (.bl _)⟩
  · cases e
theorem op_le_d : OpR X (compareOp .LtE) (rD2 X.K leD) := by
  intro pins s σ H x y v u Q I rx ry h
  obtain ⟨dx, dy, d, hx, hy, e, f⟩ := h
  unfold leD at e
  split at e
  · rename_i i j
    cases hx.int_inv; cases hy.int_inv; cases e
    exact op_le pins s σ H _ _ v u Q I rx ry ⟨i, j, rfl, rfl, f.sh (.bl _)⟩
  · rename_i i j
    cases hx.str_inv; cases hy.str_inv; cases e
    exact op_le_str pins s σ H _ _ v u Q I rx ry ⟨i, j, rfl, rfl, f.sh (.bl _)⟩
  · cases e
theorem op_ge_d : OpR X (compareOp .GtE) (rD2 X.K fun a b => leD b a) := by
  intro pins s σ H x y v u Q I rx ry h
  obtain ⟨dx, dy, d, hx, hy, e, f⟩ := h
  replace e : leD dy dx = some d := e
  unfold leD at e
  split at e
  · rename_i i j
    cases hx.int_inv; cases hy.int_inv; cases e
    exact op_ge pins s σ H _ _ v u Q I rx ry ⟨j, i, rfl, rfl, f.sh (.bl _)⟩
  · rename_i i j
    cases hx.str_inv; cases hy.str_inv; cases e
    exact op_ge_str pins s σ H _ _ v u Q I rx ry ⟨j, i, rfl, rfl, f.sh (.bl _)⟩
  · cases e
theorem op_is_d : OpR X (compareOp .Is) (rD2 X.K fun a b => if isNone b then some (.bool (isNone a)) else none) := by
  intro pins s σ H x y v u Q I rx ry h
  obtain ⟨dx, dy, d, hx, hy, e, f⟩ := h
  cases dy <;> simp [isNone] at e
  cases hy.non_inv
  subst e
  exact op_isN pins s σ H x _ v u Q I rx ry ⟨rfl, by rw [hx.non_iff]; exact f.sh (.bl _)⟩
theorem op_isnot_d : OpR X (compareOp .IsNot) (rD2 X.K fun a b => if isNone b then some (.bool (!isNone a)) else none) := by
  intro pins s σ H x y v u Q I rx ry h
  obtain ⟨dx, dy, d, hx, hy, e, f⟩ := h
  cases dy <;> simp [isNone] at e
  cases hy.non_inv
  subst e
  exact op_notN pins s σ H x _ v u Q I rx ry ⟨rfl, by rw [hx.non_iff]; exact f.sh (.bl _)⟩
theorem op_in_d (hu : X.A.units + 65 < cLine) : OpR X (compareOp .In) (rD2 X.K inD) := by
  intro pins s σ H x y v u Q I rx ry h
  obtain ⟨dx, dy, d, hx, hy, e, f⟩ := h
  unfold inD at e
  split at e
  · rename_i xs
    split at e
    · rename_i hc
      rw [Bool.and_eq_true] at hc
      cases e
      exact op_inD hu pins s σ H x y v u Q I rx ry ⟨dx, xs, hx.dp (noD hc.1), hy.dp (noD hc.2), hc.1, hc.2, f.sh (.bl _)⟩
    · cases e
  · rename_i xs
    split at e
    · rename_i hc
      rw [Bool.and_eq_true] at hc
      cases e
      obtain ⟨as, r1⟩ := Dp.reads I _ x v (hx.dp (noD hc.1)) rx
      obtain ⟨bs, r2⟩ := Dp.reads I _ y u (hy.dp (noD hc.2)) ry
      exact SeqAt.in_tuple_reads r2 r1 (SeqAt.canLay_of_shaped hc.2) (SeqAt.canLay_of_shaped hc.1) (room_in_shaped hc.1 hu) ⟨.bl _, H, I, rfl, f.sh (.bl _)⟩
    · cases e
  · cases e
def notinD (a b : PyData) : Option PyData := (inD a b).bind fun d => match d with | .bool x => some (.bool (!x)) | _ => none
theorem op_notin_d (hu : X.A.units + 65 < cLine) : OpR X (compareOp .NotIn) (rD2 X.K notinD) := by
  intro pins s σ H x y v u Q I rx ry h
  obtain ⟨dx, dy, d, hx, hy, e, f⟩ := h
  unfold notinD inD at e
  split at e
  · rename_i xs
    split at e
    · rename_i hc
      rw [Bool.and_eq_true] at hc
      cases e
      exact op_notInD hu pins s σ H x y v u Q I rx ry ⟨dx, xs, hx.dp (noD hc.1), hy.dp (noD hc.2), hc.1, hc.2, f.sh (.bl _)⟩
    · cases e
  · rename_i xs
    split at e
    · rename_i hc
      rw [Bool.and_eq_true] at hc
      cases e
      obtain ⟨as, r1⟩ := Dp.reads I _ x v (hx.dp (noD hc.1)) rx
      obtain ⟨bs, r2⟩ := Dp.reads I _ y u (hy.dp (noD hc.2)) ry
      exact SeqAt.notIn_tuple_reads r2 r1 (SeqAt.canLay_of_shaped hc.2) (SeqAt.canLay_of_shaped hc.1) (room_in_shaped hc.1 hu) ⟨.bl _, H, I, rfl, f.sh (.bl _)⟩
    · cases e
  · cases e
theorem ShA.at {K : PySem.W.Frag} {H : Hp} {vs : List V} {ds : List PyData} {i : Int} {d : PyData} (h : ShA K H vs ds) (e : atI ds i = some d) : ∃ v, atI vs i = some v ∧ Sh K H v d := by
  unfold atI at e ⊢
  rw [h.length]
  cases q : ixN ds.length i with
  | none => rw [q] at e; cases e
  | some j =>
    rw [q] at e
    obtain ⟨v, h1, h2⟩ := h.get (show ds[j]? = some d from e)
    exact ⟨v, h1, h2⟩
theorem ix_d : IxR X (rD2 X.K ixD) := by
  intro va sl pins s σ H x y v u Q I rx ry h hs
  obtain ⟨dx, dy, d, hx, hy, e, f⟩ := h
  unfold ixD at e
  split at e
  · rename_i xs i
    obtain ⟨a, as, rfl, ha, sa⟩ := hx.lst_inv
    cases hy.int_inv
    obtain ⟨z, h1, h2⟩ := sa.at e
    exact ix_list va sl pins s σ H _ _ v u Q I rx ry ⟨a, as, i, z, rfl, rfl, .inl ha, h1, f.sh h2⟩ hs
  · rename_i xs i
    obtain ⟨a, as, rfl, ha, sa⟩ := hx.tup_inv
    cases hy.int_inv
    obtain ⟨z, h1, h2⟩ := sa.at e
    exact ix_tup va sl pins s σ H _ _ v u Q I rx ry ⟨a, as, i, z, rfl, rfl, ha, h1, f.sh h2⟩ hs
  · rename_i z i
    cases hx.str_inv; cases hy.int_inv
    split at e
    · rename_i hz
      cases q : atI z.cps.toList i with
      | none => rw [q] at e; cases e
      | some c =>
        rw [q] at e; cases e
        exact ix_str va sl pins s σ H _ _ v u Q I rx ry ⟨z, i, c, rfl, rfl, hz, q, f.sh (.str _)⟩ hs
    · cases e
  · cases e
end
end Dv
end
section
namespace Dv
open PySem PySem.Spec PyProof.Rows L2

/-! ### calls, where no repr is under way -/
structure FnG (P : Program) (w : World) (K : PySem.W.Frag) (mg : Str → Option Value) (base : Heap) (CX : CXT) (k : Nat) (f : Addr) (fd : FuncData) (ps : List Str) (sp : Sp) : Prop where
  many : ∀ vs H Q E, sp vs H Q E → vs.length = ps.length
  runs : ∀ (A : Around) (out : List PySem.Env) (s : Shared) (H : Hp) (ar : Args) (us : List Value) (vs : List V) (Q : VK) (E : XK), Room k A → A.guards = some [] → Env0 P w K mg base A out s H →
    BindsTo s fd ar (ps.zip us) → Vals vs us → sp vs H Q E → codeAny (model P w) A (.call (.ref f) ar) (CR CX out P w H s Q E) s
section
variable {X : Cx} {CX : CXT} {k : Nat} {f : Addr} {fd : FuncData} {ps : List Str} {sp : Sp} {E : XK} {x : Str} {p pos : Pos} {e : Expr} {es : List Expr} {t : TA}
theorem fng_run {pins : List (Addr × Obj)} {σ : L2.St} {H : Hp} {s : Shared} {Q : VK} {ar : Args} {us : List Value} {vs : List V} (F : FnG X.prog X.w X.K X.mg X.base CX k f fd ps sp) (hr : Room k X.A) (hg : X.A.guards = some [])
    (hb : BindsTo s fd ar (ps.zip us)) (hx : Passes CX X E) (I : L2.Inv X pins σ H s) (r : Vals vs us) (h : sp vs H Q E) : codeAny (model X.prog X.w) X.A (.call (.ref f) ar) (fun r s' => match r with
      | .ok (.ret u) => EP X pins σ Q u s'
      | .ok _ => False
      | .error e => X.xe e s') s := by
  refine codeAny_mono (F.runs X.A X.stack s H ar us vs Q E hr hg I.env0 hb r h) fun z s' hq => ?_
  cases z with
  | error e => exact hx pins σ H s e s' I hq
  | ok fl => cases fl with
    | ret u => exact I.after hq
    | next => exact hq.elim
    | brk => exact hq.elim
    | cont => exact hq.elim
theorem pe_gcall (F : FnG X.prog X.w X.K X.mg X.base CX k f fd ps sp) (hr : Room k X.A) (hgd : X.A.guards = some []) (hg : Gl X x) (hm : X.mg x = some (.ref f)) (hk : PySem.W.keepIn X.K (.ref f) = true) (hb : Binds X.K fd ps [])
    (hx : Passes CX X E) (ha : PA X (e :: es) t) (hdb : (x == ("__debug__" : Str)) = false) (he : starEach (e :: es) X.env = (false, eval e X.env) :: starEach es X.env) (hpl : (backTo pos (starEach es X.env)).any (·.1) = false) :
    PE X (.Call (.Name x p) (e :: es) [] pos) (fun σ H Q => t σ H fun vs H1 => sp vs H1 Q E) := by
  refine ⟨fun pins s σ H Q I h => wpAny_Call_Name_kw (ld_glob I hg hm ?_ hdb)⟩
  refine PySem.W.callWith_K (h₀ := X.base) I.ok.mod.kin hk (thn (ha.run pos pins s σ H _ I h) fun us s1 ⟨vs, H1, I1, r, q⟩ => ⟨I1.kIn, wpAny_call (codeAny_mono (fng_run F hr hgd (us := us) ?_ hx I1 r q) fun z s' hq => ?_)⟩) he hpl
  · have hl : (us ++ []).length = ps.length := by rw [List.append_nil, ← r.length]; exact F.many _ _ _ _ q
    have := hb s1 us I1.kIn hl
    rwa [List.append_nil] at this
  · cases z with
    | error e => exact hq
    | ok fl => cases fl <;> first | exact hq | exact hq.elim
theorem pe_gcall0 (F : FnG X.prog X.w X.K X.mg X.base CX k f fd ps sp) (hr : Room k X.A) (hgd : X.A.guards = some []) (hg : Gl X x) (hm : X.mg x = some (.ref f)) (hk : PySem.W.keepIn X.K (.ref f) = true) (hb : Binds X.K fd ps [])
    (hx : Passes CX X E) (hdb : (x == ("__debug__" : Str)) = false) :
    PE X (.Call (.Name x p) [] [] pos) (fun σ H Q => sp [] H Q E) := by
  refine ⟨fun pins s σ H Q I h => wpAny_Call_Name_kw (ld_glob I hg hm ?_ hdb)⟩
  refine PySem.W.callWith_K0 I.kIn hk (wpAny_call (codeAny_mono (fng_run F hr hgd (us := []) ?_ hx I .nil h) fun z s' hq => ?_))
  · have hl : ([] ++ [] : List Value).length = ps.length := F.many _ _ _ _ h
    exact hb s [] I.kIn hl
  · cases z with
    | error e => exact hq
    | ok fl => cases fl <;> first | exact hq | exact hq.elim
end
/-- a def keeps its promise by its body -/
theorem fng_of {CX : CXT} {P : Program} {w : World} {K : PySem.W.Frag} {mg : Str → Option Value} {base : Heap} {k : Nat} {f : Addr} {name qual : Str} {params : Arguments} {body : List Stmt} {scope : Scope} {dV kV doc pm cdv ct oc : Value} {an od : Option Addr}
    {osl : Array (Option Value)} {N ps : List Str} {sp : Sp} (lk : K.lookup f = some ⟨oc, od, .func (PySem.W.fnOf name qual params body scope dV kV doc pm an cdv ct), osl⟩) (hcd : PySem.W.codeIn K cdv qual = true) (S : FnScope N ps scope)
    (many : ∀ vs H Q E, sp vs H Q E → vs.length = ps.length)
    (bodyOk : ∀ (A : Around) (out : List PySem.Env) (s : Shared) (H : Hp) (vs : List V) (Q : VK) (E : XK), Room k (A.deeper (envOfC qual scope s.heap.objs.size f cdv)) → A.guards = some [] → sp vs H Q E →
      ∃ t, PSs (cxOf CX P w K mg base N qual scope f cdv A out s H E) body t ∧ t { nx := fun _ H' => Q .non H', rt := Q } (start N vs) H) :
    FnG P w K mg base CX (k + 1) f (PySem.W.fnOf name qual params body scope dV kV doc pm an cdv ct) ps sp := by
  refine ⟨many, fun A out s H ar us vs Q E hr hgd e0 hb r hsp => ?_⟩
  have n1 := many _ _ _ _ hsp
  have kin : K.In s.heap := e0.mod.kin.keeps fun b o e => (e0.bs b o e).1
  have nol : s.heap.NoLimit := e0.mod.nolimit.keeps fun b o e => (e0.bs b o e).1
  refine codeAny_call_function hr.depth (kin _ _ lk) rfl S.co S.gen rfl (PySem.W.codeRec_of kin hcd) (hb _ _ _ _ (wpAny_newFunctionEnv_cells S.kind (fun y hy => ?_) fun env he s1 x => ?_))
  · rcases S.par y.1 (List.of_mem_zip (show (y.1, y.2) ∈ ps.zip us from hy)).1 with q | q
    · exact .inl q
    · exact .inr ⟨q, PySem.W.cellsFrom_some _ _ _ (.inl q)⟩
  · subst he
    obtain ⟨t, h1, h2⟩ := bodyOk A out s H vs Q E (hr.deeper _) hgd hsp
    have J := inv_start (CX := CX) (qual := qual) (f := f) (cd := cdv) (E := E) S hr.hd e0 n1 r x
    refine ⟨nol.keeps x.toInCall.keep, codeAny_func (wpAny_mono (h1.run [] s1 (start N vs) H _ J h2) (fun fl s' hs => ?_) fun _ _ hs => hs)⟩
    cases fl with
    | ret u => obtain ⟨v, _, H', J', rv, q⟩ := hs; exact ⟨v, H', J'.os, J'.bare, J'.base, J'.hok, rv, q⟩
    | next => obtain ⟨_, H', J', q⟩ := hs; exact ⟨.non, H', J'.os, J'.bare, J'.base, J'.hok, rfl, q⟩
    | brk => obtain ⟨_, _, _, q⟩ := hs; exact q.elim
    | cont => obtain ⟨_, _, _, q⟩ := hs; exact q.elim

/-! ### repr of data -/
theorem room_repr {A : Around} {d : PyData} (hu : A.units + 64 < cLine) (hd : d.depth ≤ 60) : A.units + d.depth < cLine := by omega
end Dv
end
section
namespace Dv
open PySem PySem.Spec PyProof.Rows L2

theorem RtA.one_inv {K : PySem.W.Frag} {H : Hp} {vs : List V} {d : PyData} (h : RtA K H vs [d]) : ∃ v, vs = [v] ∧ Rt K H v d := by
  cases h with | cons a t => cases t; exact ⟨_, rfl, a⟩
theorem RtA.two_inv {K : PySem.W.Frag} {H : Hp} {vs : List V} {d e : PyData} (h : RtA K H vs [d, e]) : ∃ v w, vs = [v, w] ∧ Rt K H v d ∧ Rt K H w e := by
  cases h with | cons a t => cases t with | cons b u => cases u; exact ⟨_, _, rfl, a, b⟩
def on1 (f : PyData → Option PyData) : List PyData → Option PyData
  | [d] => f d
  | _ => none
def on2 (f : PyData → PyData → Option PyData) : List PyData → Option PyData
  | [d, e] => f d e
  | _ => none
theorem on1_inv {f : PyData → Option PyData} {ds : List PyData} {d : PyData} (h : on1 f ds = some d) : ∃ x, ds = [x] ∧ f x = some d := by
  unfold on1 at h; split at h
  · exact ⟨_, rfl, h⟩
  · cases h
theorem on2_inv {f : PyData → PyData → Option PyData} {ds : List PyData} {d : PyData} (h : on2 f ds = some d) : ∃ x y, ds = [x, y] ∧ f x y = some d := by
  unfold on2 at h; split at h
  · exact ⟨_, _, rfl, h⟩
  · cases h

/-! ### sorting -/
def alikeB (ds : List PyData) : Bool := ds.all fun a => ds.all fun b => PySem.W.alike a b
def neT : PyData → Bool
  | .tuple (_ :: _) => true
  | _ => false
def noTN : PyData → Bool
  | .none => false
  | .tuple _ => false
  | _ => true
section
variable {l : List Str}
def insL (l : List Str) (k : Str) : List Str := if k ∈ l then l else k :: l
theorem insL_mem {k x : Str} : x ∈ insL l k ↔ x ∈ l ∨ x = k := by
  unfold insL
  split
  · rename_i h
    exact ⟨.inl, fun q => q.elim id fun e => e ▸ h⟩
  · rw [List.mem_cons]; exact ⟨fun q => q.elim .inr .inl, fun q => q.elim .inr .inl⟩
theorem insL_len {k : Str} : (insL l k).length ≤ l.length + 1 := by
  unfold insL
  split
  · exact Nat.le_succ _
  · exact Nat.le_refl _
def insAll (l : List Str) (zs : List Str) : List Str := zs.foldl insL l
theorem insAll_snoc {zs : List Str} {z : Str} : insAll l (zs ++ [z]) = insL (insAll l zs) z := by
  unfold insAll; rw [List.foldl_append]; rfl
theorem insAll_len {zs : List Str} : ∀ {l : List Str}, (insAll l zs).length ≤ l.length + zs.length := by
  induction zs with
  | nil => intro l; exact Nat.le_refl _
  | cons z zs ih =>
    intro l
    have h1 := ih (l := insL l z)
    have h2 := insL_len (l := l) (k := z)
    show (insAll (insL l z) zs).length ≤ l.length + (zs.length + 1)
    omega
theorem insAll_mem {x : Str} {zs : List Str} : ∀ {l : List Str}, x ∈ insAll l zs ↔ x ∈ l ∨ x ∈ zs := by
  induction zs with
  | nil => intro l; simp [insAll]
  | cons z zs ih =>
    intro l
    show x ∈ insAll (insL l z) zs ↔ _
    rw [ih, insL_mem, List.mem_cons, or_assoc]
end
def strsD : List PyData → Option (List Str)
  | [] => some []
  | .str x :: ds => (strsD ds).map (x :: ·)
  | _ => none
theorem strsD_eq : ∀ {xs : List PyData} {zs : List Str}, strsD xs = some zs → xs = zs.map .str
  | [], zs, h => by cases h; rfl
  | x :: xs, zs, h => by
    cases x with
    | str i =>
      simp only [strsD] at h
      cases e : strsD xs with
      | none => rw [e] at h; cases h
      | some ms => rw [e] at h; cases h; rw [strsD_eq e]; rfl
    | _ => cases h
theorem strsD_map : ∀ (zs : List Str), strsD (zs.map .str) = some zs
  | [] => rfl
  | z :: zs => by simp only [List.map_cons, strsD, strsD_map zs]; rfl
def srtS (ss : List Str) : List Str := ss.mergeSort fun a b => decide (a.cps.toList ≤ b.cps.toList)
def keysS : List (PyData × PyData) → Option (List Str)
  | [] => some []
  | (.str x, d) :: ds => match d with
    | .dict _ => none
    | _ => (keysS ds).map (x :: ·)
  | _ => none
theorem keysS_k {K : PySem.W.Frag} {H : Hp} : ∀ {ds : List (PyData × PyData)} {zs : List Str} {kvs : List (Key × V)}, ShK K H kvs ds → keysS ds = some zs → kvs.map (·.1) = zs.map Sum.inr
  | [], _, _, .nil, h => by cases h; rfl
  | _ :: ds, zs, _, .cons (k := ky) s t, h => by
    cases ky with
    | inl i => simp [keyD, keysS] at h
    | inr x =>
      simp only [keyD, keysS] at h
      split at h
      · cases h
      · cases e : keysS ds with
        | none => rw [e] at h; cases h
        | some ys => rw [e] at h; cases h; rw [List.map_cons, List.map_cons, keysS_k t e]
theorem keysS_rd {K : PySem.W.Frag} {H : Hp} {v : V} {ds : List (PyData × PyData)} {zs : List Str} (hv : Rt K H v (.dict ds)) (h : keysS ds = some zs) : ∃ a kvs, v = .ref a ∧ Rd H a (.dK kvs) ∧ ShK K H kvs ds := by
  cases hv with
  | sh hs =>
    cases hs with
    | dK q s => exact ⟨_, _, rfl, .inr ⟨_, q⟩, s⟩
    | dT q s hn =>
      cases s with
      | nil => exact absurd rfl hn
      | cons _ _ => simp [keysS] at h
  | dK q s => exact ⟨_, _, rfl, q, s⟩
  | pd =>
    rename_i d1 _
    cases d1 <;> simp [keysS] at h
def srsD : PyData → Option PyData
  | .list xs => match strsD xs with
    | some zs => if zs.length ≤ 1000 then some (.list ((srtS (insAll [] zs)).map .str)) else none
    | none => none
  | _ => none
theorem sha_strs {K : PySem.W.Frag} {H : Hp} : ∀ {zs : List Str} {vs : List V}, ShA K H vs (zs.map .str) → vs = zs.map V.str
  | [], _, .nil => rfl
  | n :: ns, _, .cons h t => by cases h; rw [sha_strs t]; rfl
theorem sha_of_strs {K : PySem.W.Frag} {H : Hp} : ∀ (zs : List Str), ShA K H (zs.map V.str) (zs.map .str)
  | [] => .nil
  | z :: zs => .cons (.str z) (sha_of_strs zs)
theorem cps_inj {a b : Str} (h : a.cps.toList = b.cps.toList) : a = b := by
  cases a; cases b
  simp only at h
  rw [Array.toList_inj.mp h]
theorem ltCps_lt {a b : List Nat} : ltCps a b = decide (a < b) := PyProof.Rows.ltCps_eq a b
theorem rising_pair : ∀ {r : List Str} {x : Str}, risingS x r = true → (x :: r).Pairwise fun a b => decide (a.cps.toList ≤ b.cps.toList) = true
  | [], x, _ => List.pairwise_singleton _ _
  | y :: r, x, h => by
    simp only [risingS, Bool.and_eq_true, Bool.not_eq_true', ltCps_lt, decide_eq_false_iff_not] at h
    have ih := rising_pair h.2
    have xy : x.cps.toList ≤ y.cps.toList := by
      have := h.1
      rwa [List.not_lt] at this
    refine List.pairwise_cons.mpr ⟨fun z hz => ?_, ih⟩
    rcases List.mem_cons.mp hz with rfl | hz
    · exact decide_eq_true xy
    · have := of_decide_eq_true ((List.pairwise_cons.mp ih).1 z hz)
      exact decide_eq_true (List.le_trans xy this)
theorem srt_uniq {ss l : List Str} (h : sortedS ss = true) (p : ss.Perm l) : ss = srtS l := by
  have h1 : ss.Pairwise fun a b => decide (a.cps.toList ≤ b.cps.toList) = true := by
    cases ss with
    | nil => exact .nil
    | cons x r => exact rising_pair h
  have h2 : (srtS l).Pairwise fun a b => decide (a.cps.toList ≤ b.cps.toList) = true :=
    List.pairwise_mergeSort (le := fun a b : Str => decide (a.cps.toList ≤ b.cps.toList)) (fun a b c h h' => decide_eq_true (List.le_trans (of_decide_eq_true h) (of_decide_eq_true h'))) (fun a b => by
      simp only [Bool.or_eq_true, decide_eq_true_eq]
      exact List.le_total _ _) l
  refine (p.trans (List.mergeSort_perm l _).symm).eq_of_pairwise (fun x y _ _ h h' => ?_) h1 h2
  exact cps_inj (List.le_antisymm (of_decide_eq_true h) (of_decide_eq_true h'))
def sortable (ds : List PyData) : Bool := alikeB ds && (ds.all neT || ds.all noTN) && ds.all (fun d => !d.hasDict && decide (d.depth ≤ 60)) && decide (ds.length ≤ sizeLine)
def sortL (ds : List PyData) : List PyData := ds.mergeSort (PySem.W.dataLe false id)
def sortD : PyData → Option PyData
  | .list ds => if sortable ds then some (.list (sortL ds)) else none
  | .dict ds => match keysS ds with
    | some zs => if zs.length < 64 then some (.list ((srtS zs).map .str)) else none
    | none => none
  | _ => none
theorem eachIs_vals : ∀ {out : List Value} {bs : List (V × PyData)}, PySem.W.EachIs (fun (u : Value) (b : V × PyData) => RelV b.1 u) out bs → Vals (bs.map Prod.fst) out
  | _, _, .nil => .nil
  | _, _, .cons h t => .cons h (eachIs_vals t)
theorem ShA.zip_sh {K : PySem.W.Frag} {H : Hp} : ∀ {vs : List V} {ds : List PyData}, ShA K H vs ds → ∀ p ∈ vs.zip ds, Sh K H p.1 p.2
  | _, _, .nil, _, h => by cases h
  | _, _, .cons a t, p, h => by
    rcases List.mem_cons.mp h with e | h
    · subst e; exact a
    · exact ShA.zip_sh t p h
theorem ShA.of_pairs {K : PySem.W.Frag} {H : Hp} : ∀ {bs : List (V × PyData)}, (∀ p ∈ bs, Sh K H p.1 p.2) → ShA K H (bs.map Prod.fst) (bs.map Prod.snd)
  | [], _ => .nil
  | b :: bs, h => .cons (h b List.mem_cons_self) (ShA.of_pairs fun p hp => h p (List.mem_cons_of_mem _ hp))
theorem eachIs_of {h : Heap} : ∀ {vs : List V} {us : List Value} {ds : List PyData}, Vals vs us → (∃ as, ReadsAll h us ds as) →
    PySem.W.EachIs (fun (u : Value) (b : V × PyData) => RelV b.1 u) us (vs.zip ds) ∧ PySem.W.EachIs (fun (u : Value) (b : V × PyData) => ∃ as, Reads h u b.2 as) us (vs.zip ds)
  | _, _, [], .nil, _ => ⟨.nil, .nil⟩
  | _, _, d :: ds, .nil, ⟨as, h⟩ => by cases h
  | _, _, [], .cons r t, ⟨as, h⟩ => by cases h
  | _, _, d :: ds, .cons r t, ⟨as, h⟩ => by
    cases h with
    | cons h1 h2 =>
      obtain ⟨a, b⟩ := eachIs_of t ⟨_, h2⟩
      exact ⟨.cons r a, .cons ⟨_, h1⟩ b⟩
theorem alikeB_ok {ds : List PyData} (h : alikeB ds = true) : PySem.W.AllAlike ds := fun d hd e he => List.all_eq_true.mp (List.all_eq_true.mp h d hd) e he
theorem zip_snd {vs : List V} {ds : List PyData} (h : vs.length = ds.length) : (vs.zip ds).map Prod.snd = ds := List.map_snd_zip (by omega)
theorem zip_fst {vs : List V} {ds : List PyData} (h : vs.length = ds.length) : (vs.zip ds).map Prod.fst = vs := List.map_fst_zip (by omega)

section
variable {X : Cx}
theorem call_len_d : CallR X (.builtin "len") (rDA X.K (on1 lenD)) := by
  intro pins s σ H vs us Q I r h
  obtain ⟨ds, d, hr, e0, f⟩ := h
  obtain ⟨x, rfl, e⟩ := on1_inv e0
  clear e0
  obtain ⟨v, rfl, hv⟩ := hr.one_inv
  unfold lenD at e
  split at e
  · rename_i xs
    cases e
    obtain ⟨a, as, rfl, ha, sa⟩ := hv.lst_inv
    exact call_len_seq pins s σ H _ us Q I r ⟨a, as, rfl, .inl (.inl ha), by rw [sa.length]; exact f.sh (.int _)⟩
  · rename_i xs
    cases e
    obtain ⟨a, as, rfl, ha, sa⟩ := hv.tup_inv
    exact call_len_seq pins s σ H _ us Q I r ⟨a, as, rfl, .inr ha, by rw [sa.length]; exact f.sh (.int _)⟩
  · rename_i z
    cases hv.str_inv
    split at e
    · rename_i hz
      cases e
      exact call_len_str pins s σ H _ us Q I r ⟨z, rfl, hz, f.sh (.int _)⟩
    · cases e
  · cases e
theorem call_tup_d : CallR X (.type "tuple") (rDA X.K (on1 tupD)) := by
  intro pins s σ H vs us Q I r h
  obtain ⟨ds, d, hr, e0, f⟩ := h
  obtain ⟨x, rfl, e⟩ := on1_inv e0
  clear e0
  obtain ⟨v, rfl, hv⟩ := hr.one_inv
  unfold tupD at e
  split at e
  · rename_i xs
    cases e
    obtain ⟨a, as, rfl, ha, sa⟩ := hv.lst_inv
    exact call_tuple_of pins s σ H _ us Q I r ⟨a, as, rfl, .inl ⟨.inl ha, fun l hl => f.newT hl sa⟩⟩
  · rename_i xs
    cases e
    obtain ⟨a, as, rfl, ha, sa⟩ := hv.tup_inv
    exact call_tuple_of pins s σ H _ us Q I r ⟨a, as, rfl, .inr ⟨ha, f.sh (.tup ha sa)⟩⟩
  · cases e
theorem call_lst_l : CallR X (.type "list") (rDL X.K (on1 lstD)) := by
  intro pins s σ H vs us Q I r h
  obtain ⟨ds, d, hr, e0, f⟩ := h
  obtain ⟨x, rfl, e⟩ := on1_inv e0
  clear e0
  obtain ⟨v, rfl, hv⟩ := hr.one_inv
  unfold lstD at e
  split at e
  · rename_i xs
    cases e
    obtain ⟨a, as, rfl, ha, sa⟩ := hv.lst_inv
    exact call_list_of pins s σ H _ us Q I r ⟨a, as, rfl, .inl (.inl ha), fun l hl => f.newL hl sa⟩
  · rename_i xs
    cases e
    obtain ⟨a, as, rfl, ha, sa⟩ := hv.tup_inv
    exact call_list_of pins s σ H _ us Q I r ⟨a, as, rfl, .inr ha, fun l hl => f.newL hl sa⟩
  · cases e
theorem lstD_lst {x d : PyData} (h : lstD x = some d) : ∃ es, d = .list es := by
  unfold lstD at h; split at h <;> cases h <;> exact ⟨_, rfl⟩
theorem sortD_lst {x d : PyData} (h : sortD x = some d) : ∃ es, d = .list es := by
  unfold sortD at h; split at h
  · split at h <;> cases h
    exact ⟨_, rfl⟩
  · split at h
    · split at h <;> cases h
      exact ⟨_, rfl⟩
    · cases h
  · cases h
theorem rDA_of {f : PyData → Option PyData} (hf : ∀ x d, f x = some d → ∃ es, d = .list es) {c : Value} (h : CallR X c (rDL X.K (on1 f))) : CallR X c (rDA X.K (on1 f)) := by
  intro pins s σ H vs us Q I r ⟨ds, d, hr, e0, g⟩
  obtain ⟨x, rfl, e⟩ := on1_inv e0
  obtain ⟨es, rfl⟩ := hf x d e
  exact h pins s σ H vs us Q I r ⟨_, es, hr, e0, g.lst⟩
theorem call_lst_d : CallR X (.type "list") (rDA X.K (on1 lstD)) := rDA_of (fun _ _ h => lstD_lst h) call_lst_l
theorem call_int_d : CallR X (.type "int") (rDA X.K (on1 intD)) := by
  intro pins s σ H vs us Q I r h
  obtain ⟨ds, d, hr, e0, f⟩ := h
  obtain ⟨x, rfl, e⟩ := on1_inv e0
  clear e0
  obtain ⟨v, rfl, hv⟩ := hr.one_inv
  unfold intD at e
  split at e
  · rename_i i
    cases e; cases hv.int_inv
    exact call_int1 pins s σ H _ us Q I r (.inl ⟨i, rfl, f.sh (.int _)⟩)
  · rename_i b
    cases e; cases hv.bl_inv
    exact call_int1 pins s σ H _ us Q I r (.inr ⟨b, rfl, f.sh (.int _)⟩)
  · cases e
theorem call_repr_d (hg : X.A.guards = some []) (hu : X.A.units + 64 < cLine) : CallR X (.builtin "repr") (rDA X.K (on1 reprD)) := by
  intro pins s σ H vs us Q I r h
  obtain ⟨ds, d, hr, e0, f⟩ := h
  obtain ⟨x, rfl, e⟩ := on1_inv e0
  clear e0
  obtain ⟨v, rfl, hv⟩ := hr.one_inv
  unfold reprD at e
  split at e
  · rename_i hc
    cases e
    simp only [Bool.and_eq_true, Bool.not_eq_true', decide_eq_true_eq] at hc
    obtain ⟨⟨⟨h1, h2⟩, h3⟩, h4⟩ := hc
    obtain ⟨u, rfl, ru⟩ := vals1 r
    obtain ⟨as, rd⟩ := Dp.reads I x v u (hv.dp h2) ru
    have fin : ∀ (h' : Heap) (u : Tok) (tk : Nat), (∀ b o, s.heap.get? b = some o → h'.get? b = some o) → EP X pins σ Q (.str x.shown u) { s with heap := h', toks := tk } :=
      fun h' u tk hk => ⟨.str _, H, I.kept hk, ⟨_, rfl⟩, f.sh (.str _)⟩
    have fin0 : ∀ (u : Tok) (tk : Nat), EP X pins σ Q (.str x.shown u) { s with toks := tk } := fun u tk => fin s.heap u tk fun _ _ q => q
    cases rd with
    | none => exact PySem.P.repr_of_none (fin0 _ _)
    | bool b => exact PySem.P.repr_of_bool (by have := fin0 s.toks (s.toks + 1); simpa [PyData.shown] using this)
    | int i t => exact PySem.P.repr_of_int (by simpa [PyData.showable] using h1) (fin0 _ _)
    | str y t => exact PySem.P.repr_of_str (fin0 _ _) (by simpa [PyData.shown] using h4)
    | list a b c dd => exact repr_of_reads' (.list a b c dd) h1 (fun z => by rw [h2] at z; cases z) hg (by omega) (fun _ _ q => q) fin h4
    | tuple a b c dd => exact repr_of_reads' (.tuple a b c dd) h1 (fun z => by rw [h2] at z; cases z) hg (by omega) (fun _ _ q => q) fin h4
    | dict a b c dd ee => simp [PyData.hasDict] at h2
  · cases e
theorem call_sort_l (hc0 : X.calm = true) (hu : X.A.units + 64 < cLine) : CallR X (.builtin "sorted") (rDL X.K (on1 sortD)) := by
  intro pins s σ H vs us Q I r h
  obtain ⟨ds, d, hr, e0, f⟩ := h
  obtain ⟨x, rfl, e⟩ := on1_inv e0
  clear e0
  obtain ⟨v, rfl, hv⟩ := hr.one_inv
  unfold sortD at e
  split at e
  · rename_i xs
    split at e
    · rename_i hc
      cases e
      obtain ⟨a, as, rfl, ha, sa⟩ := hv.lst_inv
      obtain ⟨u, rfl, ru⟩ := vals1 r
      cases ru
      obtain ⟨z, its, n, rv, hl, eo⟩ := rdL I ha
      unfold sortable at hc
      simp only [Bool.and_eq_true, Bool.or_eq_true, decide_eq_true_eq, List.all_eq_true, Bool.not_eq_true'] at hc
      obtain ⟨⟨⟨h1, h2⟩, h3⟩, h4⟩ := hc
      have hd : PyData.hasDictAll xs = false := by
        have : ∀ l : List PyData, (∀ d ∈ l, d.hasDict = false) → PyData.hasDictAll l = false := by
          intro l
          induction l with
          | nil => intro _; rfl
          | cons d l ih => intro hh; simp only [PyData.hasDictAll, hh d List.mem_cons_self, ih fun e he => hh e (List.mem_cons_of_mem _ he), Bool.or_self]
        exact this xs fun d q => (h3 d q).1
      have hrd := Dp.readsAll I xs as its (sa.dp hd) rv
      obtain ⟨e1, e2⟩ := eachIs_of rv hrd
      have hlen := sa.length
      have hsn : (as.zip xs).map Prod.snd = xs := zip_snd hlen
      refine PySem.W.sorted_data (enc := Prod.snd) (bs := as.zip xs) (R := fun (u : Value) (b : V × PyData) => RelV b.1 u) ⟨_, eo, rfl, _, rfl⟩ e1 e2 (by rw [hsn]; exact alikeB_ok h1) ?_ (by rw [List.length_zip]; omega) (fun b hb => ?_) fun out ho eo' => ?_
      · rw [hsn]
        rcases h2 with h2 | h2
        · refine .inl fun d q => ?_
          have := h2 d q
          unfold neT at this
          split at this
          · exact ⟨_, _, rfl⟩
          · cases this
        · refine .inr fun d q => ?_
          have := h2 d q
          cases d <;> simp [noTN] at this ⊢
      · have hm : b.2 ∈ xs := by rw [← hsn]; exact List.mem_map.mpr ⟨b, hb, rfl⟩
        have := (h3 b.2 hm).2
        omega
      · have rv' := eachIs_vals eo'
        obtain ⟨c, hcc⟩ := PyProof.Rows.sortedAll_at s.heap its out.toArray
        have hlo : out.length = xs.length := by rw [ho, List.length_zip]; omega
        have kp : ∀ b o, s.heap.get? b = some o → (PyProof.Rows.sortedAll s.heap its out.toArray).get? b = some o := fun _ _ => PyProof.Rows.sortedAll_old
        have hperm : ((as.zip xs).mergeSort (PySem.W.dataLe false Prod.snd)).length = xs.length := by rw [List.length_mergeSort, List.length_zip]; omega
        have hn : H (s.heap.objs.size + 1) = none := I.hok.fresh (Nat.le_succ _)
        have I2 : L2.Inv X pins σ (upd H (s.heap.objs.size + 1) (.lst (((as.zip xs).mergeSort (PySem.W.dataLe false Prod.snd)).map Prod.fst))) { s with heap := PyProof.Rows.sortedAll s.heap its out.toArray } :=
          I.laid (t' := s.toks) kp (Nat.le_succ _) (show ObjOk X.prog X.w _ _ _ (.lst _) from ⟨by rw [List.length_map, hperm]; exact h4, out, c, rv', hcc⟩)
        refine ⟨.ref _, _, I2, rfl, ?_⟩
        have hsh : ∀ p ∈ (as.zip xs).mergeSort (PySem.W.dataLe false Prod.snd), Sh X.K H p.1 p.2 := fun p hp => sa.zip_sh p (List.mem_mergeSort.mp hp)
        have hq := ShA.of_pairs hsh
        have hm : ((as.zip xs).mergeSort (PySem.W.dataLe false Prod.snd)).map Prod.snd = sortL xs := by
          have q := PySem.W.sort_maps (r := PySem.W.dataLe false (Prod.snd : V × PyData → PyData)) (s := PySem.W.dataLe false id) Prod.snd (l := as.zip xs) (fun _ _ _ _ => rfl)
          rw [hsn] at q
          exact q
        rw [hm] at hq
        exact f.newL hn hq
    · cases e
  · rename_i ds
    split at e
    · rename_i zs hz
      split at e
      · rename_i few
        cases e
        obtain ⟨a, kvs, rfl, hR, sk⟩ := keysS_rd hv hz
        refine call_sortedD hc0 pins s σ H _ us Q I r ⟨a, kvs, zs, rfl, hR, keysS_k sk hz, few, fun ys p pm srt hn => f.newL hn ?_⟩
        rw [← srt_uniq srt pm]
        exact sha_of_strs ys
      · cases e
    · cases e
  · cases e
theorem call_sort_d (hc0 : X.calm = true) (hu : X.A.units + 64 < cLine) : CallR X (.builtin "sorted") (rDA X.K (on1 sortD)) := rDA_of (fun _ _ h => sortD_lst h) (call_sort_l hc0 hu)
end
end Dv
end
section
namespace Dv
open PySem PySem.Spec PyProof.Rows L2

/-! ### all of a list of bools -/
def asB : PyData → Option Bool
  | .bool b => some b
  | _ => none
def boolsD : List PyData → Option (List Bool)
  | [] => some []
  | d :: ds => match asB d, boolsD ds with
    | some b, some bs => some (b :: bs)
    | _, _ => none
def allD : PyData → Option PyData
  | .list xs => (boolsD xs).map fun bs => .bool (bs.all id)
  | _ => none
theorem bools_v {K : PySem.W.Frag} {H : Hp} : ∀ {vs : List V} {ds : List PyData} {bs : List Bool}, ShA K H vs ds → boolsD ds = some bs → vs = bs.map V.bl
  | _, _, _, .nil, h => by simp only [boolsD] at h; cases h; rfl
  | _, _, _, .cons (d := d) h t, e => by
    simp only [boolsD] at e
    split at e
    · rename_i b bs e1 e2
      cases e
      rw [bools_v t e2]
      cases d <;> simp [asB] at e1
      subst e1
      cases h
      rfl
    · cases e
section
variable {X : Cx}
theorem call_all_d (hc : X.calm = true) : CallR X (.builtin "all") (rDA X.K (on1 allD)) := by
  intro pins s σ H vs us Q I r h
  obtain ⟨ds, d, hr, e0, f⟩ := h
  obtain ⟨x, rfl, e⟩ := on1_inv e0
  clear e0
  obtain ⟨v, rfl, hv⟩ := hr.one_inv
  unfold allD at e
  split at e
  · rename_i xs
    cases hb : boolsD xs with
    | none => rw [hb] at e; cases e
    | some bs =>
      rw [hb] at e
      cases e
      obtain ⟨a, as, rfl, ha, sa⟩ := hv.lst_inv
      have := bools_v sa hb
      subst this
      exact cr_all hc pins s σ H _ us Q I r ⟨a, bs, rfl, .inl ha, f.sh (.bl _)⟩
  · cases e
end

/-! ### xs[::-1] -/
def revD : PyData → Option PyData
  | .list xs => some (.list xs.reverse)
  | .tuple xs => some (.tuple xs.reverse)
  | _ => none
theorem ShA.rev {K : PySem.W.Frag} {H : Hp} : ∀ {vs : List V} {ds : List PyData}, ShA K H vs ds → ShA K H vs.reverse ds.reverse
  | _, _, .nil => .nil
  | _, _, .cons h t => by
    rw [List.reverse_cons, List.reverse_cons]
    exact (ShA.rev t).append (.cons h .nil)
theorem places_rev (n : Nat) : Builtin.Slice.slicePlaces ((n : Int) - 1) (-1) (-1) = n := by
  unfold Builtin.Slice.slicePlaces
  have h1 : ¬ ((-1 : Int) > 0) := by omega
  simp only [h1, if_false]
  split
  · rw [show (- (-1) : Int) = 1 by decide, Int.ediv_one]; omega
  · omega
theorem pick_rev (xs : Array Value) : ((List.range xs.size).filterMap fun (m : Nat) => xs[(((xs.size : Nat) : Int) - 1 + (m : Int) * (-1)).toNat]?) = xs.toList.reverse := by
  have e : (fun (m : Nat) => xs[(((xs.size : Nat) : Int) - 1 + (m : Int) * (-1)).toNat]?) = fun m => xs[xs.size - 1 - m]? := by
    funext m
    by_cases h : m < xs.size
    · have : (((xs.size : Nat) : Int) - 1 + (m : Int) * (-1)).toNat = xs.size - 1 - m := by omega
      rw [this]
    · have : (((xs.size : Nat) : Int) - 1 + (m : Int) * (-1)).toNat = xs.size - 1 - m := by omega
      rw [this]
  rw [e]
  have h1 : ∀ n (ys : List Value), ys.length = n → (List.range n).filterMap (fun m => ys[n - 1 - m]?) = ys.reverse := by
    intro n ys hl
    have : (List.range n).filterMap (fun m => ys[n - 1 - m]?) = ((List.range n).map fun m => n - 1 - m).filterMap fun k => ys[k]? := by
      rw [List.filterMap_map]; rfl
    rw [this, PySem.W.krv_range, List.filterMap_reverse]
    congr 1
    subst hl
    have h2 := PySem.W.krv_all ys.toArray
    simpa using h2
  have := h1 xs.size xs.toList (by simp)
  simpa using this
section
variable {prog : Program} {w : World} {A : Around} {E : Value → Shared → Prop} {s : Shared}
theorem applied_rev {sl : Addr} {vk : Value} {n : Nat} {Q : Int × Int × Nat → Shared → Prop} (hs : s.heap.IsSliceOf sl .none .none vk) (pk : IsPart vk (some (-1))) (h : Q ((n : Int) - 1, -1, n) s) :
    wpAny (model prog w) A (Builtin.Slice.sliceApplied (.ref sl) (pure (n : Int))) Q E s := by
  obtain ⟨os, hos, hcs, hds⟩ := id hs
  unfold Builtin.Slice.sliceApplied Builtin.Slice.sliceFields
  refine wpAny_bind (wpAny_bind (wpAny_field hos hds (x := .none) rfl (wpAny_bind (wpAny_field hos hds (x := .none) rfl (wpAny_bind (wpAny_field hos hds (x := vk) rfl (wpAny_pure ?_)))))))
  refine wpAny_bind (HT.slicePart_ pk ?_)
  show wpAny _ _ (if ((-1 : Int) == 0) = true then _ else _) _ _ s
  rw [if_neg (by decide)]
  refine wpAny_bind (HT.slicePart_ .none (wpAny_bind (HT.slicePart_ .none (wpAny_bind (wpAny_pure ?_)))))
  show wpAny _ _ (pure ((n : Int) - 1, (-1 : Int), Builtin.Slice.slicePlaces ((n : Int) - 1) (-1) (-1))) _ _ s
  rw [places_rev]
  exact wpAny_pure h
theorem tuple_rev {t sl : Addr} {items : Array Value} {vk : Value} {Q : Value → Shared → Prop} (ht : IsTup s.heap t items) (hs : s.heap.IsSliceOf sl .none .none vk) (pk : IsPart vk (some (-1)))
    (h : Q (.ref s.heap.objs.size) { s with heap := s.heap.push { cls := .type "tuple", data := .seq items.toList.reverse.toArray } }) (hsz : items.size ≤ sizeLine) : wpAny (model prog w) A (getItem (.ref t) (.ref sl)) Q E s := by
  have htake : sizeOk (.seq items.toList.reverse.toArray) := by
    show items.toList.reverse.toArray.size ≤ sizeLine
    rw [List.size_toArray, List.length_reverse, Array.length_toList]
    exact hsz
  obtain ⟨os, hos, hcs, hds⟩ := id hs
  have hTs : s.TypeIs (.ref sl) "slice" := ⟨os, hos, hcs⟩
  unfold getItem
  try with_reducible refine wpAny_holding ?_
  first | refine wpAny_bind (wpAny_pure ?_) | skip
  refine wpAny_bind (wpAny_sequenceKey ht.typeIs (by decide) ?_)
  refine wpAny_bind (wpAny_callSpecial?_slot (name := Str.ofString "__getitem__") ht.typeIs PyProof.Rows.slot_tuple_getitem
    (wpAny_call_entry PyProof.Rows.slot_tuple_getitem ht.typeIs entry_tuple_getitem ?_ (args_tuple_getitem _ _)))
  show wpAny _ _ (Builtin.Tuple.tupleItemsOf (.ref t) >>= _) _ _ s
  refine wpAny_bind (tupleItemsOf_ ht ?_)
  refine wpAny_bind (wpAny_typeOf hTs ?_)
  rw [if_pos (by decide)]
  refine wpAny_bind (applied_rev hs pk ?_)
  have hno : ¬ ((((items.size : Nat) : Int) - 1 == 0 && (-1 : Int) == 1 && items.size == items.size) = true) := by
    intro q
    rw [Bool.and_eq_true, Bool.and_eq_true] at q
    exact absurd q.1.2 (by decide)
  show wpAny _ _ (if (((items.size : Nat) : Int) - 1 == 0 && (-1 : Int) == 1 && items.size == items.size) = true then _ else _) _ _ s
  rw [if_neg hno, pick_rev]
  first
    | exact wpAny_bind (m := Builtin.Tuple.tupleExact _) (wpAny_newObj_type (wpAny_pure ⟨_, rfl, wpAny_pure h⟩) htake)
    | exact wpAny_bind (m := Builtin.Tuple.tupleExact _) (wpAny_newObj_type (wpAny_bind (wpAny_pure (wpAny_pure ⟨_, rfl, wpAny_pure h⟩))) htake)
    | exact wpAny_bind (wpAny_bind (m := Builtin.Tuple.tupleExact _) (wpAny_newObj_type (wpAny_pure (wpAny_pure ⟨_, rfl, wpAny_pure h⟩)) htake))
    | exact wpAny_bind (wpAny_bind (m := Builtin.Tuple.tupleExact _) (wpAny_newObj_type (wpAny_pure ⟨_, rfl, wpAny_pure h⟩) htake))
end
theorem pe_either {X : Cx} {e : Expr} {t1 t2 : TE} (h1 : PE X e t1) (h2 : PE X e t2) : PE X e fun σ H Q => t1 σ H Q ∨ t2 σ H Q := ⟨fun pins s σ H Q I h => h.elim (h1.run pins s σ H Q I) (h2.run pins s σ H Q I)⟩
def tRevT (K : PySem.W.Frag) (te : TE) : TE := fun σ H Q => te σ H fun x H1 => ∃ a xs, x = .ref a ∧ SqT K H1 a xs ∧ ∀ p, H1 p = none → Q (.ref p) (upd H1 p (.tup xs.reverse))
section
variable {X : Cx}
theorem pe_revT {e : Expr} {te : TE} {k : Nat} {p1 p2 p3 pos : Pos} (he : PE X e te) : PE X (.Subscript e (.Slice none none (some (.UnaryOp .USub (.Constant (.int 1) k p1) p2)) p3) pos) (tRevT X.K te) := by
  have hst : PO X (some (.UnaryOp .USub (.Constant (.int 1) k p1) p2)) (tPart (tUn (rU fun i => .int (-i)) (tC (.int 1)))) := po_some (pe_un un_neg pe_int)
  constructor
  intro pins s σ H Q I h
  apply Subscript_
  apply thn (he.run pins s σ H _ I h)
  rintro v s1 ⟨x, H1, I1, r1, a, xs, rfl, hx, q⟩
  cases r1
  apply wpAny_Slice
  apply thn (po_none.run pins s1 σ H1 (fun o K2 => o = none ∧ K2 = H1) I1 ⟨rfl, rfl⟩)
  rintro vl s2 ⟨_, _, I2, pl, rfl, rfl⟩
  apply thn (po_none.run pins s2 σ _ (fun o K3 => o = none ∧ K3 = _) I2 ⟨rfl, rfl⟩)
  rintro vu s3 ⟨_, _, I3, pu, rfl, rfl⟩
  apply thn (hst.run pins s3 σ _ (fun o K4 => o = some (-1) ∧ K4 = _) I3 ⟨1, rfl, -1, rfl, rfl, rfl⟩)
  rintro vs s4 ⟨_, H4, I4, ps, rfl, rfl⟩
  cases pl
  cases pu
  have I5 : Inv X pins σ H4 { s4 with heap := s4.heap.push { cls := .type "slice", data := .fields #[.none, .none, vs] } } := I4.kept (t' := s4.toks) fun b ob z => Heap.get?_push_of_some _ z
  obtain ⟨its, r, ht, hz⟩ := I5.tuple hx
  have hl := r.length
  have key : wpAny (model X.prog X.w) X.A (getItem (.ref a) (.ref s4.heap.objs.size)) (EP X pins σ Q) X.xe { s4 with heap := s4.heap.push { cls := .type "slice", data := .fields #[.none, .none, vs] } } := by
    apply tuple_rev ht (Heap.IsSliceOf.new _ .none .none vs) ps ?_ (by rw [List.size_toArray]; omega)
    refine ⟨.ref _, _, I5.laid (t' := s4.toks) (o := .tup xs.reverse) (fun b ob z => Heap.get?_push_of_some _ z) (Nat.le_refl _) ?_, rfl, q _ (I5.hok.fresh (Nat.le_refl _))⟩
    exact ⟨by rw [List.length_reverse]; exact hz, _, r.reverse, IsTup.new _ _⟩
  exact tail_any (ops := [.ref a, .ref s4.heap.objs.size]) ht.typeIs PyProof.Rows.slot_tuple_getitem.lookup key (by with_unfolding_all rfl)
theorem pe_rev {e : Expr} {te : TE} {k : Nat} {p1 p2 p3 pos : Pos} (he : PE X e te) : PE X (.Subscript e (.Slice none none (some (.UnaryOp .USub (.Constant (.int 1) k p1) p2)) p3) pos) (fun σ H Q => tRevL X.K te σ H Q ∨ tRevT X.K te σ H Q) := pe_either (pe_revL he) (pe_revT he)
end
end Dv
end
section
namespace Dv
open PySem PySem.Spec PyProof.Rows L2

/-! ### the state by value -/
abbrev Fp := Nat → List Addr
/-- a slot that may be given another value -/
def setB : Ty → Bool
  | .sh => true
  | .lst m => decide (m = .own)
  | .dic m => decide (m = .own)
  | .pd => true
structure SR (K : PySem.W.Frag) (ty : List Ty) (G : Addr → Prop) (fx : Nat → Option V) (H : Hp) (σ : L2.St) (env : Env) (As : Fp) : Prop where
  ls : σ.length = ty.length
  le : env.length = ty.length
  sl : ∀ i τ d, ty[i]? = some τ → env[i]? = some (some d) → ∃ v, σ[i]? = some (some v) ∧ Rep K G H τ v d (As i)
  fix : ∀ i v, fx i = some v → σ[i]? = some (some v) ∧ ∃ d, env[i]? = some (some d)
  fxo : ∀ i v, fx i = some v → ∃ τ, ty[i]? = some τ ∧ setB τ = false
  dj : ∀ i j a, a ∈ As i → a ∈ As j → i = j
  off : ∀ i a, a ∈ As i → ¬ G a ∧ H a ≠ none
  gk : ∀ a, G a → H a ≠ none
  al : ∀ (i : Nat) τ, ty[i]? = some τ → setB τ = false → ∃ d, env[i]? = some (some d)
theorem fetch_some {env : Env} {i : Nat} {d : PyData} (h : fetch env i = some d) : env[i]? = some (some d) := by
  unfold fetch at h
  cases e : env[i]? with
  | none => rw [e] at h; cases h
  | some o => rw [e] at h; cases o with
    | none => cases h
    | some x => cases h; rfl
section
variable {K : PySem.W.Frag} {ty : List Ty} {G : Addr → Prop} {fx : Nat → Option V} {H H' H2 : Hp} {σ : L2.St} {env env' : Env} {As : Fp}
theorem SR.get (S : SR K ty G fx H σ env As) {i : Nat} {d : PyData} (h : fetch env i = some d) : ∃ τ v, ty[i]? = some τ ∧ σ[i]? = some (some v) ∧ Rep K G H τ v d (As i) := by
  have e := fetch_some h
  have hi : i < ty.length := by
    rw [← S.le]; exact (List.getElem?_eq_some_iff.mp e).1
  obtain ⟨v, h1, h2⟩ := S.sl i _ d (List.getElem?_eq_getElem hi) e
  exact ⟨_, v, List.getElem?_eq_getElem hi, h1, h2⟩
theorem keep_of (s : Same H H') : ∀ a, H a ≠ none → H' a = H a := fun a h => by
  cases e : H a with
  | none => exact absurd e h
  | some o => exact s a o e
/-- nothing of ours is written, new things may have come -/
theorem SR.same (S : SR K ty G fx H σ env As) (s : Same H H') : SR K ty G fx H' σ env As := by
  have keep := keep_of s
  refine ⟨S.ls, S.le, fun i τ d h1 h2 => ?_, S.fix, S.fxo, S.dj, fun i a h => ⟨(S.off i a h).1, ?_⟩, fun a h => ?_, S.al⟩
  · obtain ⟨v, e, r⟩ := S.sl i τ d h1 h2
    exact ⟨v, e, r.stay (Ext.of_same s) (fun a g => keep a (S.gk a g)) fun a h => keep a (S.off i a h).2⟩
  · rw [keep a (S.off i a h).2]; exact (S.off i a h).2
  · rw [keep a (S.gk a h)]; exact S.gk a h
theorem SR.nofx (S : SR K ty G fx H σ env As) {i : Nat} {τ : Ty} (h : ty[i]? = some τ) (hs : setB τ = true) : fx i = none := by
  cases e : fx i with
  | none => rfl
  | some v =>
    obtain ⟨τ', h1, h2⟩ := S.fxo i v e
    rw [h] at h1; cases h1
    rw [hs] at h2; cases h2
theorem SR.fr (S : SR K ty G fx H σ env As) (s : Same H H') : Fr G H H' := fun a g => keep_of s a (S.gk a g)
/-- a slot is given a value -/
theorem SR.put (S : SR K ty G fx H σ env As) {i : Nat} {τ : Ty} {v : V} {d : PyData} {A : List Addr} (hi : ty[i]? = some τ) (r : Rep K G H τ v d A) (hA : ∀ a ∈ A, ¬ G a ∧ H a ≠ none ∧ ∀ j, j ≠ i → a ∉ As j)
    (hs : setB τ = true) : SR K ty G fx H (σ.set i (some v)) (env.set i (some d)) fun j => if j = i then A else As j := by
  have hlt : i < ty.length := (List.getElem?_eq_some_iff.mp hi).1
  have hf := S.nofx hi hs
  refine ⟨by rw [List.length_set]; exact S.ls, by rw [List.length_set]; exact S.le, fun j τ' d' h1 h2 => ?_, fun j w h => ?_, S.fxo, fun j k a h1 h2 => ?_, fun j a h => ?_, S.gk, fun j τ' h1 h2 => ?_⟩
  · by_cases hj : j = i
    · subst hj
      rw [hi] at h1; cases h1
      rw [List.getElem?_set_self (by rw [S.le]; exact hlt)] at h2
      cases h2
      exact ⟨v, List.getElem?_set_self (by rw [S.ls]; exact hlt), by rw [if_pos rfl]; exact r⟩
    · rw [List.getElem?_set_ne (Ne.symm hj)] at h2
      obtain ⟨w, e, q⟩ := S.sl j τ' d' h1 h2
      exact ⟨w, by rw [List.getElem?_set_ne (Ne.symm hj)]; exact e, by rw [if_neg hj]; exact q⟩
  · have hj : j ≠ i := fun e => by rw [e, hf] at h; cases h
    obtain ⟨a, b, c⟩ := S.fix j w h
    exact ⟨by rw [List.getElem?_set_ne (Ne.symm hj)]; exact a, b, by rw [List.getElem?_set_ne (Ne.symm hj)]; exact c⟩
  · by_cases hj : j = i
    · rw [if_pos hj] at h1
      by_cases hk : k = i
      · rw [hj, hk]
      · rw [if_neg hk] at h2
        exact absurd h2 ((hA a h1).2.2 k hk)
    · rw [if_neg hj] at h1
      by_cases hk : k = i
      · rw [if_pos hk] at h2
        exact absurd h1 ((hA a h2).2.2 j hj)
      · rw [if_neg hk] at h2
        exact S.dj j k a h1 h2
  · by_cases hj : j = i
    · rw [if_pos hj] at h; exact ⟨(hA a h).1, (hA a h).2.1⟩
    · rw [if_neg hj] at h; exact S.off j a h
  · have hj : j ≠ i := fun e => by subst e; rw [hi] at h1; cases h1; rw [hs] at h2; cases h2
    obtain ⟨d', e⟩ := S.al j τ' h1 h2
    exact ⟨d', by rw [List.getElem?_set_ne (Ne.symm hj)]; exact e⟩
/-- a slot is forgotten by value -/
theorem SR.drop (S : SR K ty G fx H σ env As) {i : Nat} {τ : Ty} (hi : ty[i]? = some τ) (hs : setB τ = true) : SR K ty G fx H σ (env.set i none) fun j => if j = i then [] else As j := by
  have hf := S.nofx hi hs
  refine ⟨S.ls, by rw [List.length_set]; exact S.le, fun j τ' d' h1 h2 => ?_, fun j w h => ?_, S.fxo, fun j k a h1 h2 => ?_, fun j a h => ?_, S.gk, fun j τ' h1 h2 => ?_⟩
  · by_cases hj : j = i
    · subst hj
      by_cases hl : j < env.length
      · rw [List.getElem?_set_self hl] at h2; cases h2
      · rw [List.getElem?_eq_none (by rw [List.length_set]; omega)] at h2; cases h2
    · rw [List.getElem?_set_ne (Ne.symm hj)] at h2
      obtain ⟨w, e, q⟩ := S.sl j τ' d' h1 h2
      exact ⟨w, e, by rw [if_neg hj]; exact q⟩
  · have hj : j ≠ i := fun e => by rw [e, hf] at h; cases h
    obtain ⟨a, b, c⟩ := S.fix j w h
    exact ⟨a, b, by rw [List.getElem?_set_ne (Ne.symm hj)]; exact c⟩
  · by_cases hj : j = i
    · rw [if_pos hj] at h1; cases h1
    · rw [if_neg hj] at h1
      by_cases hk : k = i
      · rw [if_pos hk] at h2; cases h2
      · rw [if_neg hk] at h2; exact S.dj j k a h1 h2
  · by_cases hj : j = i
    · rw [if_pos hj] at h; cases h
    · rw [if_neg hj] at h; exact S.off j a h
  · have hj : j ≠ i := fun e => by subst e; rw [hi] at h1; cases h1; rw [hs] at h2; cases h2
    obtain ⟨d', e⟩ := S.al j τ' h1 h2
    exact ⟨d', by rw [List.getElem?_set_ne (Ne.symm hj)]; exact e⟩
end

/-! ### what is evaluated -/
def min2D : PyData → PyData → Option PyData
  | .int i, .int j => some (.int (if j < i then j else i))
  | _, _ => none
def max2D : PyData → PyData → Option PyData
  | .int i, .int j => some (.int (if j > i then j else i))
  | _, _ => none
/-- the keywords' values in the parameters' order -/
def permD (pm : List Nat) (ds : List PyData) : List PyData := pm.filterMap fun i => ds[i]?
def isOkNone : Option PyData → Bool
  | none => true
  | some _ => false
def intsD : List PyData → Option (List Int)
  | [] => some []
  | .int i :: ds => (intsD ds).map (i :: ·)
  | _ => none
def sumD : PyData → Option PyData
  | .list xs => (intsD xs).map fun ns => .int ns.sum
  | _ => none
def minD : PyData → Option PyData
  | .list xs => match intsD xs with | some (n :: ns) => some (.int (ns.foldl min n)) | _ => none
  | .tuple xs => match intsD xs with | some (n :: ns) => some (.int (ns.foldl min n)) | _ => none
  | _ => none
def maxD : PyData → Option PyData
  | .list xs => match intsD xs with | some (n :: ns) => some (.int (ns.foldl max n)) | _ => none
  | .tuple xs => match intsD xs with | some (n :: ns) => some (.int (ns.foldl max n)) | _ => none
  | _ => none
def distD : List Int → List Int
  | [] => []
  | n :: ns => if n ∈ distD ns then distD ns else n :: distD ns
def lensD : PyData → Option PyData
  | .tuple xs => match intsD xs with | some ns => if ns.length ≤ 1000 then some (.int (distD ns).length) else none | _ => none
  | _ => none
def evOp : Op → List PyData → Option PyData
  | .add => on2 addD | .sub => on2 subD | .mul => on2 mulD | .mod => on2 modD | .fdiv => on2 fdivD | .pow => on2 powD | .neg => on1 negD
  | .eq => on2 eqD | .ne => on2 neD | .lt => on2 ltD | .le => on2 leD | .gt => on2 fun a b => ltD b a | .ge => on2 fun a b => leD b a
  | .isN => on2 fun a b => if isNone b then some (.bool (isNone a)) else none
  | .notN => on2 fun a b => if isNone b then some (.bool (!isNone a)) else none
  | .isIn => on2 inD | .notIn => on2 notinD
  | .ix => on2 ixD | .len => on1 lenD | .tup => on1 tupD | .lst => on1 lstD | .srt => on1 sortD | .repr => on1 reprD | .int => on1 intD
  | .all => on1 allD | .rev => on1 revD | .min2 => on2 min2D | .max2 => on2 max2D
  | .sum => on1 sumD | .min1 => on1 minD | .max1 => on1 maxD | .lens => on1 lensD | .srs => on1 srsD | .addl => on2 addlD
def typeName : PyData → String
  | .none => "NoneType"
  | .bool _ => "bool"
  | .int _ => "int"
  | .str _ => "str"
  | .list _ => "list"
  | .tuple _ => "tuple"
  | .dict _ => "dict"
def isaOne (a b : String) : Bool := a == b || (a == "bool" && b == "int")
def isaD (ts : List String) (d : PyData) : Option Bool := match d with
  | .dict _ => none
  | _ => some (ts.any fun t => isaOne (typeName d) t)
def itemsD : PyData → Option (List PyData)
  | .list xs => some xs
  | .tuple xs => some xs
  | .str z => if z.length ≤ sizeLine then some (z.cps.toList.map fun c => .str ⟨#[c]⟩) else none
  | _ => none
def partD : Option PyData → Option (Option Int)
  | none => some none
  | some (.int i) => some (some i)
  | _ => none
def cutL {α : Type} (xs : List α) (lo hi : Option Int) : List α := (xs.drop (HT.sIx xs.length 0 lo)).take (HT.sIx xs.length xs.length hi - HT.sIx xs.length 0 lo)
def slI (d : PyData) (l h : Option Int) : Option PyData := match d with
  | .list xs => some (.list (cutL xs l h))
  | .tuple xs => some (.tuple (cutL xs l h))
  | .str z => if z.length ≤ sizeLine then some (.str (cutS z l h)) else none
  | _ => none
def slD (d : PyData) (lo hi : Option PyData) : Option PyData := match partD lo, partD hi with
  | some l, some h => slI d l h
  | _, _ => none
def rngD : List PyData → Option (List PyData)
  | [.int j] => if -(2 ^ 62) ≤ j ∧ j < 2 ^ 62 then some ((List.range j.toNat).map fun k => .int ((k : Nat) : Int)) else none
  | [.int i, .int j] => if -(2 ^ 62) ≤ i ∧ i < 2 ^ 62 ∧ -(2 ^ 62) ≤ j ∧ j < 2 ^ 62 then some ((List.range (j - i).toNat).map fun k => .int (i + ((k : Nat) : Int))) else none
  | _ => none

def enmD : List PyData → Option (List PyData)
  | [.list xs] => some (xs.mapIdx fun i x => .tuple [.int ((i : Nat) : Int), x])
  | [.tuple xs] => some (xs.mapIdx fun i x => .tuple [.int ((i : Nat) : Int), x])
  | _ => none
def zipD : List PyData → Option (List PyData)
  | [.list xs, .list ys] => some (List.zipWith (fun x y => .tuple [x, y]) xs ys)
  | [.tuple xs, .tuple ys] => some (List.zipWith (fun x y => .tuple [x, y]) xs ys)
  | _ => none

def isK (x : Str) (p : PyData × PyData) : Bool := match p.1 with
  | .str y => decide (y = x)
  | _ => false
def dLook (ds : List (PyData × PyData)) (x : Str) : Option PyData := (ds.find? (isK x)).map (·.2)
def dPut (ds : List (PyData × PyData)) (x : Str) (d : PyData) : List (PyData × PyData) :=
  if ds.any (isK x) = true then ds.map (fun p => if isK x p = true then (p.1, d) else p) else ds ++ [(.str x, d)]
def pairsD : List PyData → Option (List (Str × PyData))
  | [] => some []
  | .tuple [.str x, d] :: r => (pairsD r).map ((x, d) :: ·)
  | _ => none
def dMk (ps : List (Str × PyData)) : List (PyData × PyData) := ps.foldl (fun m p => dPut m p.1 p.2) []

def wback : List E → Env → Env → Env
  | .b i :: as, some d :: outs, env => wback as outs (env.set i (some d))
  | _ :: as, _ :: outs, env => wback as outs env
  | _, _, env => env

section
variable (cal : Nat → List PyData → CRes)
mutual
def evE : E → Env → Res PyData
  | .k c, env => .ok c env
  | .v i, env => match fetch env i with | some d => .ok d env | none => .bad
  | .b i, env => .bad
  | .mv i, env => match fetch env i with | some d => .ok d (env.set i none) | none => .bad
  | .op o as, env => (evOs as env).bind fun ds env => match evOp o ds with | some d => .ok d env | none => .bad
  | .sl (.b i) lo hi, env => match fetch env i with
    | none => .bad
    | some _ => (evOpt lo env).bind fun l env => (evOpt hi env).bind fun h env => match fetch env i with
      | none => .bad
      | some d => match slD d l h with | some d => .ok d env | none => .bad
  | .sl a lo hi, env => (evE a env).bind fun d env => (evOpt lo env).bind fun l env => (evOpt hi env).bind fun h env => match slD d l h with | some d => .ok d env | none => .bad
  | .isa (.b i) ts, env => match fetch env i with
    | none => .bad
    | some d => match isaD ts d with | some b => .ok (.bool b) env | none => .bad
  | .isa a ts, env => (evE a env).bind fun d env => match isaD ts d with | some b => .ok (.bool b) env | none => .bad
  | .tup es, env => (evEs es env).bind fun ds env => if ds.length ≤ sizeLine then .ok (.tuple ds) env else .bad
  | .lst es, env => (evEs es env).bind fun ds env => if ds.length ≤ sizeLine then .ok (.list ds) env else .bad
  | .and a b, env => (evE a env).bind fun d env => match d with | .bool true => evE b env | .bool false => .ok (.bool false) env | _ => .bad
  | .or a b, env => (evE a env).bind fun d env => match d with | .bool true => .ok (.bool true) env | .bool false => evE b env | _ => .bad
  | .not a, env => (evE a env).bind fun d env => match d with | .bool x => .ok (.bool (!x)) env | _ => .bad
  | .ite c a b, env => (evE c env).bind fun d env => match d with | .bool true => evE a env | .bool false => evE b env | _ => .bad
  | .ch o1 o2 a b c, env => (evE a env).bind fun x env => (evE b env).bind fun y env => match evOp o1 [x, y] with
    | some (.bool true) => (evE c env).bind fun z env => match evOp o2 [y, z] with | some d => .ok d env | none => .bad
    | some (.bool false) => .ok (.bool false) env
    | _ => .bad
  | .call f as, env => (evOs as env).bind fun ds env => match cal f ds with
    | .ok d outs => .ok d (wback as outs env)
    | .ex x outs => .ex x (wback as outs env)
    | .bad => .bad
  | .comp tg it ifs elt, env => (evIt it env).bind fun xs env => (compL (fun x e => match setTg tg x (wipeE (tgSlots tg) e) with
      | none => .bad
      | some e => (evIf ifs e).bind fun b e => if b then (evE elt e).bind fun y e => .ok (some y) e else .ok none e) xs env).bind fun ys e =>
        if xs.length < sizeLine then .ok (.list ys) (backE (tgSlots tg) env e) else .bad
  | .pop i a, env => match fetch env i with
    | none => .bad
    | some _ => (evE a env).bind fun k env => match fetch env i, k with
      | some (.list xs), .int j => if -(2 ^ 62) ≤ j ∧ j < 2 ^ 62 then match ixN xs.length j with
        | some n => match xs[n]? with
          | some y => .ok y (env.set i (some (.list (xs.eraseIdx n))))
          | none => .bad
        | none => .bad
        else .bad
      | _, _ => .bad
  | .kcall f ns pm as, env => (evEs as env).bind fun ds env => match cal f (permD pm ds) with
    | .ok d outs => .ok d env
    | .ex x outs => .ex x env
    | .bad => .bad
  | .dget i a, env => match fetch env i with
    | none => .bad
    | some _ => (evE a env).bind fun k env => match fetch env i, k with
      | some (.dict ds), .str x => match dLook ds x with | some d => .ok d env | none => .bad
      | _, _ => .bad
  | .dct a, env => (evE a env).bind fun d env => match d with
    | .list xs => match pairsD xs with | some ps => .ok (.dict (dMk ps)) env | none => .bad
    | _ => .bad
  | .dcm tg it ifs k v, env => (evIt it env).bind fun xs env => (compL (fun x e => match setTg tg x (wipeE (tgSlots tg) e) with
      | none => .bad
      | some e => (evIf ifs e).bind fun b e => if b then (evE k e).bind fun kd e => (evE v e).bind fun vd e => .ok (some (.tuple [kd, vd])) e else .ok none e) xs env).bind fun ys e =>
        if xs.length < sizeLine then (match pairsD ys with | some ps => .ok (.dict (dMk ps)) (backE (tgSlots tg) env e) | none => .bad) else .bad
  | .pd a b, env => (evE a env).bind fun x env => (evE b env).bind fun y env => match y with
    | .dict ds => .ok (.dict [(x, .dict ds)]) env
    | _ => .bad
def evOs : List E → Env → Res (List PyData)
  | [], env => .ok [] env
  | .b i :: r, env => match fetch env i with
    | none => .bad
    | some _ => (evOs r env).bind fun ds env => match fetch env i with | some d => .ok (d :: ds) env | none => .bad
  | e :: r, env => (evE e env).bind fun d env => (evOs r env).bind fun ds env => .ok (d :: ds) env
def evEs : List E → Env → Res (List PyData)
  | [], env => .ok [] env
  | e :: r, env => (evE e env).bind fun d env => (evEs r env).bind fun ds env => .ok (d :: ds) env
def evOpt : Option E → Env → Res (Option PyData)
  | none, env => .ok none env
  | some e, env => (evE e env).bind fun d env => .ok (some d) env
def evIf : Option E → Env → Res Bool
  | none, env => .ok true env
  | some e, env => (evE e env).bind fun d env => match d with | .bool b => .ok b env | _ => .bad
def evIt : It → Env → Res (List PyData)
  | .seq (.b i), env => match fetch env i with
    | none => .bad
    | some d => match itemsD d with | some xs => .ok xs env | none => .bad
  | .seq e, env => (evE e env).bind fun d env => match itemsD d with | some xs => .ok xs env | none => .bad
  | .rng es, env => (evEs es env).bind fun ds env => match rngD ds with | some xs => .ok xs env | none => .bad
  | .enm es, env => (evEs es env).bind fun ds env => match enmD ds with | some xs => .ok xs env | none => .bad
  | .zip es, env => (evEs es env).bind fun ds env => match zipD ds with | some xs => .ok xs env | none => .bad
end
end
end Dv
end
section
namespace Dv
open PySem PySem.Spec PyProof.Rows L2

/-! ### keywords -/
def pmOf (ps ns : List Str) : List Nat := ps.map fun p => ns.idxOf p
def permV {α : Type} (pm : List Nat) (xs : List α) : List α := pm.filterMap fun i => xs[i]?
/-- how a call by keywords alone binds -/
def KwB (K : PySem.W.Frag) (fd : FuncData) (ps ns : List Str) : Prop := ∀ (s : Shared) (ws : List Value), K.In s.heap → ws.length = ns.length → BindsTo s fd ⟨[], ns.zip ws⟩ (ps.zip (permV (pmOf ps ns) ws))
theorem permV_vals {vs : List V} {us : List Value} (h : Vals vs us) : ∀ pm : List Nat, Vals (permV pm vs) (permV pm us)
  | [] => .nil
  | i :: pm => by
    have t := permV_vals h pm
    unfold permV at t ⊢
    rw [List.filterMap_cons, List.filterMap_cons]
    cases e : vs[i]? with
    | none =>
      have : us[i]? = none := by
        have := List.getElem?_eq_none_iff.mp e
        exact List.getElem?_eq_none_iff.mpr (by rw [← h.length]; exact this)
      rw [this]; exact t
    | some v =>
      obtain ⟨u, hu, r⟩ := h.get e
      rw [hu]; exact .cons r t
theorem permV_sha {K : PySem.W.Frag} {H : Hp} {vs : List V} {ds : List PyData} (h : ShA K H vs ds) : ∀ pm : List Nat, ShA K H (permV pm vs) (permD pm ds)
  | [] => .nil
  | i :: pm => by
    have t := permV_sha h pm
    unfold permV permD at t ⊢
    rw [List.filterMap_cons, List.filterMap_cons]
    cases e : ds[i]? with
    | none =>
      have : vs[i]? = none := by
        have := List.getElem?_eq_none_iff.mp e
        exact List.getElem?_eq_none_iff.mpr (by rw [h.length]; exact this)
      rw [this]; exact t
    | some d =>
      obtain ⟨v, hv, r⟩ := h.get e
      rw [hv]; exact .cons r t
/-! ### what stands fixed in a body -/
structure Fsig where
  name : Str
  ps : List Str
  tys : List Ty
  ret : Ty
  kws : List (List Str)
structure Gam where
  N : List Str
  sc : Scope
  cel : List Str
  ty : List Ty
  fs : List Fsig
def visB (sc : Scope) (x : Str) : Bool := match sc.names.lookup x with
  | some .local => true
  | some .cell => true
  | some .free => true
  | _ => false
def notDbg (x : Str) : Bool := !(x == ("__debug__" : Str)) && !(x == ("__classdict__" : Str)) && !(x == ("__name__" : Str))
def slotB (Γ : Gam) (i : Nat) (x : Str) : Bool := decide (Γ.N[i]? = some x) && visB Γ.sc x && notDbg x
def glB (Γ : Gam) (x : Str) : Bool := decide (Γ.sc.names.lookup x = some .globalImplicit) && notDbg x
/-- what is held as one's own, or is handed in to be written -/
def isOwn : Ty → Bool
  | .sh => false
  | .lst m => !decide (m = .bor)
  | .dic m => !decide (m = .bor)
  | .pd => false
def freeB (Γ : Gam) (i : Nat) : Bool := match Γ.ty[i]? with | some τ => setB τ | none => false
def storB (Γ : Gam) (i : Nat) (x : Str) : Bool := decide (Γ.N[i]? = some x) && (decide (Γ.sc.names.lookup x = some .local) || (decide (Γ.sc.names.lookup x = some .cell) && Γ.cel.contains x)) && freeB Γ i
def bltNames : List Str := ["len", "tuple", "list", "sorted", "repr", "int", "range", "isinstance", "str", "bool", "all", "enumerate", "zip", "min", "max", "sum", "abs", "set", "dict", "any", "reversed"]

/-- the parameters as they come in -/
structure PRep (K : PySem.W.Frag) (tys : List Ty) (G : Addr → Prop) (H : Hp) (vs : List V) (ds : List PyData) (As : Fp) : Prop where
  lv : vs.length = tys.length
  ld : ds.length = tys.length
  at_ : ∀ (i : Nat) τ v d, tys[i]? = some τ → vs[i]? = some v → ds[i]? = some d → Rep K G H τ v d (As i)
  dj : ∀ i j a, a ∈ As i → a ∈ As j → i = j
  off : ∀ i a, a ∈ As i → ¬ G a ∧ H a ≠ none
  gk : ∀ a, G a → H a ≠ none
/-- what a def promises -/
def spD (K : PySem.W.Frag) (sg : Fsig) (c : List PyData → CRes) : Sp := fun vs H Q _ => ∃ G ds As d outs, PRep K sg.tys G H vs ds As ∧ c ds = .ok d outs ∧
  ∀ (v : V) (H' : Hp) (As' : Fp) (A : List Addr), Rep K G H' sg.ret v d A → (∀ (i : Nat) τ w e, sg.tys[i]? = some τ → isOwn τ = true → vs[i]? = some w → outs[i]? = some (some e) → Rep K G H' τ w e (As' i)) →
    (∀ (i : Nat) τ, sg.tys[i]? = some τ → isOwn τ = true → ∃ e, outs[i]? = some (some e)) →
    (∀ i j a, a ∈ As' i → a ∈ As' j → i = j) → (∀ i a, a ∈ As' i → ¬ G a ∧ H' a ≠ none) → (∀ a ∈ A, ¬ G a ∧ H' a ≠ none ∧ ∀ i, a ∉ As' i) → Fr G H H' → Ext H H' → Q v H'
def tyOk : Ty → PyData → Bool
  | .sh, _ => true
  | .lst _, .list _ => true
  | .dic _, .dict _ => true
  | _, _ => false
def tyOks : List Ty → List PyData → Bool
  | [], [] => true
  | τ :: ts, d :: ds => tyOk τ d && tyOks ts ds
  | _, _ => false
def outsOk : List Ty → Env → Bool
  | [], [] => true
  | τ :: ts, o :: os => (isOwn τ == o.isSome) && outsOk ts os
  | _, _ => false
structure Good (X : Cx) (Γ : Gam) (cal : Nat → List PyData → CRes) : Prop where
  hN : X.N = Γ.N
  nd : Γ.N.Nodup
  hsc : X.env.scope = Γ.sc
  calm : X.calm = true
  gd : X.A.guards = some []
  un : X.A.units + 200 < cLine
  cel : ∀ x, Γ.cel.contains x = true → X.fn x = true
  blt : ∀ x ∈ bltNames, X.mg x = none
  fns : ∀ (f : Nat) sg, Γ.fs[f]? = some sg → ∃ fa fd k, X.mg sg.name = some (.ref fa) ∧ PySem.W.keepIn X.K (.ref fa) = true ∧ FnG X.prog X.w X.K X.mg X.base CX0 k fa fd sg.ps (spD X.K sg (cal f)) ∧ Room k X.A ∧ Binds X.K fd sg.ps [] ∧ ∀ ns ∈ sg.kws, KwB X.K fd sg.ps ns
  chk : ∀ (f : Nat) sg ds d outs, Γ.fs[f]? = some sg → cal f ds = .ok d outs → tyOks sg.tys ds = true ∧ outsOk sg.tys outs = true

section
variable {X : Cx} {Γ : Gam} {cal : Nat → List PyData → CRes}
theorem slot_ok (g : Good X Γ cal) {i : Nat} {x : Str} (h : slotB Γ i x = true) : X.N[i]? = some x ∧ Vis X.env.scope x ∧ (x == ("__debug__" : Str)) = false ∧ (x == ("__classdict__" : Str)) = false := by
  unfold slotB notDbg at h
  simp only [Bool.and_eq_true, decide_eq_true_eq, Bool.not_eq_true'] at h
  obtain ⟨⟨h1, h2⟩, ⟨h3, h4⟩, h5⟩ := h
  refine ⟨by rw [g.hN]; exact h1, ?_, h3, h4⟩
  rw [g.hsc]
  unfold visB at h2
  unfold Vis
  split at h2 <;> first | (rename_i q; simp [q]; done) | cases h2
theorem gl_ok (g : Good X Γ cal) {x : Str} (h : glB Γ x = true) : Gl X x ∧ (x == ("__debug__" : Str)) = false ∧ x ≠ "__name__" := by
  unfold glB notDbg at h
  simp only [Bool.and_eq_true, decide_eq_true_eq, Bool.not_eq_true'] at h
  obtain ⟨h1, ⟨h3, h4⟩, h5⟩ := h
  refine ⟨?_, h3, fun e => ?_⟩
  · show X.env.scope.names.lookup x = _
    rw [g.hsc]; exact h1
  · subst e; simp at h5
theorem stor_ok (g : Good X Γ cal) {i : Nat} {x : Str} (h : storB Γ i x = true) : X.N[i]? = some x ∧ Loc X.env.scope x ∧ (X.fn x = true ∨ X.env.scope.names.lookup x = some .local) := by
  unfold storB at h
  simp only [Bool.and_eq_true, Bool.or_eq_true, decide_eq_true_eq] at h
  obtain ⟨⟨h1, h2⟩, h3⟩ := h
  rw [g.hN, g.hsc]
  refine ⟨h1, ?_, ?_⟩
  · rcases h2 with h2 | h2
    · exact .inl h2
    · exact .inr h2.1
  · rcases h2 with h2 | h2
    · exact .inr h2
    · exact .inl (g.cel _ h2.2)
end

/-! ### readings by value -/
def TDe (K : PySem.W.Frag) (ty : List Ty) (ev : Env → Res PyData) (κ : Ty) : TE := fun σ H Q => ∃ G fx env As d env', SR K ty G fx H σ env As ∧ ev env = .ok d env' ∧
  ∀ v H' As' A, SR K ty G fx H' σ env' As' → Rep K G H' κ v d A → (∀ a ∈ A, ¬ G a ∧ H' a ≠ none ∧ ∀ i, a ∉ As' i) → Fr G H H' → Ext H H' → Q v H'
inductive OA (K : PySem.W.Frag) (H : Hp) (σ : L2.St) (env : Env) : List E → List V → List PyData → Prop
  | nil : OA K H σ env [] [] []
  | b {i : Nat} {r : List E} {v : V} {d : PyData} {vs : List V} {ds : List PyData} : σ[i]? = some (some v) → fetch env i = some d → OA K H σ env r vs ds → OA K H σ env (.b i :: r) (v :: vs) (d :: ds)
  | e {e : E} {r : List E} {v : V} {d : PyData} {vs : List V} {ds : List PyData} : (∀ i, e ≠ .b i) → Sh K H v d → OA K H σ env r vs ds → OA K H σ env (e :: r) (v :: vs) (d :: ds)
theorem SR.rt {K : PySem.W.Frag} {ty : List Ty} {G : Addr → Prop} {fx : Nat → Option V} {H : Hp} {σ : L2.St} {env : Env} {As : Fp} (S : SR K ty G fx H σ env As) {i : Nat} {v : V} {d : PyData} (h1 : σ[i]? = some (some v)) (h2 : fetch env i = some d) : Rt K H v d := by
  obtain ⟨τ, w, _, e, r⟩ := S.get h2
  rw [e] at h1; cases h1
  exact r.rt
theorem OA.rtA {K : PySem.W.Frag} {ty : List Ty} {G : Addr → Prop} {fx : Nat → Option V} {H : Hp} {σ : L2.St} {env : Env} {As : Fp} (S : SR K ty G fx H σ env As) : ∀ {as : List E} {vs : List V} {ds : List PyData}, OA K H σ env as vs ds → RtA K H vs ds
  | _, _, _, .nil => .nil
  | _, _, _, .b h1 h2 t => .cons (S.rt h1 h2) (OA.rtA S t)
  | _, _, _, .e _ h t => .cons (.sh h) (OA.rtA S t)
def TDo (K : PySem.W.Frag) (ty : List Ty) (cal : Nat → List PyData → CRes) (as : List E) : TA := fun σ H Q => ∃ G fx env As ds env', SR K ty G fx H σ env As ∧ evOs cal as env = .ok ds env' ∧
  ∀ vs H' As', SR K ty G fx H' σ env' As' → OA K H' σ env' as vs ds → Fr G H H' → Ext H H' → Q vs H'
def tO (K : PySem.W.Frag) (ty : List Ty) (cal : Nat → List PyData → CRes) : E → TE
  | .b i => tVar i
  | e => TDe K ty (evE cal e) .sh
def tOs (K : PySem.W.Frag) (ty : List Ty) (cal : Nat → List PyData → CRes) : List E → TA
  | [] => tNil
  | e :: r => tCons (tO K ty cal e) (tOs K ty cal r)
theorem tO_ne {K : PySem.W.Frag} {ty : List Ty} {cal : Nat → List PyData → CRes} {e : E} (h : ∀ i, e ≠ .b i) : tO K ty cal e = TDe K ty (evE cal e) .sh := by
  cases e <;> first | rfl | exact absurd rfl (h _)
theorem evOs_ne {cal : Nat → List PyData → CRes} {e : E} {r : List E} {env : Env} (h : ∀ i, e ≠ .b i) : evOs cal (e :: r) env = (evE cal e env).bind fun d env => (evOs cal r env).bind fun ds env => .ok (d :: ds) env := by
  cases e <;> first | rfl | exact absurd rfl (h _)
theorem bind_ok {α β : Type} {r : Res α} {f : α → Env → Res β} {b : β} {env : Env} (h : r.bind f = .ok b env) : ∃ a e, r = .ok a e ∧ f a e = .ok b env := by
  cases r with
  | ok a e => exact ⟨a, e, rfl, h⟩
  | ex x e => cases h
  | bad => cases h
def bOf : E → Option Nat
  | .b i => some i
  | _ => none
theorem bOf_some {e : E} {i : Nat} (h : bOf e = some i) : e = .b i := by cases e <;> simp [bOf] at h; rw [h]
theorem bOf_none {e : E} (h : bOf e = none) : ∀ i, e ≠ .b i := fun i q => by subst q; cases h
theorem Rep.sh_inv {K : PySem.W.Frag} {G : Addr → Prop} {H : Hp} {v : V} {d : PyData} {A : List Addr} (h : Rep K G H .sh v d A) : Sh K H v d ∧ A = [] := h
section
variable {K : PySem.W.Frag} {ty : List Ty} {cal : Nat → List PyData → CRes}
theorem tOs_of : ∀ (as : List E) (σ : L2.St) (H : Hp) (Q : List V → Hp → Prop), TDo K ty cal as σ H Q → tOs K ty cal as σ H Q
  | [], σ, H, Q, ⟨G, fx, env, As, ds, env', S, e, k⟩ => by
    simp only [evOs] at e
    cases e
    exact k [] H As S .nil (Fr.refl G H) (Ext.refl H)
  | a :: r, σ, H, Q, ⟨G, fx, env, As, ds, env', S, e, k⟩ => by
    cases hb : bOf a with
    | some i =>
      have := bOf_some hb
      subst this
      simp only [evOs] at e
      split at e
      · cases e
      · rename_i d0 h0
        obtain ⟨ds1, env1, e1, e2⟩ := bind_ok e
        split at e2
        · rename_i d1 h1
          cases e2
          obtain ⟨τ, v, _, hσ, _⟩ := S.get h0
          refine ⟨v, hσ, tOs_of r σ H _ ⟨G, fx, env, As, ds1, env', S, e1, fun vs H' As' S' o f x => k _ H' As' S' (.b hσ h1 o) f x⟩⟩
        · cases e2
    | none =>
      have hn := bOf_none hb
      rw [evOs_ne hn] at e
      obtain ⟨d, env1, e1, e2⟩ := bind_ok e
      obtain ⟨ds1, env2, e3, e4⟩ := bind_ok e2
      cases e4
      show tO K ty cal a σ H _
      rw [tO_ne hn]
      refine ⟨G, fx, env, As, d, env1, S, e1, fun v H1 As1 A1 S1 r1 _ f1 x1 => tOs_of r σ H1 _ ⟨G, fx, env1, As1, ds1, env', S1, e3, fun vs H' As' S' o f x => k _ H' As' S' (.e hn (r1.sh_inv.1.ext x) o) (f1.trans f) (x1.trans x)⟩⟩
end
theorem peImp {X : Cx} {e : Expr} {t t' : TE} (h : PE X e t) (i : ∀ σ H Q, t' σ H Q → t σ H Q) : PE X e t' := ⟨fun pins s σ H Q I q => h.run pins s σ H Q I (i σ H Q q)⟩
theorem ptImp {X : Cx} {e : Expr} {t t' : TT} (h : PT X e t) (i : ∀ σ H Q, t' σ H Q → t σ H Q) : PT X e t' := ⟨fun pins s σ H Q I q => h.run pins s σ H Q I (i σ H Q q)⟩
/-- a new list is locked for ever -/
def tFz (t : TE) : TE := fun σ H Q => t σ H fun v H' => Q v H' ∨ ∃ p vs, v = .ref p ∧ H' p = some (.lst vs) ∧ ∀ o, Q v (upd H' p (.frz o (.lst vs)))
theorem pe_fz {X : Cx} {e : Expr} {t : TE} (h : PE X e t) : PE X e (tFz t) := by
  refine ⟨fun pins s σ H Q I q => thn (h.run pins s σ H _ I q) fun u s' ⟨v, H', I', r, z⟩ => ?_⟩
  rcases z with z | ⟨p, vs, rfl, hp, z⟩
  · exact ⟨v, H', I', r, z⟩
  · obtain ⟨o, I2⟩ := I'.lock hp True.intro
    exact ⟨_, _, I2, r, z o⟩
section
variable {K : PySem.W.Frag} {ty : List Ty} {G : Addr → Prop} {fx : Nat → Option V} {H H' : Hp} {σ : L2.St} {env : Env} {As : Fp}
theorem upd_frz_ext {p : Addr} {vs : List V} {o : Obj} (h : H p = some (.lst vs)) : Ext H (upd H p (.frz o (.lst vs))) :=
  ⟨fun b xs q => by rw [upd_ne (fun e => by subst e; rw [h] at q; cases q)]; exact q, fun b o' u q => by rw [upd_ne (fun e => by subst e; rw [h] at q; cases q)]; exact q⟩
/-- .. where it is nobody's -/
theorem SR.frz (S : SR K ty G fx H σ env As) {p : Addr} {u : HO} (x : Ext H (upd H p u)) (hg : ¬ G p) (ha : ∀ i, p ∉ As i) : SR K ty G fx (upd H p u) σ env As ∧ Fr G H (upd H p u) := by
  have f : Fr G H (upd H p u) := fun a g => upd_ne fun e => hg (by rw [← e]; exact g)
  refine ⟨⟨S.ls, S.le, fun i τ d h1 h2 => ?_, S.fix, S.fxo, S.dj, fun i a h => ⟨(S.off i a h).1, ?_⟩, fun a h => ?_, S.al⟩, f⟩
  · obtain ⟨v, e, r⟩ := S.sl i τ d h1 h2
    exact ⟨v, e, r.stay x f fun a h => upd_ne fun e => ha i (by rw [← e]; exact h)⟩
  · rw [upd_ne fun e => ha i (by rw [← e]; exact h)]; exact (S.off i a h).2
  · rw [f a h]; exact S.gk a h
theorem ShA.frz {p : Addr} {vs : List V} {o : Obj} {ws : List V} {ds : List PyData} (h : H p = some (.lst vs)) (s : ShA K H ws ds) : ShA K (upd H p (.frz o (.lst vs))) ws ds := s.ext (upd_frz_ext h)
end
/-- an operation's end, shared -/
theorem fin_sh {K : PySem.W.Frag} {ty : List Ty} {G : Addr → Prop} {fx : Nat → Option V} {H H1 : Hp} {σ : L2.St} {env' : Env} {As' : Fp} {d : PyData} {Q : VK} (S : SR K ty G fx H1 σ env' As') (f1 : Fr G H H1) (x1 : Ext H H1)
    (k : ∀ v H' As' A, SR K ty G fx H' σ env' As' → Rep K G H' .sh v d A → (∀ a ∈ A, ¬ G a ∧ H' a ≠ none ∧ ∀ i, a ∉ As' i) → Fr G H H' → Ext H H' → Q v H') :
    Fin K H1 d fun v H' => Q v H' ∨ ∃ p vs, v = .ref p ∧ H' p = some (.lst vs) ∧ ∀ o, Q v (upd H' p (.frz o (.lst vs))) := by
  intro v H2 s ro
  have S2 := S.same s
  have f2 := f1.trans (S.fr s)
  have x2 := x1.trans (Ext.of_same s)
  rcases ro with h | ⟨p, vs, ds, rfl, rfl, hn, hp, sa⟩
  · exact .inl (k v H2 As' [] S2 ⟨h, rfl⟩ (fun a h => by cases h) f2 x2)
  · refine .inr ⟨p, vs, rfl, hp, fun o => ?_⟩
    have hg : ¬ G p := fun g => S.gk p g hn
    have ha : ∀ i, p ∉ As' i := fun i h => (S.off i p h).2 hn
    have xe := upd_frz_ext (o := o) hp
    obtain ⟨S3, f3⟩ := S2.frz xe hg ha
    exact k _ _ As' [] S3 ⟨.lst ⟨o, upd_same⟩ (sa.ext xe), rfl⟩ (fun a h => by cases h) (f2.trans f3) (x2.trans xe)
/-- an operation's end, a new list of one's own -/
theorem fin_own {K : PySem.W.Frag} {ty : List Ty} {G : Addr → Prop} {fx : Nat → Option V} {H H1 H2 : Hp} {σ : L2.St} {env' : Env} {As' : Fp} {ds : List PyData} {p : Addr} {vs : List V} {Q : VK} (S : SR K ty G fx H1 σ env' As') (f1 : Fr G H H1) (x1 : Ext H H1)
    (k : ∀ v H' As' A, SR K ty G fx H' σ env' As' → Rep K G H' (.lst .own) v (.list ds) A → (∀ a ∈ A, ¬ G a ∧ H' a ≠ none ∧ ∀ i, a ∉ As' i) → Fr G H H' → Ext H H' → Q v H')
    (s : Same H1 H2) (hn : H1 p = none) (hp : H2 p = some (.lst vs)) (sa : ShA K H2 vs ds) : Q (.ref p) H2 := by
  refine k _ H2 As' [p] (S.same s) ⟨p, vs, ds, rfl, rfl, hp, sa, rfl⟩ (fun a h => ?_) (f1.trans (S.fr s)) (x1.trans (Ext.of_same s))
  rw [List.mem_singleton.mp h]
  exact ⟨fun g => S.gk p g hn, by rw [hp]; simp, fun i h => (S.off i p h).2 hn⟩
end Dv
end
section
namespace Dv
open PySem PySem.Spec PyProof.Rows L2

/-! ### which text an expression stands for -/
def binOp : Operator → Option Op
  | .Add => some .add | .Sub => some .sub | .Mult => some .mul | .Mod => some .mod | .FloorDiv => some .fdiv | .Pow => some .pow
  | _ => none
def cmpOp : CmpOp → Option Op
  | .Eq => some .eq | .NotEq => some .ne | .Lt => some .lt | .LtE => some .le | .Gt => some .gt | .GtE => some .ge
  | .Is => some .isN | .IsNot => some .notN | .In => some .isIn | .NotIn => some .notIn
def bltOp (x : Str) : Option Op :=
  if x = "len" then some .len else if x = "tuple" then some .tup else if x = "list" then some .lst else if x = "sorted" then some .srt else if x = "repr" then some .repr else if x = "int" then some .int else if x = "all" then some .all else if x = "sum" then some .sum else if x = "min" then some .min1 else if x = "max" then some .max1 else none
def bltOp2 (x : Str) : Option Op := if x = "min" then some .min2 else if x = "max" then some .max2 else none
def kwName : Keyword → Option Str
  | ⟨a, _, _⟩ => a
def notStar : Expr → Bool
  | .Starred _ _ => false
  | _ => true
def notSl : Expr → Bool
  | .Slice _ _ _ _ => false
  | _ => true
def notSet : Expr → Bool
  | .Set _ _ _ => false
  | _ => true
def ckK : PyData → Expr → Bool
  | .none, .Constant .none _ _ => true
  | .bool b, .Constant (.bool c) _ _ => b == c
  | .int i, .Constant (.int j) _ _ => decide (i = j)
  | .str x, .Constant (.str y) _ _ => decide (x = y)
  | _, _ => false
def isaNames : List String := ["int", "str", "bool", "tuple", "list"]
def ckIsa (Γ : Gam) (ts : List String) : Expr → Bool
  | .Name x _ => glB Γ x && decide (ts.map Str.ofString = [x]) && ts.all isaNames.contains
  | .Tuple es _ _ => es.all (fun e => match e with | .Name x _ => glB Γ x | _ => false) && decide (es.filterMap (fun e => match e with | .Name x _ => some x | _ => none) = ts.map Str.ofString) && ts.all isaNames.contains && decide (ts.length ≤ 9) && es.all notStar
  | _ => false
def own1 (κ : Ty) : Bool := decide (κ = .sh) || decide (κ = .lst .own)
def lockTy (ty : List Ty) : It → List Ty
  | .seq (.b i) => ty.set i (.lst .bor)
  | _ => ty
def celOf (sc : Scope) : List Str := sc.names.filterMap fun p => if p.2 = .cell then some p.1 else none
def ownOf (Γ : Gam) : Tg → List (Str × Nat)
  | .one i => [((Γ.N[i]?).getD Str.empty, i)]
  | .tup is => is.map fun i => ((Γ.N[i]?).getD Str.empty, i)
def ckTg (Γ : Gam) : Tg → Expr → Bool
  | .one i, .Name x _ => storB Γ i x && decide (Γ.ty[i]? = some .sh)
  | .tup is, .Tuple es _ _ => decide (is.length = es.length) && (is.zip es).all (fun p => match p.2 with | .Name x _ => storB Γ p.1 x && decide (Γ.ty[p.1]? = some .sh) | _ => false)
  | _, _ => false
def Gam.blk (Γ : Gam) (scope : Scope) (it : It) : Gam := { Γ with sc := relS scope Γ.sc, cel := celOf scope, ty := lockTy Γ.ty it }
def argN : Ty → Bool
  | .sh => true
  | .lst .bor => true
  | _ => false
def argB : E → Ty → List Ty → Bool
  | .b i, τ, ty => match τ, ty[i]? with
    | .lst .par, some (.lst m) => !decide (m = .bor)
    | .lst .bor, some (.lst _) => true
    | .dic .par, some (.dic m) => !decide (m = .bor)
    | .dic .bor, some (.dic _) => true
    | _, _ => false
  | _, τ, _ => argN τ
theorem argB_n {a : E} {τ : Ty} {ty : List Ty} (h : ∀ i, a ≠ .b i) : argB a τ ty = argN τ := by
  cases a <;> first | rfl | exact absurd rfl (h _)
def isAnd : E → Bool
  | .and _ _ => true
  | _ => false
def isOr : E → Bool
  | .or _ _ => true
  | _ => false
def nodupB : List Nat → Bool
  | [] => true
  | i :: is => !is.contains i && nodupB is
/-- a walk over pairs wants a tuple for its target -/
def itTg : It → Expr → Bool
  | .enm _, t => match t with | .Tuple _ _ _ => true | _ => false
  | .zip _, t => match t with | .Tuple _ _ _ => true | _ => false
  | _, _ => true
mutual
def ckE (Γ : Gam) : E → Expr → Ty → Bool
  | .k c, e, κ => decide (κ = .sh) && ckK c e
  | .v i, e, κ => decide (κ = .sh) && (match e with | .Name x _ => slotB Γ i x && decide (Γ.ty[i]? = some .sh) | _ => false)
  | .b _, _, _ => false
  | .mv i, e, κ => match e with | .Name x _ => slotB Γ i x && ((decide (Γ.ty[i]? = some κ) && setB κ && !decide (κ = .sh)) || (decide (κ = .sh) && decide (Γ.ty[i]? = some (.lst .own)))) | _ => false
  | .op o as, e, κ => match e with
    | .BinOp l b r _ => if o = .addl then own1 κ && decide (binOp b = some .add) && ckOs Γ as [l, r] else decide (κ = .sh) && decide (binOp b = some o) && ckOs Γ as [l, r]
    | .UnaryOp .USub x _ => decide (κ = .sh) && decide (o = .neg) && ckOs Γ as [x]
    | .Compare l [c] [r] _ => decide (κ = .sh) && decide (cmpOp c = some o) && !behindInMarks c r && ckOs Γ as [l, r]
    | .Subscript v (.Slice none none (some (.UnaryOp .USub (.Constant (.int 1) _ _) _)) _) _ => decide (κ = .sh) && decide (o = .rev) && ckOs Γ as [v]
    | .Subscript v i _ => decide (κ = .sh) && decide (o = .ix) && notSl i && ckOs Γ as [v, i]
    | .Call (.Name f _) [a, b] [] _ => decide (κ = .sh) && decide (bltOp2 f = some o) && glB Γ f && bltNames.contains f && notStar a && notStar b && ckOs Γ as [a, b]
    | .Call (.Name f _) [a] [] _ => if o = .srs then decide (κ = .sh) && decide (f = "sorted") && glB Γ f && (match a with | .Call (.Name g _) [b] [] _ => decide (g = "set") && glB Γ g && notStar b && ckOs Γ as [b] | _ => false) else if o = .lens then decide (κ = .sh) && decide (f = "len") && glB Γ f && (match a with | .Call (.Name g _) [b] [] _ => decide (g = "set") && glB Γ g && notStar b && ckOs Γ as [b] | _ => false) else (decide (κ = .sh) || (decide (κ = .lst .own) && (decide (o = .lst) || decide (o = .srt)))) && decide (bltOp f = some o) && glB Γ f && bltNames.contains f && notStar a && ckOs Γ as [a]
    | _ => false
  | .sl (.b i) lo hi, e, κ => match e with
    | .Subscript v (.Slice l h none _) _ => decide (κ = .sh) && (match v with | .Name x _ => slotB Γ i x | _ => false) && ckP Γ lo l && ckP Γ hi h
    | _ => false
  | .sl a lo hi, e, κ => match e with
    | .Subscript v (.Slice l h none _) _ => decide (κ = .sh) && ckE Γ a v .sh && ckP Γ lo l && ckP Γ hi h
    | _ => false
  | .isa (.b i) ts, e, κ => match e with
    | .Call (.Name f _) [x, t] [] _ => decide (κ = .sh) && decide (f = "isinstance") && glB Γ f && notStar x && notStar t && (match x with | .Name y _ => slotB Γ i y | _ => false) && ckIsa Γ ts t
    | _ => false
  | .isa a ts, e, κ => match e with
    | .Call (.Name f _) [x, t] [] _ => decide (κ = .sh) && decide (f = "isinstance") && glB Γ f && notStar x && notStar t && ckE Γ a x .sh && ckIsa Γ ts t
    | _ => false
  | .tup es, e, κ => match e with | .Tuple xs _ _ => decide (κ = .sh) && ckEs Γ es xs | _ => false
  | .lst es, e, κ => match e with | .List xs _ => own1 κ && ckEs Γ es xs | _ => false
  | .and a b, e, κ => match e with
    | .BoolOp .And [x, y] _ => decide (κ = .sh) && ckE Γ a x .sh && ckE Γ b y .sh
    | .BoolOp .And (x :: y :: z :: r) p => decide (κ = .sh) && ckE Γ a x .sh && isAnd b && ckE Γ b (.BoolOp .And (y :: z :: r) p) .sh
    | _ => false
  | .or a b, e, κ => match e with
    | .BoolOp .Or [x, y] _ => decide (κ = .sh) && ckE Γ a x .sh && ckE Γ b y .sh
    | .BoolOp .Or (x :: y :: z :: r) p => decide (κ = .sh) && ckE Γ a x .sh && isOr b && ckE Γ b (.BoolOp .Or (y :: z :: r) p) .sh
    | _ => false
  | .not a, e, κ => match e with | .UnaryOp .Not x _ => decide (κ = .sh) && ckE Γ a x .sh | _ => false
  | .ite c a b, e, κ => match e with | .IfExp t x y _ => decide (κ = .sh) && ckE Γ c t .sh && ckE Γ a x .sh && ckE Γ b y .sh | _ => false
  | .ch o1 o2 a b c, e, κ => match e with
    | .Compare x [p, q] [y, z] _ => decide (κ = .sh) && decide (cmpOp p = some o1) && decide (cmpOp q = some o2) && !lastMarks [p, q] [y, z] && ckE Γ a x .sh && ckE Γ b y .sh && ckE Γ c z .sh
    | _ => false
  | .call f as, e, κ => match e with
    | .Call (.Name x _) es [] _ => glB Γ x && (match Γ.fs[f]? with
      | some sg => decide (sg.name = x) && (decide (κ = sg.ret) || (decide (κ = .sh) && decide (sg.ret = .lst .own))) && setB sg.ret && decide (sg.ps.length = sg.tys.length) && ckAs Γ as es sg.tys && (nodupB (as.filterMap bOf)) && es.all notStar
      | none => false)
    | _ => false
  | .comp tg it ifs elt, e, κ => match e with
    | .ListComp x [⟨t, i, cs, 0⟩] scope _ => own1 κ && ckIt Γ it i && notSet i && blkC Γ.N Γ.sc scope (ownOf Γ tg) && ckTg (Γ.blk scope it) tg t && ckIf (Γ.blk scope it) ifs cs && ckE (Γ.blk scope it) elt x .sh && nodupB (tgSlots tg) && itTg it t
    | _ => false
  | .pop i a, e, κ => match e with
    | .Call (.Attribute (.Name x _) m ap) [y] [] cp => decide (κ = .sh) && (ap.endLine == cp.line) && decide (m = "pop") && slotB Γ i x && (match Γ.ty[i]? with | some (.lst m) => !decide (m = .bor) | _ => false) && notStar y && ckE Γ a y .sh
    | _ => false
  | .kcall f ns pm as, e, κ => match e with
    | .Call (.Name x _) [] kws _ => glB Γ x && (match Γ.fs[f]? with
      | some sg => decide (sg.name = x) && decide (κ = .sh) && decide (sg.ret = .sh) && sg.tys.all (fun t => decide (t = .sh)) && decide (sg.ps.length = sg.tys.length) && sg.kws.contains ns && decide (pm = pmOf sg.ps ns) && ckKs Γ ns as kws
      | none => false)
    | _ => false
  | .dget i a, e, κ => match e with
    | .Subscript (.Name x _) ix _ => decide (κ = .sh) && slotB Γ i x && (match Γ.ty[i]? with | some (.dic _) => true | _ => false) && notSl ix && ckE Γ a ix .sh
    | _ => false
  | .dct a, e, κ => match e with
    | .Call (.Name f _) [x] [] _ => decide (κ = .dic .own) && decide (f = "dict") && glB Γ f && notStar x && ckE Γ a x .sh
    | _ => false
  | .dcm tg it ifs k v, e, κ => match e with
    | .DictComp kx vx [⟨t, i, cs, 0⟩] scope _ => decide (κ = .sh) && ckIt Γ it i && notSet i && blkC Γ.N Γ.sc scope (ownOf Γ tg) && ckTg (Γ.blk scope it) tg t && ckIf (Γ.blk scope it) ifs cs && ckE (Γ.blk scope it) k kx .sh && ckE (Γ.blk scope it) v vx .sh && nodupB (tgSlots tg) && itTg it t
    | _ => false
  | .pd a b, e, κ => match e with
    | .Tuple [x, y] _ _ => decide (κ = .pd) && notStar x && notStar y && ckE Γ a x .sh && ckE Γ b y (.dic .own)
    | _ => false
def ckKs (Γ : Gam) : List Str → List E → List Keyword → Bool
  | [], [], [] => true
  | n :: ns, a :: as, ⟨some m, e, _⟩ :: ks => decide (n = m) && ckE Γ a e .sh && ckKs Γ ns as ks
  | _, _, _ => false
def ckOs (Γ : Gam) : List E → List Expr → Bool
  | [], [] => true
  | .b i :: as, e :: es => (match e with | .Name x _ => slotB Γ i x | _ => false) && ckOs Γ as es
  | a :: as, e :: es => ckE Γ a e .sh && ckOs Γ as es
  | _, _ => false
def ckEs (Γ : Gam) : List E → List Expr → Bool
  | [], [] => true
  | a :: as, e :: es => notStar e && ckE Γ a e .sh && ckEs Γ as es
  | _, _ => false
def ckAs (Γ : Gam) : List E → List Expr → List Ty → Bool
  | [], [], [] => true
  | .b i :: as, e :: es, τ :: ts => (match e with | .Name x _ => slotB Γ i x | _ => false) && argB (.b i) τ Γ.ty && ckAs Γ as es ts
  | a :: as, e :: es, τ :: ts => argB a τ Γ.ty && ckE Γ a e .sh && ckAs Γ as es ts
  | _, _, _ => false
def ckP (Γ : Gam) : Option E → Option Expr → Bool
  | none, none => true
  | some a, some e => ckE Γ a e .sh
  | _, _ => false
def ckIf (Γ : Gam) : Option E → List Expr → Bool
  | none, [] => true
  | some a, [e] => ckE Γ a e .sh
  | _, _ => false
def ckIt (Γ : Gam) : It → Expr → Bool
  | .seq (.b i), e => (match e with | .Name x _ => slotB Γ i x && (match Γ.ty[i]? with | some (.lst _) => true | _ => false) | _ => false)
  | .seq a, e => ckE Γ a e .sh
  | .rng es, e => match e with | .Call (.Name f _) xs [] _ => decide (f = "range") && glB Γ f && ckEs Γ es xs && (decide (xs.length = 1) || decide (xs.length = 2)) | _ => false
  | .enm es, e => match e with | .Call (.Name f _) xs [] _ => decide (f = "enumerate") && glB Γ f && ckEs Γ es xs && decide (xs.length = 1) | _ => false
  | .zip es, e => match e with | .Call (.Name f _) xs [] _ => decide (f = "zip") && glB Γ f && ckEs Γ es xs && decide (xs.length = 2) | _ => false
end
end Dv
end
section
namespace Dv
open PySem PySem.Spec PyProof.Rows L2

/-! ### sums, least, greatest, how many kinds -/
theorem intsD_eq : ∀ {xs : List PyData} {ns : List Int}, intsD xs = some ns → xs = ns.map .int
  | [], ns, h => by cases h; rfl
  | x :: xs, ns, h => by
    cases x with
    | int i =>
      simp only [intsD] at h
      cases e : intsD xs with
      | none => rw [e] at h; cases h
      | some ms => rw [e] at h; cases h; rw [intsD_eq e]; rfl
    | _ => cases h
theorem sha_intsB {K : PySem.W.Frag} {H : Hp} : ∀ {ns : List Int} {vs : List V}, ShA K H vs (ns.map .int) → vs = ns.map V.int
  | [], _, .nil => rfl
  | n :: ns, _, .cons h t => by cases h; rw [sha_intsB t]; rfl
theorem rt_list {K : PySem.W.Frag} {H : Hp} {v : V} {xs : List PyData} (h : Rt K H v (.list xs)) : ∃ a vs, v = .ref a ∧ SqL K H a vs ∧ ShA K H vs xs := by
  cases h with
  | sh h => cases h with | lst hq sa => exact ⟨_, _, rfl, .inl hq.rd, sa⟩
  | lst hq sa => exact ⟨_, _, rfl, .inl hq, sa⟩
theorem rt_tuple {K : PySem.W.Frag} {H : Hp} {v : V} {xs : List PyData} (h : Rt K H v (.tuple xs)) : ∃ a vs, v = .ref a ∧ SqT K H a vs ∧ ShA K H vs xs := by
  cases h with
  | sh h => cases h with | tup hq sa => exact ⟨_, _, rfl, hq, sa⟩
theorem least : ∀ (ns : List Int) (n : Int), ns.foldl min n ∈ n :: ns ∧ ∀ y ∈ n :: ns, ns.foldl min n ≤ y
  | [], n => ⟨by simp, by simp⟩
  | m :: ns, n => by
    obtain ⟨h1, h2⟩ := least ns (min n m)
    rw [List.foldl_cons]
    have h3 := h2 (min n m) List.mem_cons_self
    refine ⟨?_, fun y hy => ?_⟩
    · rcases List.mem_cons.mp h1 with h | h
      · rw [h]
        rcases Int.le_total n m with q | q
        · rw [Int.min_eq_left q]; exact List.mem_cons_self
        · rw [Int.min_eq_right q]; exact List.mem_cons_of_mem _ List.mem_cons_self
      · exact List.mem_cons_of_mem _ (List.mem_cons_of_mem _ h)
    · rcases List.mem_cons.mp hy with rfl | hy
      · omega
      · rcases List.mem_cons.mp hy with rfl | hy
        · omega
        · exact h2 y (List.mem_cons_of_mem _ hy)
theorem most : ∀ (ns : List Int) (n : Int), ns.foldl max n ∈ n :: ns ∧ ∀ y ∈ n :: ns, y ≤ ns.foldl max n
  | [], n => ⟨by simp, by simp⟩
  | m :: ns, n => by
    obtain ⟨h1, h2⟩ := most ns (max n m)
    rw [List.foldl_cons]
    have h3 := h2 (max n m) List.mem_cons_self
    refine ⟨?_, fun y hy => ?_⟩
    · rcases List.mem_cons.mp h1 with h | h
      · rw [h]
        rcases Int.le_total n m with q | q
        · rw [Int.max_eq_right q]; exact List.mem_cons_of_mem _ List.mem_cons_self
        · rw [Int.max_eq_left q]; exact List.mem_cons_self
      · exact List.mem_cons_of_mem _ (List.mem_cons_of_mem _ h)
    · rcases List.mem_cons.mp hy with rfl | hy
      · omega
      · rcases List.mem_cons.mp hy with rfl | hy
        · omega
        · exact h2 y (List.mem_cons_of_mem _ hy)
section
variable {X : Cx}
theorem call_sum_d (hc : X.calm = true) : CallR X (.builtin "sum") (rDA X.K (on1 sumD)) := by
  intro pins s σ H vs us Q I r h
  obtain ⟨ds, d, hr, e0, f⟩ := h
  obtain ⟨x, rfl, e⟩ := on1_inv e0
  obtain ⟨v, rfl, hv⟩ := hr.one_inv
  unfold sumD at e
  split at e
  · rename_i xs
    cases hn : intsD xs with
    | none => rw [hn] at e; cases e
    | some ns =>
      rw [hn] at e; cases e
      obtain ⟨a, vs, rfl, hq, sa⟩ := rt_list hv
      rw [intsD_eq hn] at sa
      have := sha_intsB sa
      subst this
      exact cr_sum hc pins s σ H _ us Q I r ⟨a, ns, rfl, hq, f.sh (.int _)⟩
  · cases e
end
section
variable {prog : Program} {w : World} {A : Around} {E : Value → Shared → Prop} {s : Shared} {l : Addr} {its : List Value} {ns : List Int}
theorem iter_tup {items : Array Value} {Q : Value → Shared → Prop} (hl : s.heap.IsTuple l items)
    (h : ∀ s₂ : Shared, s₂ = { s with heap := s.heap.push { cls := .type "tuple_iterator", data := .fields #[.ref l, .int 0 0] } } →
      (s₂.heap.IsTupleIter s.heap.objs.size l 0 ∧ s₂.heap.IsTuple l items) → (∀ b ∈ [s.heap.objs.size, l], b < s₂.heap.objs.size) → l ≠ s.heap.objs.size → Q (.ref s.heap.objs.size) s₂) :
    wpAny (model prog w) A (pyIter (.ref l)) Q E s := by
  have hlt : l < s.heap.objs.size := by obtain ⟨_, e, _⟩ := hl; exact Heap.lt_size e
  refine wpAny_pyIter_tuple hl (h _ rfl ⟨⟨_, Heap.get?_push_size _ rfl, rfl, rfl⟩, hl.push _⟩ (fun b hb => ?_) (Nat.ne_of_lt hlt))
  show b < (s.heap.push _).objs.size
  rw [Heap.size_push]
  simp only [List.mem_cons, List.not_mem_nil, or_false] at hb
  rcases hb with rfl | rfl
  · exact Nat.lt_succ_self _
  · exact Nat.lt_succ_of_lt hlt
theorem kept_tup {h' : Heap} (hk : ∀ b o, b ∉ [s.heap.objs.size] → (s.heap.push { cls := .type "tuple_iterator", data := .fields #[.ref l, .int 0 0] }).get? b = some o → h'.get? b = some o) :
    ∀ b o, s.heap.get? b = some o → h'.get? b = some o := fun b o e => by
  refine hk b o (fun hm => ?_) (Heap.get?_push_of_some _ e)
  have hm := List.mem_singleton.mp hm
  subst hm
  exact absurd (Heap.lt_size e) (Nat.lt_irrefl _)
theorem max_tup {Q : Value → Shared → Prop} (hh : A.handled = none) (hl : s.heap.IsTuple l its.toArray) (hi : IntsAre its ns) (hne : 0 < ns.length)
    (h : ∀ h' tk M t', (∀ b o, s.heap.get? b = some o → h'.get? b = some o) → M ∈ ns → (∀ a, a ∈ ns → a ≤ M) → Q (.int M t') { s with heap := h', toks := tk }) : wpAny (model prog w) A (call (.builtin "max") [.ref l]) Q E s := by
  obtain ⟨xs, e⟩ := hi.allInts.items
  have hn : numsOf (intItems xs).toList = ns := by rw [← e]; exact hi.numsOf
  rw [nums_intItems] at hn
  subst hn
  rw [e] at hl
  have hsz : 0 < xs.size := by simpa using hne
  refine call_max_walk (iter_tup hl fun s₂ e2 st hfp hlI => ?_)
  subst e2
  refine ⟨_, _, _, _, _, _, _, rfl, Walks.tuple (A := A.in1) hh _ l hlI (intItems xs), st, hfp, by simpa [intItems] using hsz, CmpOf.ints_gt (numAt xs) (fun _ _ => intItems_at), fun v h' tk hP hk => ?_⟩
  obtain ⟨t, rfl⟩ := intItems_at hP
  obtain ⟨h1, h2⟩ := argBest_gt (numAt xs) ((intItems xs).size - 1)
  have hz : (intItems xs).size = xs.size := by simp [intItems]
  rw [hz] at h1 h2
  have q := h h' tk (numAt xs (argBest (fun i j => decide (numAt xs i > numAt xs j)) (xs.size - 1))) t (kept_tup hk) (by rw [numAt_eq]; exact PySem.getD_mem (by rw [List.length_map, Array.length_toList]; omega)) fun a ha => ?_
  · have hz' : argBest (fun i j => decide (numAt xs i > numAt xs j)) ((intItems xs).size - 1) = argBest (fun i j => decide (numAt xs i > numAt xs j)) (xs.size - 1) := by rw [hz]
    rw [hz']; exact q
  · obtain ⟨j, hj, rfl⟩ := mem_getD ha
    rw [List.length_map, Array.length_toList] at hj
    rw [← numAt_eq]; exact h2 j (by omega)
theorem min_tup {Q : Value → Shared → Prop} (hh : A.handled = none) (hl : s.heap.IsTuple l its.toArray) (hi : IntsAre its ns) (hne : 0 < ns.length)
    (h : ∀ h' tk M t', (∀ b o, s.heap.get? b = some o → h'.get? b = some o) → M ∈ ns → (∀ a, a ∈ ns → M ≤ a) → Q (.int M t') { s with heap := h', toks := tk }) : wpAny (model prog w) A (call (.builtin "min") [.ref l]) Q E s := by
  obtain ⟨xs, e⟩ := hi.allInts.items
  have hn : numsOf (intItems xs).toList = ns := by rw [← e]; exact hi.numsOf
  rw [nums_intItems] at hn
  subst hn
  rw [e] at hl
  have hsz : 0 < xs.size := by simpa using hne
  refine call_min_walk (iter_tup hl fun s₂ e2 st hfp hlI => ?_)
  subst e2
  refine ⟨_, _, _, _, _, _, _, rfl, Walks.tuple (A := A.in1) hh _ l hlI (intItems xs), st, hfp, by simpa [intItems] using hsz, CmpOf.ints_lt (numAt xs) (fun _ _ => intItems_at), fun v h' tk hP hk => ?_⟩
  obtain ⟨t, rfl⟩ := intItems_at hP
  obtain ⟨h1, h2⟩ := argBest_lt (numAt xs) ((intItems xs).size - 1)
  have hz : (intItems xs).size = xs.size := by simp [intItems]
  rw [hz] at h1 h2
  have q := h h' tk (numAt xs (argBest (fun i j => decide (numAt xs i < numAt xs j)) (xs.size - 1))) t (kept_tup hk) (by rw [numAt_eq]; exact PySem.getD_mem (by rw [List.length_map, Array.length_toList]; omega)) fun a ha => ?_
  · have hz' : argBest (fun i j => decide (numAt xs i < numAt xs j)) ((intItems xs).size - 1) = argBest (fun i j => decide (numAt xs i < numAt xs j)) (xs.size - 1) := by rw [hz]
    rw [hz']; exact q
  · obtain ⟨j, hj, rfl⟩ := mem_getD ha
    rw [List.length_map, Array.length_toList] at hj
    rw [← numAt_eq]; exact h2 j (by omega)
end
section
variable {X : Cx}
theorem ref1 {a : Addr} {us : List Value} (r : Vals [V.ref a] us) : us = [.ref a] := Vals.ref1 r
theorem call_max1_d (hc : X.calm = true) : CallR X (.builtin "max") (rDA X.K (on1 maxD)) := by
  intro pins s σ H vs us Q I r h
  obtain ⟨ds, d, hr, e0, f⟩ := h
  obtain ⟨x, rfl, e⟩ := on1_inv e0
  obtain ⟨v, rfl, hv⟩ := hr.one_inv
  unfold maxD at e
  split at e
  · rename_i xs
    split at e
    · rename_i n ns hn
      cases e
      obtain ⟨a, vs, rfl, hq, sa⟩ := rt_list hv
      rw [intsD_eq hn] at sa
      have := sha_intsB sa
      subst this
      obtain ⟨m1, m2⟩ := most ns n
      refine cr_max hc pins s σ H _ us Q I r ⟨a, n :: ns, rfl, hq, by simp, fun m h1 h2 => ?_⟩
      have : m = ns.foldl max n := Int.le_antisymm (m2 m h1) (h2 _ m1)
      subst this
      exact f.sh (.int _)
    · cases e
  · rename_i xs
    split at e
    · rename_i n ns hn
      cases e
      obtain ⟨a, vs, rfl, hq, sa⟩ := rt_tuple hv
      rw [intsD_eq hn] at sa
      have := sha_intsB sa
      subst this
      obtain ⟨m1, m2⟩ := most ns n
      obtain ⟨its, rv, hl, _⟩ := I.tuple hq
      rw [Vals.ref1 r]
      refine max_tup (I.ok.hd hc) hl rv.ints (by simp) fun h' tk m t' hk h1 h2 => ⟨.int m, H, I.kept hk, ⟨_, rfl⟩, ?_⟩
      have : m = ns.foldl max n := Int.le_antisymm (m2 m h1) (h2 _ m1)
      subst this
      exact f.sh (.int _)
    · cases e
  · cases e
theorem call_min1_d (hc : X.calm = true) : CallR X (.builtin "min") (rDA X.K (on1 minD)) := by
  intro pins s σ H vs us Q I r h
  obtain ⟨ds, d, hr, e0, f⟩ := h
  obtain ⟨x, rfl, e⟩ := on1_inv e0
  obtain ⟨v, rfl, hv⟩ := hr.one_inv
  unfold minD at e
  split at e
  · rename_i xs
    split at e
    · rename_i n ns hn
      cases e
      obtain ⟨a, vs, rfl, hq, sa⟩ := rt_list hv
      rw [intsD_eq hn] at sa
      have := sha_intsB sa
      subst this
      obtain ⟨m1, m2⟩ := least ns n
      refine cr_min hc pins s σ H _ us Q I r ⟨a, n :: ns, rfl, hq, by simp, fun m h1 h2 => ?_⟩
      have : m = ns.foldl min n := Int.le_antisymm (h2 _ m1) (m2 m h1)
      subst this
      exact f.sh (.int _)
    · cases e
  · rename_i xs
    split at e
    · rename_i n ns hn
      cases e
      obtain ⟨a, vs, rfl, hq, sa⟩ := rt_tuple hv
      rw [intsD_eq hn] at sa
      have := sha_intsB sa
      subst this
      obtain ⟨m1, m2⟩ := least ns n
      obtain ⟨its, rv, hl, _⟩ := I.tuple hq
      rw [Vals.ref1 r]
      refine min_tup (I.ok.hd hc) hl rv.ints (by simp) fun h' tk m t' hk h1 h2 => ⟨.int m, H, I.kept hk, ⟨_, rfl⟩, ?_⟩
      have : m = ns.foldl min n := Int.le_antisymm (h2 _ m1) (m2 m h1)
      subst this
      exact f.sh (.int _)
    · cases e
  · cases e
/-! ### len(set(xs)) -/
theorem dist_mem {k : Int} : ∀ {ns : List Int}, k ∈ distD ns ↔ k ∈ ns
  | [] => Iff.rfl
  | n :: ns => by
    simp only [distD]
    split
    · rename_i h
      rw [dist_mem, List.mem_cons]
      exact ⟨.inr, fun q => q.elim (fun e => by subst e; exact dist_mem.mp h) id⟩
    · rw [List.mem_cons, List.mem_cons, dist_mem]
theorem dist_nodup : ∀ {ns : List Int}, (distD ns).Nodup
  | [] => List.nodup_nil
  | n :: ns => by
    simp only [distD]
    split
    · exact dist_nodup
    · rename_i h
      exact List.nodup_cons.mpr ⟨h, dist_nodup⟩
theorem nodup_len {a b : List Int} (ha : a.Nodup) (hb : b.Nodup) (h : ∀ k, k ∈ a ↔ k ∈ b) : a.length = b.length := ((List.perm_ext_iff_of_nodup ha hb).mpr h).length_eq
theorem pe_lens {a : Expr} {ta : TE} {p p2 q pos : Pos} (hg : Gl X "len") (hm : X.mg "len" = none) (hg2 : Gl X "set") (hm2 : X.mg "set" = none) (ha : PE X a ta) (hc : X.calm = true)
    (na : starEach [a] X.env = (false, eval a X.env) :: starEach [] X.env) : PE X (.Call (.Name "len" p) [.Call (.Name "set" p2) [a] [] q] [] pos) (tUn (rD1 X.K lensD) ta) := by
  refine ⟨fun pins s σ H Q I h => ?_⟩
  refine Call_ (ld_blt I hg hm boot_len ?_)
  refine PyProof.Rows.callWith_builtin1 (PyProof.Rows.args_cons ?_ rfl) rfl rfl
  refine Call_ (ld_blt I hg2 hm2 boot_set ?_)
  refine PyProof.Rows.callWith_type1 (PyProof.Rows.args_cons (thn (ha.run pins s σ H _ I h) fun v s1 z => PyProof.Rows.args_nil ?_) na) na rfl
  obtain ⟨x, H1, I1, r1, y, d, hv, e, f⟩ := z
  unfold lensD at e
  split at e
  · rename_i xs
    split at e
    · rename_i ns hn
      split at e
      · rename_i hl
        cases e
        obtain ⟨t, vs, rfl, hq, sa⟩ := rt_tuple hv
        rw [intsD_eq hn] at sa
        have := sha_intsB sa
        subst this
        cases r1
        obtain ⟨its, rv, pl, hz⟩ := I1.tuple hq
        refine call_set_tupI (w := X.w) ns (I1.ok.hd hc) pl (by simpa using rv.ints) (by unfold scanBound; omega) fun h' tk c hS hcl hk => ?_
        refine PyProof.Rows.args_nil ?_
        obtain ⟨o, es, ep, t, ho, hex, hd, _, nd, hm, _, hf, hn, _⟩ := hS
        have I2 : Inv X pins σ H1 { s1 with heap := h', toks := tk } := I1.kept fun b o e => hk b o e
        have hlen : es.size = (distD ns).length := by
          rw [← Array.length_toList, ← List.length_map (f := keyOf)]
          exact nodup_len nd dist_nodup fun k => (hm k).symm.trans ((by simp : (decide (k ∈ ns) = true) ↔ k ∈ ns).trans dist_mem.symm)
        refine call_len_set ho hex hd hf (by rw [hn] <;> omega) ⟨.int ((distD ns).length : Nat), H1, I2.tok _, ⟨_, by rw [hlen]⟩, f.sh (.int _)⟩
      · cases e
    · cases e
  · cases e
end
end Dv
end
section
namespace Dv
open PySem PySem.Spec PyProof.Rows L2 PySem.Froz
/-! ### sets of texts: made of a list, sorted -/
section
variable {P : Program} {w : World} {A : Around} {E : Value → Shared → Prop} {s : Shared} {a : Addr} {l : List Str}
/-- the set at a holds the texts l, each once; its table can be walked -/
def TxS (P : Program) (w : World) (h : Heap) (a : Addr) (l : List Str) : Prop :=
  l.Nodup ∧ ∃ D : SD, h.get? a = some (sObj "set" D) ∧ TxOk P w D l ∧ Ris D.2.2.place.toList ∧ (w.params.followText "set-order" = true ∨ D.2.2.led = true)
theorem TxS.at {h h' : Heap} (R : TxS P w h a l) (k : ∀ o, h.get? a = some o → h'.get? a = some o) : TxS P w h' a l := by
  obtain ⟨nd, D, ho, r⟩ := R
  exact ⟨nd, D, k _ ho, r⟩
theorem tail_ris {ep : Nat} {es : Array (Int × Value)} {t : SetTable} {wd : Bool} (r : Ris t.place.toList) : Ris (tailTx ep es t wd).2.2.place.toList := by
  unfold tailTx; split
  · exact relayAll_ris _ _ _
  · exact r
theorem tail_led {ep : Nat} {es : Array (Int × Value)} {t : SetTable} {wd : Bool} : (tailTx ep es t wd).2.2.led = t.led := by
  unfold tailTx; split
  · exact relayAll_led _ _ _
  · rfl
theorem addTx_ris {h : Int} {v : Value} {D : SD} (r : Ris D.2.2.place.toList) : Ris (addTx h v D).2.2.place.toList := by
  unfold addTx
  refine tail_ris ?_
  have q := layNew_ris D.2.2 D.1 h v r
  split <;> exact q
theorem addTx_led {h : Int} {v : Value} {D : SD} : (addTx h v D).2.2.led = D.2.2.led := by
  unfold addTx
  rw [tail_led]
  have q := layNew_led D.2.2 D.1 h v
  split <;> exact q
theorem txs_add {k : Str} {u : Tok} {Q : Bool → Shared → Prop} (R : TxS P w s.heap a l) (room : l.length + 1 < scanBound)
    (fin : ∀ (b : Bool) (g : Heap), Heap.SameBut a s.heap g → TxS P w g a (insL l k) → Q b { s with heap := g }) : wpAny (model P w) A (setAddHashed a (.str k u) (hashStr w k)) Q E s := by
  obtain ⟨nd, D, ho, F, rs, ld⟩ := R
  by_cases hk : k ∈ l
  · have same : insL l k = l := if_pos hk
    have R0 : TxS P w s.heap a l := ⟨nd, D, ho, F, rs, ld⟩
    obtain ⟨es, ep, t⟩ := D
    have hd : (sObj "set" (es, ep, t)).data = .set es ep t := rfl
    have few : es.size < scanBound := by
      have : es.size = l.length := F.sz
      omega
    have isk : (strKind P w).is k (.str k u) = true := is_str k u
    have els : ElemsOf (strKind P w) es.toList := F.el
    have fits : t.fits es.size = true := F.fit
    unfold setAddHashed setAddHashedIn; refine wpAny_holding ?_
    refine wpAny_bind (wpAny_setState_of ho hd fits ?_)
    dsimp only; rw [byScan_of rfl few els]
    simp only [↓reduceIte]; unfold setAddByScan
    refine wpAny_bind (wpAny_bind (wpAny_rule ?_))
    refine wpAny_bind (wpAny_setScan_of (knd := strKind P w) (k := k) isk ho hd fits els ?_)
    cases found : List.findIdx? (fun e => (strKind P w).is k e.2) es.toList with
    | some j => exact wpAny_pure (wpAny_pure (fin false s.heap (Heap.SameBut.refl a s.heap) (by rw [same]; exact R0)))
    | none =>
      obtain ⟨e, he, q⟩ := (F.mem k).mp hk
      have := List.findIdx?_eq_none_iff.mp found e he
      rw [q] at this; cases this
  · refine add_x (l := l) ho F hk room (fin true _ (Heap.SameBut.update _ _ _) ?_)
    unfold insL
    rw [if_neg hk]
    exact ⟨List.nodup_cons.mpr ⟨hk, nd⟩, _, get_upd _ ho rfl, add_ok u F, addTx_ris rs, by rw [addTx_led]; exact ld⟩
/-- the walk through the texts -/
theorem txs_walk {I : Addr} {fp wr : List Addr} {G : Array GenState → Array GenState → Prop} {n : Nat} {Pv : Nat → Value → Prop} {St : Nat → Shared → Prop} {R : Result → Shared → Prop}
    (W : WalksS P w A.in1 I fp wr G n Pv St) (Z : Addr) (off : Z ∉ fp) (zs : List Str) (hn : n = zs.length) (room : zs.length + 1 < scanBound) (val : ∀ i v, Pv i v → ∃ k t, zs[i]? = some k ∧ v = .str k t) :
    ∀ (m i : Nat) (s : Shared), n - i = m → i ≤ n → St i s → TxS P w s.heap Z (insAll [] (zs.take i)) →
      (∀ s', Moved (Z :: wr) G s s' → TxS P w s'.heap Z (insAll [] zs) → R (.ok (.ret .none)) s') →
      codeAny (model P w) A (.builtin "set.update.loop" ⟨[.ref Z, .ref I], []⟩) R s := by
  have offw : Z ∉ wr := fun h => off (W.sub _ h)
  have inz : ∀ b ∈ wr, b ∈ Z :: wr := fun b hb => List.mem_cons_of_mem _ hb
  intro m
  induction m with
  | zero =>
    intro i s hm hi st hS fin
    have at_ : i = n := by omega
    subst at_
    refine codeAny_builtin F.entry_set_update_loop ?_; rw [Around.under_plainId F.plain_set_update_loop _]
    show wpAny _ A.in1 (PySem.pyNext (.ref I) >>= _) _ _ s
    refine wpAny_bind (W.done s _ _ st fun s1 mv => ?_)
    show wpAny _ A.in1 (PySem.ret .none) _ _ s1
    rw [List.take_of_length_le (show zs.length ≤ i by omega)] at hS
    exact wpAny_pure (fin s1 (mv.mono inz) (hS.at fun o e => mv.heap Z o offw e))
  | succ m ih =>
    intro i s hm hi st hS fin
    have lt : i < n := by omega
    refine codeAny_builtin F.entry_set_update_loop ?_; rw [Around.under_plainId F.plain_set_update_loop _]
    show wpAny _ A.in1 (PySem.pyNext (.ref I) >>= _) _ _ s
    refine wpAny_bind (W.item i s _ _ lt st fun v s1 hP st1 mv => ?_)
    obtain ⟨z, t, hz, rfl⟩ := val i v hP
    have hS1 := hS.at fun o e => mv.heap Z o offw e
    show wpAny _ A.in1 (holding [.str z t] (setAdd Z (.str z t)) >>= _) _ _ s1
    refine wpAny_bind (wpAny_holding ?_); unfold setAdd
    refine wpAny_holding (wpAny_bind ((strKind P w).pyHash (k := z) (is_str _ _) ?_))
    have ln : (insAll [] (zs.take i)).length ≤ i := by
      have := insAll_len (zs := zs.take i) (l := [])
      rw [List.length_take] at this
      simp only [List.length_nil] at this
      omega
    refine txs_add (s := { s1 with toks := s1.toks + 1 }) hS1 (by omega) fun b g sb hS2 => ?_
    rw [← insAll_snoc, show zs.take i ++ [z] = zs.take (i + 1) by rw [List.take_add_one, hz]; rfl] at hS2
    refine wpAny_pure ⟨plainId_quiet F.plain_set_update_loop _, ih (i + 1) _ (by omega) lt (W.frame _ s1 _ _ st1 (Nat.le_succ _) fun b hb o e => ?_) hS2 fun s2 mv2 hS3 => ?_⟩
    · rw [sb.2 b fun e : b = Z => off (e ▸ hb)]; exact e
    · refine fin s2 (Moved.trans W.gtrans ((mv.mono inz).then_heap (Nat.le_succ _) fun b o hb e => ?_) mv2) hS3
      rw [sb.2 b fun q : b = Z => hb (by rw [q]; exact List.mem_cons_self)]; exact e
abbrev newSet (w : World) : Obj := { cls := .type "set", dict := none, data := .set #[] 0 (.fresh 0 0 (!w.params.followText "set-order")) }
theorem txs_new {h : Heap} (ho : h.get? a = some (newSet w)) : TxS P w h a [] := by
  refine ⟨List.nodup_nil, (#[], 0, _), ho, TxOk.nil (by rfl), List.Pairwise.nil, ?_⟩
  show _ ∨ (!w.params.followText "set-order") = true
  cases w.params.followText "set-order"
  · exact .inr rfl
  · exact .inl rfl
set_option maxHeartbeats 4000000 in
/-- set(xs), xs a list of texts -/
theorem call_set_texts {l : Addr} {its : Array Value} (zs : List Str) {Q : Value → Shared → Prop} (hh : A.handled = none) (hl : s.heap.IsList l its) (hsz : its.size = zs.length) (val : ∀ (i : Nat) (v : Value), its[i]? = some v → ∃ k t, zs[i]? = some k ∧ v = .str k t) (room : zs.length + 1 < scanBound)
    (fin : ∀ (h' : Heap) (tk : Nat), TxS P w h' s.heap.objs.size (insAll [] zs) → (∀ b o, s.heap.get? b = some o → h'.get? b = some o) → Q (.ref s.heap.objs.size) { s with heap := h', toks := tk }) :
    wpAny (model P w) A (call (.type "set") [.ref l]) Q E s := by
  obtain ⟨c, tl, mro⟩ := F.called_set.mro; have made := F.called_set.made; have isSub := F.called_set.sub
  refine wpAny_call (codeAny_of_tree ?_)
  show wpAny _ _ (callAny (.type "set") _) _ _ s
  refine wpAny_pure ⟨Code.quiet_builtin _ (by decide +kernel), codeAny_builtin F.entry_type_call ?_⟩
  rw [Around.under_plain (weight_type_call_type "set" [Value.ref l] []) rfl]
  have t1 := F.called_set.notType; have t2 := F.called_set.canCreate; have t3 := F.typeCall_set_1 (Value.ref l)
  repeat (any_goals (first | assumption | wp_step))
  refine codeAny_mono (code_set_led1 (Value.ref l) (E := E) (Q₁ := fun u s1 => u = .ref s.heap.objs.size ∧ s1 = { s with heap := s.heap.push (newSet w) }) ⟨rfl, rfl⟩) fun r s1 hr => ?_
  cases r with
  | error e => exact hr
  | ok fl =>
    cases fl with
    | ret u =>
      obtain ⟨rfl, rfl⟩ := hr
      have at0 : (s.heap.push (newSet w)).get? s.heap.objs.size = some (newSet w) := Heap.get?_push_size _ rfl
      have ty0 : Shared.TypeIs { s with heap := s.heap.push (newSet w) } (.ref s.heap.objs.size) "set" := ⟨_, at0, rfl⟩
      have i1 := F.called_set.init.lookup; have i2 := F.called_set.init.bind (.ref s.heap.objs.size)
      repeat (any_goals (first | assumption | wp_step))
      refine codeAny_mono (codeAny_call_builtin (R := wants (fun r s2 => r = .none ∧ ∃ g tk, s2 = { s with heap := g, toks := tk } ∧ TxS P w g s.heap.objs.size (insAll [] zs) ∧ (∀ b o, s.heap.get? b = some o → g.get? b = some o)) E) F.called_set.init.plain F.entry_set_init (check_set_init_1 ty0 ?_)) fun r2 s2 hr2 => ?_
      · obtain ⟨ol, hol, hc, nl, hd⟩ := hl
        obtain ⟨k1, k2, k3, k4⟩ := ol
        simp only at hc hd
        subst hc hd
        have old : (s.heap.push (newSet w)).get? l = some { cls := .type "list", dict := k2, data := .seq its nl, slots := k4 } := Heap.get?_push_of_some _ hol
        have n1 := F.sub_list_set; have n2 := F.sub_list_frozenset
        have n3 : (Value.type "list" == Value.type "dict") = false := by decide
        have isl : (s.heap.push (newSet w)).IsList l its := ⟨_, old, rfl, nl, rfl⟩
        unfold Builtin.«set.__init__» noKeywords Builtin.Frozenset.updateFrom
        generalize hP : pyIter = PI
        wp_walk
        subst hP
        refine wpAny_pyIter_list isl ?_
        refine wpAny_bind (wpAny_runValue ?_)
        have lS : l < s.heap.objs.size := Heap.lt_size hol
        have hh3 : A.in1.in1.in1.handled = none := by simp [hh]
        have z1 : (s.heap.push (newSet w)).objs.size = s.heap.objs.size + 1 := Heap.size_push ..
        have neI : l ≠ (s.heap.push (newSet w)).objs.size := by rw [z1]; exact Nat.ne_of_lt (Nat.lt_succ_of_lt lS)
        have off : s.heap.objs.size ∉ [(s.heap.push (newSet w)).objs.size, l] := by
          rw [z1]
          simp only [List.mem_cons, List.not_mem_nil, or_false, not_or]
          exact ⟨Nat.ne_of_lt (Nat.lt_succ_self _), fun e => Nat.lt_irrefl _ (e ▸ lS)⟩
        refine txs_walk ((Walks.list hh3 _ l neI its).toS) s.heap.objs.size off zs hsz room val (its.size - 0) 0 _ (by omega) (Nat.zero_le _) ⟨⟨_, Heap.get?_push_size _ rfl, rfl, rfl⟩, (isl.push _)⟩ ?_ ?_
        · exact txs_new (Heap.get?_push_of_some _ at0)
        · intro s' mv R1
          obtain ⟨g, g2, d2, tk, os2⟩ := s'
          have eg : g2 = s.gens := mv.gens
          have ed : d2 = s.drawn := mv.drawn
          have eo : os2 = s.os := mv.os
          subst eg ed eo
          show wpAny _ _ _ _ _ _
          refine wpAny_pure ?_
          show wpAny _ _ (PySem.ret .none) _ _ _
          refine wpAny_pure ⟨rfl, g, tk, rfl, R1, fun b o e => ?_⟩
          have b0 : b < s.heap.objs.size := Heap.lt_size e
          refine mv.heap b o ?_ (Heap.get?_push_of_some _ (Heap.get?_push_of_some _ e))
          rw [z1]
          simp only [List.mem_cons, List.not_mem_nil, or_false, not_or]
          exact ⟨fun e => Nat.lt_irrefl _ (e ▸ b0), fun e => Nat.lt_irrefl _ (Nat.lt_of_succ_lt (e ▸ b0))⟩
      · cases r2 with
        | error e => exact hr2
        | ok fl2 =>
          cases fl2 with
          | ret r =>
            obtain ⟨rfl, g, tk, rfl, R1, kp⟩ := hr2
            repeat (any_goals (first | assumption | wp_step))
            exact fin _ _ R1 kp
          | _ => exact hr2.elim
    | _ => exact hr.elim
theorem perm_of_sub : ∀ {l ss : List Str}, l.Nodup → (∀ x ∈ l, x ∈ ss) → l.length = ss.length → ss.Perm l
  | [], [], _, _, _ => .refl _
  | [], _ :: _, _, _, h => by cases h
  | x :: l, ss, nd, sub, len => by
    obtain ⟨n1, n2⟩ := List.nodup_cons.mp nd
    have hx := sub x List.mem_cons_self
    have p := List.perm_cons_erase hx
    have e := p.length_eq
    refine p.trans (List.Perm.cons x (perm_of_sub n2 (fun y hy => ?_) ?_))
    · have ne : y ≠ x := fun q => n1 (q ▸ hy)
      exact (List.mem_erase_of_ne ne).mpr (sub y (List.mem_cons_of_mem _ hy))
    · simp only [List.length_cons] at len e
      omega
def txOf : Value → Str
  | .str k _ => k
  | _ => ""
theorem strs_of : ∀ (vs : List Value), (∀ v ∈ vs, ∃ k t, v = Value.str k t) → StrsAre vs (vs.map txOf)
  | [], _ => .nil
  | v :: vs, h => by
    obtain ⟨k, t, rfl⟩ := h v List.mem_cons_self
    exact .cons _ _ (strs_of vs fun u hu => h u (List.mem_cons_of_mem _ hu))
theorem isk_str {k : Str} {v : Value} (h : (strKind P w).is k v = true) : ∃ t, v = .str k t := by
  have h : Value.isStrOf k v = true := h
  cases v <;> simp [Value.isStrOf] at h
  exact ⟨_, by rw [h]⟩
/-- sorted(found), found a set of texts -/
theorem sorted_texts {Q : Value → Shared → Prop} (R : TxS P w s.heap a l) (hh : A.handled = none) (room : l.length < scanBound) (fits : l.length ≤ sizeLine)
    (fin : ∀ s' p (out : Array Value) (c : Nat) (ss : List Str), (∀ b o, s.heap.get? b = some o → s'.heap.get? b = some o) → s'.gens = s.gens → s'.os = s.os → s.heap.objs.size ≤ p → s'.heap.get? p = some (seqObj "list" out c) →
      StrsAre out.toList ss → sortedS ss = true → ss.Perm l → Q (.ref p) s') : wpAny (model P w) A (call (.builtin "sorted") [.ref a]) Q E s := by
  obtain ⟨nd, ⟨es, ep, t⟩, ho, F, rs, ld⟩ := R
  have sz : es.size = l.length := F.sz
  refine Calls.call_function_entry kind_sorted plain_sorted entry_sorted (args_sorted1 _) ?_; unfold Builtin.«sorted»
  refine wpAny_bind (m := checkCount "sorted" 1 1 _) (wpAny_pure ?_)
  refine wpAny_bind (collect_set (A := A.in1) hh ⟨_, ho, rfl, rfl⟩ F.fit (by rw [sz]; exact room) rs ld fun s1 vs kp zz gg oo pm => ?_)
  have vl : vs.length = l.length := by rw [pm.length_eq, List.length_map, Array.length_toList, sz]
  have el : ∀ v ∈ vs, ∃ k t, v = Value.str k t := fun v hv => by
    obtain ⟨e, he, q⟩ := List.mem_map.mp (pm.mem_iff.mp hv)
    obtain ⟨⟨k, hk, _⟩, _⟩ := F.el e he
    obtain ⟨t, et⟩ := isk_str hk
    exact ⟨k, t, by rw [← q]; exact et⟩
  have hS := strs_of vs el
  have pl : (vs.map txOf).Perm l := perm_of_sub nd (fun k hk => by
    obtain ⟨e, he, q⟩ := (F.mem k).mp hk
    obtain ⟨t, et⟩ := isk_str q
    exact List.mem_map.mpr ⟨e.2, pm.mem_iff.mpr (List.mem_map.mpr ⟨e, he, rfl⟩), by rw [et]; rfl⟩) (by rw [List.length_map, vl])
  refine wpAny_bind (wpAny_newList ?_ (by rw [vl]; exact fits))
  have oL : (s1.heap.push (seqObj "list" vs.toArray 0)).get? s1.heap.objs.size = some (seqObj "list" vs.toArray 0) := Heap.get?_push_size _ rfl
  refine wpAny_bind (wpAny_holding (wpAny_call_entry slot_list_sort ⟨_, oL, rfl⟩ entry_list_sort (list_sort_treeKAny strKind_oneLt oL hS.keysOf (fun v₁ v₂ rest e => keyKind_strs (by rw [← e]; exact hS)) (by rw [vl]; exact fits) fun st' a1 a2 => ⟨_, rfl, ?_⟩) (args_list_sort _)))
  obtain ⟨ss, b1, b2, b3⟩ := sorted_out_str hS a1 a2
  obtain ⟨c, hc⟩ := sortedHeap_at (vs := vs) (out := (arrOf st').map (·.2)) oL
  refine wpAny_pure ⟨_, rfl, fin _ s1.heap.objs.size _ c ss (fun b u e => ?_) gg oo zz hc b1 b3 (b2.trans pl)⟩
  have q := kp b u e
  have lt := Heap.lt_size q
  show (sortedHeap (s1.heap.push (seqObj "list" vs.toArray 0)) s1.heap.objs.size vs _).get? b = some u
  rw [sortedHeap_old (Nat.ne_of_lt lt) (by rw [size_push']; exact Nat.lt_succ_of_lt lt)]
  exact Heap.get?_push_of_some _ q
end
end Dv
end
section
namespace Dv
open PySem PySem.Spec PyProof.Rows L2 PySem.Froz
/-! ### sorted(set(xs)), by value -/
section
variable {X : Cx}
theorem pe_srs {a : Expr} {ta : TE} {p p2 q pos : Pos} (hg : Gl X "sorted") (hm : X.mg "sorted" = none) (hg2 : Gl X "set") (hm2 : X.mg "set" = none) (ha : PE X a ta) (hc : X.calm = true)
    (na : starEach [a] X.env = (false, eval a X.env) :: starEach [] X.env) : PE X (.Call (.Name "sorted" p) [.Call (.Name "set" p2) [a] [] q] [] pos) (tUn (rD1 X.K srsD) ta) := by
  refine ⟨fun pins s σ H Q I h => ?_⟩
  refine Call_ (ld_blt I hg hm boot_sorted ?_)
  refine PyProof.Rows.callWith_builtin1 (PyProof.Rows.args_cons ?_ rfl) rfl rfl
  refine Call_ (ld_blt I hg2 hm2 boot_set ?_)
  refine PyProof.Rows.callWith_type1 (PyProof.Rows.args_cons (thn (ha.run pins s σ H _ I h) fun v s1 z => PyProof.Rows.args_nil ?_) na) na rfl
  obtain ⟨x, H1, I1, r1, y, d, hv, e, f⟩ := z
  unfold srsD at e
  split at e
  · rename_i xs
    split at e
    · rename_i zs hn
      split at e
      · rename_i few
        cases e
        obtain ⟨l, vs, rfl, hR, sa⟩ := hv.lst_inv
        rw [strsD_eq hn] at sa
        have := sha_strs sa
        subst this
        cases r1
        obtain ⟨z, its, n, rv, hl, eo⟩ := rdL I1 hR
        have hS := Vals.strs rv
        have hsb : (1000 : Nat) + 1 < scanBound := by decide
        have hsl : (1000 : Nat) ≤ sizeLine := by decide
        have al : (insAll [] zs).length ≤ zs.length := by
          have := insAll_len (zs := zs) (l := [])
          simpa using this
        have get : ∀ {us : List Value} {ys : List Str}, StrsAre us ys → ∀ (i : Nat) (v : Value), us[i]? = some v → ∃ k t, ys[i]? = some k ∧ v = .str k t := by
          intro us ys h
          induction h with
          | nil => intro i v h; simp at h
          | cons y t h ih =>
            intro i v h2
            cases i with
            | zero => simp at h2; exact ⟨y, t, rfl, h2.symm⟩
            | succ i => exact ih i v (by simpa using h2)
        refine call_set_texts (w := X.w) zs (I1.ok.hd hc) ⟨_, eo, rfl, n, rfl⟩ (by rw [List.size_toArray]; rw [List.length_map] at hl; exact hl.symm) (fun i v hiv => get hS i v (by simpa using hiv)) (by omega) fun h' tk R kp => ?_
        refine PyProof.Rows.args_nil ?_
        have I2 : Inv X pins σ H1 { s1 with heap := h', toks := tk } := I1.kept kp
        have R2 : TxS X.prog X.w ({ s1 with heap := h', toks := tk } : Shared).heap s1.heap.objs.size (insAll [] zs) := R
        generalize ({ s1 with heap := h', toks := tk } : Shared) = s2 at I2 R2
        refine sorted_texts R2 (I1.ok.hd hc) (by omega) (by omega) fun s' p out c ss k2 g o hp hget hss srt pm => ?_
        have hlen : (ss.map V.str).length ≤ sizeLine := by rw [List.length_map, pm.length_eq]; omega
        have hn2 : H1 p = none := I2.hok.fresh hp
        have J : Inv X pins σ (upd H1 p (.lst (ss.map V.str))) { s2 with heap := s'.heap, gens := s'.gens, drawn := s'.drawn, toks := s'.toks } :=
          I2.call (ch := []) (Un.laid k2 hp hn2) (I2.hok.laid k2 hp ⟨hlen, out.toList, c, vals_of_strs hss, hget⟩) (by rw [g]; exact I2.bare) (fun _ z => nomatch z)
        have es : s' = { s2 with heap := s'.heap, gens := s'.gens, drawn := s'.drawn, toks := s'.toks } := by
          cases s'; cases s2; cases o; rfl
        rw [es]
        refine ⟨.ref p, _, J, rfl, f.lst.newL hn2 ?_⟩
        rw [← srt_uniq srt pm]
        exact sha_of_strs ss
      · cases e
    · cases e
  · cases e
end
end Dv
end
section
namespace Dv
open PySem PySem.Spec PyProof.Rows L2

section
variable {X : Cx} {Γ : Gam} {cal : Nat → List PyData → CRes}
theorem bin_ok : ∀ {b : Operator} {o : Op}, binOp b = some o → ∃ f, evOp o = on2 f ∧ OpR X (binaryOp b) (rD2 X.K f)
  | .Add, _, rfl => ⟨addD, rfl, op_add_d⟩
  | .Sub, _, rfl => ⟨subD, rfl, op_sub_d⟩
  | .Mult, _, rfl => ⟨mulD, rfl, op_mul_d⟩
  | .Mod, _, rfl => ⟨modD, rfl, op_mod_d⟩
  | .FloorDiv, _, rfl => ⟨fdivD, rfl, op_fdiv_d⟩
  | .Pow, _, rfl => ⟨powD, rfl, op_pow_d⟩
theorem cmp_ok (g : Good X Γ cal) : ∀ {c : CmpOp} {o : Op}, cmpOp c = some o → ∃ f, evOp o = on2 f ∧ OpR X (compareOp c) (rD2 X.K f)
  | .Eq, _, rfl => ⟨eqD, rfl, op_eq_d (by have := g.un; omega)⟩
  | .NotEq, _, rfl => ⟨neD, rfl, op_ne_d (by have := g.un; omega)⟩
  | .Lt, _, rfl => ⟨ltD, rfl, op_lt_d⟩
  | .LtE, _, rfl => ⟨leD, rfl, op_le_d⟩
  | .Gt, _, rfl => ⟨_, rfl, op_gt_d⟩
  | .GtE, _, rfl => ⟨_, rfl, op_ge_d⟩
  | .Is, _, rfl => ⟨_, rfl, op_is_d⟩
  | .IsNot, _, rfl => ⟨_, rfl, op_isnot_d⟩
  | .In, _, rfl => ⟨inD, rfl, op_in_d (by have := g.un; omega)⟩
  | .NotIn, _, rfl => ⟨notinD, rfl, op_notin_d (by have := g.un; omega)⟩
theorem blt_ok (g : Good X Γ cal) {x : Str} {o : Op} (h : bltOp x = some o) :
    (∃ id, bootBuiltins x = some (.builtin id) ∧ CallR X (.builtin id) (rDA X.K (evOp o))) ∨ ∃ T, bootBuiltins x = some (.type T) ∧ CallR X (.type T) (rDA X.K (evOp o)) := by
  have u := g.un
  have u1 : X.A.units + 64 < cLine := by omega
  unfold bltOp at h
  split at h
  · rename_i e; subst e; cases h; exact .inl ⟨"len", by decide +kernel, call_len_d⟩
  · split at h
    · rename_i e; subst e; cases h; exact .inr ⟨"tuple", by decide +kernel, call_tup_d⟩
    · split at h
      · rename_i e; subst e; cases h; exact .inr ⟨"list", by decide +kernel, call_lst_d⟩
      · split at h
        · rename_i e; subst e; cases h; exact .inl ⟨"sorted", by decide +kernel, call_sort_d g.calm u1⟩
        · split at h
          · rename_i e; subst e; cases h; exact .inl ⟨"repr", by decide +kernel, call_repr_d g.gd u1⟩
          · split at h
            · rename_i e; subst e; cases h; exact .inr ⟨"int", by decide +kernel, call_int_d⟩
            · split at h
              · rename_i e; subst e; cases h; exact .inl ⟨"all", by decide +kernel, call_all_d g.calm⟩
              · split at h
                · rename_i e; subst e; cases h; exact .inl ⟨"sum", by decide +kernel, call_sum_d g.calm⟩
                · split at h
                  · rename_i e; subst e; cases h; exact .inl ⟨"min", by decide +kernel, call_min1_d g.calm⟩
                  · split at h
                    · rename_i e; subst e; cases h; exact .inl ⟨"max", by decide +kernel, call_max1_d g.calm⟩
                    · cases h
theorem call_min2_d (hc : X.calm = true) : CallR X (.builtin "min") (rDA X.K (on2 min2D)) := by
  intro pins s σ H vs us Q I r h
  obtain ⟨ds, d, hr, e0, f⟩ := h
  obtain ⟨x, y, rfl, e⟩ := on2_inv e0
  obtain ⟨v, w, rfl, hv, hw⟩ := hr.two_inv
  unfold min2D at e
  split at e
  · rename_i i j
    cases e; cases hv.int_inv; cases hw.int_inv
    exact call_min2 hc pins s σ H _ us Q I r ⟨i, j, rfl, f.sh (.int _)⟩
  · cases e
theorem call_max2_d (hc : X.calm = true) : CallR X (.builtin "max") (rDA X.K (on2 max2D)) := by
  intro pins s σ H vs us Q I r h
  obtain ⟨ds, d, hr, e0, f⟩ := h
  obtain ⟨x, y, rfl, e⟩ := on2_inv e0
  obtain ⟨v, w, rfl, hv, hw⟩ := hr.two_inv
  unfold max2D at e
  split at e
  · rename_i i j
    cases e; cases hv.int_inv; cases hw.int_inv
    exact call_max2 hc pins s σ H _ us Q I r ⟨i, j, rfl, f.sh (.int _)⟩
  · cases e
theorem blt2_ok (g : Good X Γ cal) {x : Str} {o : Op} (h : bltOp2 x = some o) : ∃ id, bootBuiltins x = some (.builtin id) ∧ CallR X (.builtin id) (rDA X.K (evOp o)) := by
  unfold bltOp2 at h
  split at h
  · rename_i e; subst e; cases h; exact ⟨"min", by decide +kernel, call_min2_d g.calm⟩
  · split at h
    · rename_i e; subst e; cases h; exact ⟨"max", by decide +kernel, call_max2_d g.calm⟩
    · cases h
theorem star_ns {e : Expr} {es : List Expr} {env : PySem.Env} (h : notStar e = true) : starEach (e :: es) env = (false, eval e env) :: starEach es env := by
  cases e <;> first | rfl | cases h
theorem pl_ns {pos : Pos} {env : PySem.Env} : ∀ {es : List Expr}, es.all notStar = true → (backTo pos (starEach es env)).any (·.1) = false
  | [], _ => rfl
  | e :: es, h => by
    rw [List.all_cons, Bool.and_eq_true] at h
    rw [star_ns h.1]
    show (false || (backTo pos (starEach es env)).any (·.1)) = false
    rw [pl_ns h.2]; rfl
theorem pix_ns {b : Expr} (h : notSl b = true) : PlainIx b := by
  intro o i
  cases b <;> first | rfl | cases h
theorem loadB (g : Good X Γ cal) {i : Nat} {e : Expr} (h : (match e with | .Name x _ => slotB Γ i x | _ => false) = true) : PE X e (tVar i) := by
  split at h
  · obtain ⟨a, b, c, d⟩ := slot_ok g h
    exact pe_var a b c d
  · cases h
/-- two operands and what is made of them -/
theorem two_of {K : PySem.W.Frag} {ty : List Ty} {a b : E} {r : R2} {f : PyData → PyData → Option PyData} {o : Op} (ho : evOp o = on2 f) (hr : r = rD2 K f) {σ : L2.St} {H : Hp} {Q : VK}
    (h : TDe K ty (evE cal (.op o [a, b])) .sh σ H Q) : tFz (tOp r (tO K ty cal a) (tO K ty cal b)) σ H Q := by
  obtain ⟨G, fx, env, As, d, env', S, e, k⟩ := h
  simp only [evE] at e
  obtain ⟨ds, env1, e1, e2⟩ := bind_ok e
  rw [ho] at e2
  split at e2
  · rename_i d' h1
    cases e2
    obtain ⟨x, y, rfl, h2⟩ := on2_inv h1
    refine tOs_of [a, b] σ H (fun vs H2 => match vs with | [v, w] => r v w H2 (fun v H' => Q v H' ∨ ∃ p vs, v = .ref p ∧ H' p = some (.lst vs) ∧ ∀ o, Q v (upd H' p (.frz o (.lst vs)))) | _ => False) ⟨G, fx, env, As, _, env', S, e1, fun vs H' As' S' oa f1 x1 => ?_⟩
    obtain ⟨v, w, rfl, hv, hw⟩ := (oa.rtA S').two_inv
    subst hr
    exact ⟨x, y, d, hv, hw, h2, fin_sh S' f1 x1 k⟩
  · cases e2
theorem one_of {K : PySem.W.Frag} {ty : List Ty} {a : E} {f : PyData → Option PyData} {o : Op} (ho : evOp o = on1 f) {σ : L2.St} {H : Hp} {Q : VK}
    (h : TDe K ty (evE cal (.op o [a])) .sh σ H Q) : tFz (tUn (rD1 K f) (tO K ty cal a)) σ H Q := by
  obtain ⟨G, fx, env, As, d, env', S, e, k⟩ := h
  simp only [evE] at e
  obtain ⟨ds, env1, e1, e2⟩ := bind_ok e
  rw [ho] at e2
  split at e2
  · rename_i d' h1
    cases e2
    obtain ⟨x, rfl, h2⟩ := on1_inv h1
    refine tOs_of [a] σ H (fun vs H2 => match vs with | [v] => rD1 K f v H2 (fun v H' => Q v H' ∨ ∃ p vs, v = .ref p ∧ H' p = some (.lst vs) ∧ ∀ o, Q v (upd H' p (.frz o (.lst vs)))) | _ => False) ⟨G, fx, env, As, _, env', S, e1, fun vs H' As' S' oa f1 x1 => ?_⟩
    obtain ⟨v, rfl, hv⟩ := (oa.rtA S').one_inv
    exact ⟨x, d, hv, h2, fin_sh S' f1 x1 k⟩
  · cases e2
/-- a call of a built-in -/
theorem call_of {K : PySem.W.Frag} {ty : List Ty} {as : List E} {o : Op} {σ : L2.St} {H : Hp} {Q : VK} (h : TDe K ty (evE cal (.op o as)) .sh σ H Q) : tFz (tCB (rDA K (evOp o)) (tOs K ty cal as)) σ H Q := by
  obtain ⟨G, fx, env, As, d, env', S, e, k⟩ := h
  simp only [evE] at e
  obtain ⟨ds, env1, e1, e2⟩ := bind_ok e
  split at e2
  · rename_i d' h1
    cases e2
    exact tOs_of as σ H _ ⟨G, fx, env, As, _, env', S, e1, fun vs H' As' S' oa f1 x1 => ⟨ds, d, oa.rtA S', h1, fin_sh S' f1 x1 k⟩⟩
  · cases e2
end
end Dv
end
section
namespace Dv
open PySem PySem.Spec PyProof.Rows L2

def TDt (K : PySem.W.Frag) (ty : List Ty) (ev : Env → Res PyData) : TT := fun σ H Q => ∃ G fx env As b env', SR K ty G fx H σ env As ∧ ev env = .ok (.bool b) env' ∧
  ∀ H' As', SR K ty G fx H' σ env' As' → Fr G H H' → Ext H H' → Q b H'
inductive POs (X : Cx) (Γ : Gam) (cal : Nat → List PyData → CRes) : List E → List Expr → Prop
  | nil : POs X Γ cal [] []
  | cons {a : E} {e : Expr} {as : List E} {es : List Expr} : PE X e (tO X.K Γ.ty cal a) → POs X Γ cal as es → POs X Γ cal (a :: as) (e :: es)
inductive PEs (X : Cx) (Γ : Gam) (cal : Nat → List PyData → CRes) : List E → List Expr → Prop
  | nil : PEs X Γ cal [] []
  | cons {a : E} {e : Expr} {as : List E} {es : List Expr} : notStar e = true → PE X e (TDe X.K Γ.ty (evE cal a) .sh) → PEs X Γ cal as es → PEs X Γ cal (a :: as) (e :: es)
section
variable {X : Cx} {Γ : Gam} {cal : Nat → List PyData → CRes} {e x y z : Expr} {κ : Ty} {ir a b c : E} {pos : Pos}
theorem pt_plain (h : PE X e (TDe X.K Γ.ty (evE cal ir) .sh)) (he : ∀ whole, isTrue e X.env whole = (do let v ← whole; standAt e.pos; holding [v] (truthy v))) : PT X e (TDt X.K Γ.ty (evE cal ir)) := by
  refine ptImp (pt_val h he) fun σ H Q ⟨G, fx, env, As, b, env', S, e1, k⟩ => ⟨G, fx, env, As, _, env', S, e1, fun v H' As' A S' r _ f x => ?_⟩
  obtain ⟨h, _⟩ := r.sh_inv
  cases h
  exact ⟨b, rfl, k H' As' S' f x⟩
theorem case_k {cst : PyData} (h : ckK cst e = true) : PE X e (TDe X.K Γ.ty (evE cal (.k cst)) .sh) := by
  have fin : ∀ {v : V}, Sh X.K (fun _ => none) v cst → ∀ {σ : L2.St} {H : Hp} {Q : VK}, TDe X.K Γ.ty (evE cal (.k cst)) .sh σ H Q → (∀ H, Sh X.K H v cst) → Q v H := by
    intro v _ σ H Q ⟨G, fx, env, As, d, env', S, e1, k⟩ hv
    simp only [evE] at e1
    cases e1
    exact k v H As [] S ⟨hv H, rfl⟩ (fun a h => by cases h) (Fr.refl _ _) (Ext.refl _)
  unfold ckK at h
  split at h
  · exact peImp pe_non fun σ H Q q => fin .non q fun _ => .non
  · rename_i b c i p
    have : b = c := by simpa using h
    subst this
    exact peImp pe_bl fun σ H Q q => fin (.bl _) q fun _ => .bl _
  · rename_i b c i p
    have : b = c := by simpa using h
    subst this
    exact peImp pe_int fun σ H Q q => fin (.int _) q fun _ => .int _
  · rename_i b c i p
    have : b = c := by simpa using h
    subst this
    exact peImp pe_str fun σ H Q q => fin (.str _) q fun _ => .str _
  · cases h
theorem case_v (g : Good X Γ cal) {i : Nat} {x : Str} (h : slotB Γ i x = true) (ht : Γ.ty[i]? = some .sh) : PE X (.Name x pos) (TDe X.K Γ.ty (evE cal (.v i)) .sh) := by
  obtain ⟨h1, h2, h3, h4⟩ := slot_ok g h
  refine peImp (pe_var h1 h2 h3 h4) fun σ H Q ⟨G, fx, env, As, d, env', S, e1, k⟩ => ?_
  simp only [evE] at e1
  split at e1
  · rename_i d' hf
    cases e1
    obtain ⟨τ, v, t1, t2, r⟩ := S.get hf
    rw [ht] at t1; cases t1
    exact ⟨v, t2, k v H As [] S ⟨r.sh_inv.1, rfl⟩ (fun a h => by cases h) (Fr.refl _ _) (Ext.refl _)⟩
  · cases e1
theorem case_mv (g : Good X Γ cal) {i : Nat} {x : Str} (h : slotB Γ i x = true) (ht : Γ.ty[i]? = some κ) (hs : setB κ = true) : PE X (.Name x pos) (TDe X.K Γ.ty (evE cal (.mv i)) κ) := by
  obtain ⟨h1, h2, h3, h4⟩ := slot_ok g h
  refine peImp (pe_var h1 h2 h3 h4) fun σ H Q ⟨G, fx, env, As, d, env', S, e1, k⟩ => ?_
  simp only [evE] at e1
  split at e1
  · rename_i d' hf
    cases e1
    obtain ⟨τ, v, t1, t2, r⟩ := S.get hf
    rw [ht] at t1; cases t1
    refine ⟨v, t2, k v H _ (As i) (S.drop ht hs) r (fun a h => ⟨(S.off i a h).1, (S.off i a h).2, fun j hj => ?_⟩) (Fr.refl _ _) (Ext.refl _)⟩
    by_cases e : j = i
    · rw [if_pos e] at hj; cases hj
    · rw [if_neg e] at hj; exact e (S.dj j i a hj h)
  · cases e1
theorem case_fzv (g : Good X Γ cal) {i : Nat} {x : Str} (h : slotB Γ i x = true) (ht : Γ.ty[i]? = some (.lst .own)) : PE X (.Name x pos) (TDe X.K Γ.ty (evE cal (.mv i)) .sh) := by
  refine peImp (pe_fz (case_mv g h ht rfl)) fun σ H Q ⟨G, fx, env, As, d, env', S, e1, k⟩ => ⟨G, fx, env, As, d, env', S, e1, fun v H' As' A S' r oA f x => ?_⟩
  obtain ⟨q, ws, es, rfl, rfl, hp, sa, rfl⟩ := r
  obtain ⟨z1, z2, z3⟩ := oA q (List.mem_singleton_self _)
  refine .inr ⟨q, ws, rfl, hp, fun o => ?_⟩
  have xe := upd_frz_ext (o := o) hp
  obtain ⟨S3, f3⟩ := S'.frz xe z1 z3
  exact k _ _ As' [] S3 ⟨.lst ⟨o, upd_same⟩ (sa.ext xe), rfl⟩ (fun a h => by cases h) (f.trans f3) (x.trans xe)
theorem case_bin {op : Operator} {o : Op} (g : Good X Γ cal) (h : binOp op = some o) (ha : PE X x (tO X.K Γ.ty cal a)) (hb : PE X y (tO X.K Γ.ty cal b)) : PE X (.BinOp x op y pos) (TDe X.K Γ.ty (evE cal (.op o [a, b])) .sh) := by
  obtain ⟨f, h1, h2⟩ := bin_ok (X := X) h
  exact peImp (pe_fz (pe_op h2 ha hb)) fun σ H Q q => two_of h1 rfl q
theorem binAdd {op : Operator} (h : binOp op = some .add) : op = .Add := by
  cases op <;> first | rfl | (simp [binOp] at h)
theorem case_neg (ha : PE X x (tO X.K Γ.ty cal a)) : PE X (.UnaryOp .USub x pos) (TDe X.K Γ.ty (evE cal (.op .neg [a])) .sh) :=
  peImp (pe_fz (pe_un un_neg_d ha)) fun σ H Q q => one_of rfl q
theorem case_srs {f h : Str} {p p2 q : Pos} (g : Good X Γ cal) (hf : f = "sorted") (hg : glB Γ f = true) (hh : h = "set") (hg2 : glB Γ h = true) (hn : notStar x = true) (ha : PE X x (tO X.K Γ.ty cal a)) :
    PE X (.Call (.Name f p) [.Call (.Name h p2) [x] [] q] [] pos) (TDe X.K Γ.ty (evE cal (.op .srs [a])) .sh) := by
  obtain ⟨h1, _, _⟩ := gl_ok g hg
  obtain ⟨h2, _, _⟩ := gl_ok g hg2
  subst hf hh
  exact peImp (pe_fz (pe_srs h1 (g.blt _ (by decide +kernel)) h2 (g.blt _ (by decide +kernel)) ha g.calm (star_ns hn))) fun σ H Q q => one_of rfl q
theorem case_lens {f h : Str} {p p2 q : Pos} (g : Good X Γ cal) (hf : f = "len") (hg : glB Γ f = true) (hh : h = "set") (hg2 : glB Γ h = true) (hn : notStar x = true) (ha : PE X x (tO X.K Γ.ty cal a)) :
    PE X (.Call (.Name f p) [.Call (.Name h p2) [x] [] q] [] pos) (TDe X.K Γ.ty (evE cal (.op .lens [a])) .sh) := by
  obtain ⟨h1, _, _⟩ := gl_ok g hg
  obtain ⟨h2, _, _⟩ := gl_ok g hg2
  subst hf hh
  exact peImp (pe_fz (pe_lens h1 (g.blt _ (by decide +kernel)) h2 (g.blt _ (by decide +kernel)) ha g.calm (star_ns hn))) fun σ H Q q => one_of rfl q
theorem case_cmp {op : CmpOp} {o : Op} (g : Good X Γ cal) (h : cmpOp op = some o) (hm : behindInMarks op y = false) (ha : PE X x (tO X.K Γ.ty cal a)) (hb : PE X y (tO X.K Γ.ty cal b)) :
    PE X (.Compare x [op] [y] pos) (TDe X.K Γ.ty (evE cal (.op o [a, b])) .sh) ∧ PT X (.Compare x [op] [y] pos) (TDt X.K Γ.ty (evE cal (.op o [a, b]))) := by
  obtain ⟨f, h1, h2⟩ := cmp_ok g h
  refine ⟨peImp (pe_fz (pe_cmpR h2 ha hb hm)) fun σ H Q q => two_of h1 rfl q, ptImp (pt_cmpR h2 ha hb hm) fun σ H Q ⟨G, fx, env, As, k1, env', S, e, k⟩ => ?_⟩
  simp only [evE] at e
  obtain ⟨ds, env1, e1, e2⟩ := bind_ok e
  rw [h1] at e2
  split at e2
  · rename_i d' h3
    cases e2
    obtain ⟨p, q, rfl, h4⟩ := on2_inv h3
    refine tOs_of [a, b] σ H (fun vs H2 => match vs with | [v, w] => rD2 X.K f v w H2 (fun x H' => ∃ k, x = .bl k ∧ Q k H') | _ => False) ⟨G, fx, env, As, _, env', S, e1, fun vs H' As' S' oa f1 x1 => ?_⟩
    obtain ⟨v, w, rfl, hv, hw⟩ := (oa.rtA S').two_inv
    refine ⟨p, q, _, hv, hw, h4, fun r H2 s ro => ?_⟩
    rcases ro with ro | ⟨_, _, _, _, e, _⟩
    · cases ro
      exact ⟨_, rfl, k H2 As' (S'.same s) (f1.trans (S'.fr s)) (x1.trans (Ext.of_same s))⟩
    · cases e
  · cases e2
theorem case_ix (h : notSl y = true) (ha : PE X x (tO X.K Γ.ty cal a)) (hb : PE X y (tO X.K Γ.ty cal b)) : PE X (.Subscript x y pos) (TDe X.K Γ.ty (evE cal (.op .ix [a, b])) .sh) :=
  peImp (pe_fz (pe_ix ix_d ha hb (pix_ns h))) fun σ H Q q => two_of rfl rfl q
theorem case_rev {k : Nat} {p1 p2 p3 : Pos} (ha : PE X x (tO X.K Γ.ty cal a)) : PE X (.Subscript x (.Slice none none (some (.UnaryOp .USub (.Constant (.int 1) k p1) p2)) p3) pos) (TDe X.K Γ.ty (evE cal (.op .rev [a])) .sh) := by
  refine peImp (pe_fz (pe_rev ha)) fun σ H Q ⟨G, fx, env, As, d, env', S, e, k⟩ => ?_
  simp only [evE] at e
  obtain ⟨ds, env1, e1, e2⟩ := bind_ok e
  split at e2
  · rename_i d' h1
    cases e2
    obtain ⟨x, rfl, h2⟩ := on1_inv h1
    unfold revD at h2
    split at h2
    · rename_i xs
      cases h2
      refine .inl (tOs_of [a] σ H (fun vs H2 => match vs with | [v] => ∃ a xs, v = .ref a ∧ SqL X.K H2 a xs ∧ ∀ p, H2 p = none → (Q (.ref p) (upd H2 p (.lst xs.reverse)) ∨ ∃ p' vs, V.ref p = .ref p' ∧ upd H2 p (.lst xs.reverse) p' = some (.lst vs) ∧ ∀ o, Q (.ref p) (upd (upd H2 p (.lst xs.reverse)) p' (.frz o (.lst vs)))) | _ => False) ⟨G, fx, env, As, _, env', S, e1, fun vs H' As' S' oa f1 x1 => ?_⟩)
      obtain ⟨v, rfl, hv⟩ := (oa.rtA S').one_inv
      obtain ⟨b, bs, rfl, hb, sa⟩ := hv.lst_inv
      exact ⟨b, bs, rfl, .inl hb, fun p hp => (fin_sh S' f1 x1 k).newL hp sa.rev⟩
    · rename_i xs
      cases h2
      refine .inr (tOs_of [a] σ H (fun vs H2 => match vs with | [v] => ∃ a xs, v = .ref a ∧ SqT X.K H2 a xs ∧ ∀ p, H2 p = none → (Q (.ref p) (upd H2 p (.tup xs.reverse)) ∨ ∃ p' vs, V.ref p = .ref p' ∧ upd H2 p (.tup xs.reverse) p' = some (.lst vs) ∧ ∀ o, Q (.ref p) (upd (upd H2 p (.tup xs.reverse)) p' (.frz o (.lst vs)))) | _ => False) ⟨G, fx, env, As, _, env', S, e1, fun vs H' As' S' oa f1 x1 => ?_⟩)
      obtain ⟨v, rfl, hv⟩ := (oa.rtA S').one_inv
      obtain ⟨b, bs, rfl, hb, sa⟩ := hv.tup_inv
      exact ⟨b, bs, rfl, hb, fun p hp => (fin_sh S' f1 x1 k).newT hp sa.rev⟩
    · cases h2
  · cases e2
theorem POs.pa : ∀ {as : List E} {es : List Expr}, POs X Γ cal as es → es.all notStar = true → PA X es (tOs X.K Γ.ty cal as)
  | _, _, .nil, _ => pa_nil
  | _, _, .cons h t, q => by
    rw [List.all_cons, Bool.and_eq_true] at q
    exact pa_cons h (POs.pa t q.2) (star_ns q.1)
theorem case_blt {as : List E} {o : Op} {f : Str} {p : Pos} (g : Good X Γ cal) (h : bltOp f = some o) (hg : glB Γ f = true) (hc : bltNames.contains f = true) (hn : notStar x = true) (ha : POs X Γ cal as [x]) :
    PE X (.Call (.Name f p) [x] [] pos) (TDe X.K Γ.ty (evE cal (.op o as)) .sh) := by
  obtain ⟨h1, h2, h3⟩ := gl_ok g hg
  have hm := g.blt f (by simpa using hc)
  have pa := ha.pa (by simp [hn])
  rcases blt_ok g h with ⟨id, b1, b2⟩ | ⟨T, b1, b2⟩
  · exact peImp (pe_fz (pe_callB b2 h1 hm b1 pa h3 h2 (star_ns hn) rfl)) fun σ H Q q => call_of q
  · exact peImp (pe_fz (pe_callTy b2 h1 hm b1 pa h3 h2 (star_ns hn) rfl)) fun σ H Q q => call_of q
theorem case_blt2 {as : List E} {o : Op} {f : Str} {p : Pos} (g : Good X Γ cal) (h : bltOp2 f = some o) (hg : glB Γ f = true) (hc : bltNames.contains f = true) (hn : notStar x = true) (hn2 : notStar y = true) (ha : POs X Γ cal as [x, y]) :
    PE X (.Call (.Name f p) [x, y] [] pos) (TDe X.K Γ.ty (evE cal (.op o as)) .sh) := by
  obtain ⟨h1, h2, h3⟩ := gl_ok g hg
  have hm := g.blt f (by simpa using hc)
  have pa := ha.pa (by simp [hn, hn2])
  obtain ⟨id, b1, b2⟩ := blt2_ok g h
  exact peImp (pe_fz (pe_callB b2 h1 hm b1 pa h3 h2 (star_ns hn) (by rw [star_ns hn2]; rfl))) fun σ H Q q => call_of q
/-- an end that is a new list, of either kind -/
theorem finL_k {K : PySem.W.Frag} {ty : List Ty} {G : Addr → Prop} {fx : Nat → Option V} {H H1 : Hp} {σ : L2.St} {env' : Env} {As' : Fp} {ds : List PyData} {Q : VK} (hk : own1 κ = true) (S : SR K ty G fx H1 σ env' As') (f1 : Fr G H H1) (x1 : Ext H H1)
    (k : ∀ v H' As' A, SR K ty G fx H' σ env' As' → Rep K G H' κ v (.list ds) A → (∀ a ∈ A, ¬ G a ∧ H' a ≠ none ∧ ∀ i, a ∉ As' i) → Fr G H H' → Ext H H' → Q v H') :
    FinL K H1 ds fun v H' => Q v H' ∨ ∃ p vs, v = .ref p ∧ H' p = some (.lst vs) ∧ ∀ o, Q v (upd H' p (.frz o (.lst vs))) := by
  intro p vs H2 s hn hp sa
  unfold own1 at hk
  simp only [Bool.or_eq_true, decide_eq_true_eq] at hk
  rcases hk with rfl | rfl
  · exact fin_sh S f1 x1 k _ _ s (.inr ⟨p, vs, ds, rfl, rfl, hn, hp, sa⟩)
  · exact .inl (fin_own S f1 x1 k s hn hp sa)
theorem case_addl {op : Operator} (g : Good X Γ cal) (h : binOp op = some .add) (hk : own1 κ = true) (ha : PE X x (tO X.K Γ.ty cal a)) (hb : PE X y (tO X.K Γ.ty cal b)) : PE X (.BinOp x op y pos) (TDe X.K Γ.ty (evE cal (.op .addl [a, b])) κ) := by
  have := binAdd h
  subst this
  refine peImp (pe_fz (pe_op op_addl_d ha hb)) fun σ H Q ⟨G, fx, env, As, d, env', S, e, k⟩ => ?_
  simp only [evE] at e
  obtain ⟨ds, env1, e1, e2⟩ := bind_ok e
  split at e2
  · rename_i d' h1
    cases e2
    obtain ⟨p, q, rfl, h2⟩ := on2_inv (f := addlD) h1
    obtain ⟨es, rfl⟩ : ∃ es, d = .list es := by
      unfold addlD at h2
      split at h2
      · split at h2
        · cases h2; exact ⟨_, rfl⟩
        · cases h2
      · cases h2
    refine tOs_of [a, b] σ H (fun vs H2 => match vs with | [v, w] => rDL2 X.K addlD v w H2 (fun v H' => Q v H' ∨ ∃ p vs, v = .ref p ∧ H' p = some (.lst vs) ∧ ∀ o, Q v (upd H' p (.frz o (.lst vs)))) | _ => False) ⟨G, fx, env, As, _, env', S, e1, fun vs H' As' S' oa f1 x1 => ?_⟩
    obtain ⟨v, w, rfl, hv, hw⟩ := (oa.rtA S').two_inv
    exact ⟨p, q, es, hv, hw, h2, finL_k hk S' f1 x1 k⟩
  · cases e2
set_option maxHeartbeats 4000000 in
theorem case_new {as : List E} {o : Op} {f : Str} {p : Pos} (g : Good X Γ cal) (h : bltOp f = some o) (ho : o = .lst ∨ o = .srt) (hk : own1 κ = true) (hg : glB Γ f = true) (hc : bltNames.contains f = true) (hn : notStar x = true) (ha : POs X Γ cal as [x]) :
    PE X (.Call (.Name f p) [x] [] pos) (TDe X.K Γ.ty (evE cal (.op o as)) κ) := by
  obtain ⟨h1, h2, h3⟩ := gl_ok g hg
  have hm := g.blt f (by simpa using hc)
  have pa := ha.pa (by simp [hn])
  have key : ∀ {fn : PyData → Option PyData}, evOp o = on1 fn → (∀ x d, fn x = some d → ∃ es, d = .list es) → ∀ σ H Q, TDe X.K Γ.ty (evE cal (.op o as)) κ σ H Q → tFz (tCB (rDL X.K (on1 fn)) (tOs X.K Γ.ty cal as)) σ H Q := by
    intro fn e0 hf σ H Q ⟨G, fx, env, As, d, env', S, e, k⟩
    simp only [evE] at e
    obtain ⟨ds, env1, e1, e2⟩ := bind_ok e
    rw [e0] at e2
    split at e2
    · rename_i d' h4
      cases e2
      obtain ⟨y, _, q⟩ := on1_inv h4
      obtain ⟨es, rfl⟩ := hf _ _ q
      exact tOs_of as σ H _ ⟨G, fx, env, As, _, env', S, e1, fun vs H' As' S' oa f1 x1 => ⟨ds, es, oa.rtA S', h4, finL_k hk S' f1 x1 k⟩⟩
    · cases e2
  have u := g.un
  unfold bltOp at h
  rcases ho with rfl | rfl
  · have : f = "list" := by
      repeat' split at h
      all_goals first | assumption | cases h
    subst this
    exact peImp (pe_fz (pe_callTy call_lst_l h1 hm (by decide +kernel) pa h3 h2 (star_ns hn) rfl)) (key rfl fun _ _ h => lstD_lst h)
  · have : f = "sorted" := by
      repeat' split at h
      all_goals first | assumption | cases h
    subst this
    exact peImp (pe_fz (pe_callB (call_sort_l g.calm (by omega)) h1 hm (by decide +kernel) pa h3 h2 (star_ns hn) rfl)) (key rfl fun _ _ h => sortD_lst h)
/-! displays -/
theorem PEs.pa : ∀ {as : List E} {es : List Expr}, PEs X Γ cal as es → ∃ t, PA X es t ∧ ∀ σ H (Q : List V → Hp → Prop), (∃ G fx env As ds env', SR X.K Γ.ty G fx H σ env As ∧ evEs cal as env = .ok ds env' ∧
    ∀ vs H' As', SR X.K Γ.ty G fx H' σ env' As' → ShA X.K H' vs ds → Fr G H H' → Ext H H' → Q vs H') → t σ H Q
  | _, _, .nil => ⟨_, pa_nil, fun σ H Q ⟨G, fx, env, As, ds, env', S, e, k⟩ => by
      simp only [evEs] at e
      cases e
      exact k [] H As S .nil (Fr.refl _ _) (Ext.refl _)⟩
  | _, _, .cons (a := a) hn h t => by
    obtain ⟨t1, p1, p2⟩ := PEs.pa t
    refine ⟨_, pa_cons h p1 (star_ns hn), fun σ H Q ⟨G, fx, env, As, ds, env', S, e, k⟩ => ?_⟩
    simp only [evEs] at e
    obtain ⟨d, env1, e1, e2⟩ := bind_ok e
    obtain ⟨ds1, env2, e3, e4⟩ := bind_ok e2
    cases e4
    refine ⟨G, fx, env, As, d, env1, S, e1, fun v H1 As1 A1 S1 r1 _ f1 x1 => p2 σ H1 _ ⟨G, fx, env1, As1, ds1, env', S1, e3, fun vs H' As' S' sa f x => k _ H' As' S' (.cons (r1.sh_inv.1.ext x) sa) (f1.trans f) (x1.trans x)⟩⟩
theorem case_tup {as : List E} {es : List Expr} {n : Nat} (h : PEs X Γ cal as es) : PE X (.Tuple es n pos) (TDe X.K Γ.ty (evE cal (.tup as)) .sh) := by
  obtain ⟨t, p1, p2⟩ := h.pa
  refine peImp (pe_tup p1) fun σ H Q ⟨G, fx, env, As, d, env', S, e, k⟩ => ?_
  simp only [evE] at e
  obtain ⟨ds, env1, e1, e2⟩ := bind_ok e
  split at e2
  · rename_i hz
    cases e2
    refine p2 σ H _ ⟨G, fx, env, As, ds, env', S, e1, fun vs H' As' S' sa f x => ⟨by rw [sa.length]; exact hz, fun p hp => ?_⟩⟩
    have s := same_upd (o := .tup vs) hp
    exact k _ _ As' [] (S'.same s) ⟨.tup (SqT.of upd_same) (sa.same s), rfl⟩ (fun a h => by cases h) (f.trans (S'.fr s)) (x.trans (Ext.of_same s))
  · cases e2
theorem case_lst {as : List E} {es : List Expr} (hk : own1 κ = true) (h : PEs X Γ cal as es) : PE X (.List es pos) (TDe X.K Γ.ty (evE cal (.lst as)) κ) := by
  obtain ⟨t, p1, p2⟩ := h.pa
  refine peImp (pe_fz (pe_lst p1)) fun σ H Q ⟨G, fx, env, As, d, env', S, e, k⟩ => ?_
  simp only [evE] at e
  obtain ⟨ds, env1, e1, e2⟩ := bind_ok e
  split at e2
  · rename_i hz
    cases e2
    refine p2 σ H _ ⟨G, fx, env, As, ds, env', S, e1, fun vs H' As' S' sa f x => ⟨by rw [sa.length]; exact hz, fun p hp => ?_⟩⟩
    exact finL_k hk S' f x k p vs _ (same_upd hp) hp upd_same (sa.same (same_upd hp))
  · cases e2
end
end Dv
end
section
namespace Dv
open PySem PySem.Spec PyProof.Rows L2

def rSlD (K : PySem.W.Frag) : V → Option Int → Option Int → Hp → VK → Prop := fun x lo hi H Q => ∃ d d', Rt K H x d ∧ slI d lo hi = some d' ∧ Fin K H d' Q
theorem ShA.cut {K : PySem.W.Frag} {H : Hp} {vs : List V} {ds : List PyData} (h : ShA K H vs ds) (lo hi : Option Int) : ShA K H (cutV vs lo hi) (cutL ds lo hi) := by
  unfold cutV cutL
  rw [h.length]
  exact (h.drop _).take _
section
variable {X : Cx} {Γ : Gam} {cal : Nat → List PyData → CRes} {e x y z : Expr} {κ : Ty} {ir a b c : E} {pos p2 : Pos}
theorem sl_d : SlR X (rSlD X.K) := by
  intro pins s σ H x v vl vu lo hi sl Q I rx hs pl pu h
  obtain ⟨d, d', hx, e, f⟩ := h
  unfold slI at e
  split at e
  · rename_i xs
    cases e
    obtain ⟨a, as, rfl, ha, sa⟩ := hx.lst_inv
    exact sl_list pins s σ H _ v vl vu lo hi sl Q I rx hs pl pu ⟨a, as, rfl, .inl ha, fun p hp => f.newL hp (sa.cut lo hi)⟩
  · rename_i xs
    cases e
    obtain ⟨a, as, rfl, ha, sa⟩ := hx.tup_inv
    refine sl_tupA pins s σ H _ v vl vu lo hi sl Q I rx hs pl pu ⟨a, as, rfl, ha, fun hw => ?_, fun _ p hp => f.newT hp (sa.cut lo hi)⟩
    have : cutL xs lo hi = xs := by
      unfold cutL
      rw [← sa.length, hw.1, hw.2, List.drop_zero, Nat.sub_zero, List.take_of_length_le (by rw [sa.length]; exact Nat.le_refl _)]
    rw [this] at f
    exact f.sh (.tup ha sa)
  · rename_i z
    cases hx.str_inv
    split at e
    · rename_i hz
      cases e
      exact sl_str pins s σ H _ v vl vu lo hi sl Q I rx hs pl pu ⟨z, rfl, hz, f.sh (.str _)⟩
    · cases e
  · cases e
/-- a slice's part -/
def TDp (K : PySem.W.Frag) (ty : List Ty) (cal : Nat → List PyData → CRes) (o : Option E) : TO := fun σ H Q => ∃ G fx env As d env' p, SR K ty G fx H σ env As ∧ evOpt cal o env = .ok d env' ∧ partD d = some p ∧
  ∀ H' As', SR K ty G fx H' σ env' As' → Fr G H H' → Ext H H' → Q p H'
theorem case_p0 : PO X none (TDp X.K Γ.ty cal none) := by
  refine ⟨fun pins s σ H Q I ⟨G, fx, env, As, d, env', p, S, e, hp, k⟩ => ?_⟩
  simp only [evOpt] at e
  cases e
  cases hp
  exact po_none.run pins s σ H Q I (k H As S (Fr.refl _ _) (Ext.refl _))
theorem case_p1 (h : PE X e (TDe X.K Γ.ty (evE cal a) .sh)) : PO X (some e) (TDp X.K Γ.ty cal (some a)) := by
  refine ⟨fun pins s σ H Q I ⟨G, fx, env, As, d, env', p, S, e, hp, k⟩ => ?_⟩
  simp only [evOpt] at e
  obtain ⟨d1, env1, e1, e2⟩ := bind_ok e
  cases e2
  refine (po_some h).run pins s σ H Q I ⟨G, fx, env, As, d1, env', S, e1, fun v H' As' A S' r _ f x => ?_⟩
  obtain ⟨sh, _⟩ := r.sh_inv
  unfold partD at hp
  split at hp
  · rename_i q; cases q
  · rename_i i q
    cases q; cases hp
    cases sh
    exact ⟨i, rfl, k H' As' S' f x⟩
  · cases hp
theorem sl_end {K : PySem.W.Frag} {ty : List Ty} {lo hi : Option E} {σ : L2.St} {H H0 : Hp} {Q : VK} {G : Addr → Prop} {fx : Nat → Option V} {env env1 env2 : Env} {As : Fp} {dl dh : Option PyData} {d0 d' : PyData} {v : V}
    (S : SR K ty G fx H σ env As) (e1 : evOpt cal lo env = .ok dl env1) (e2 : evOpt cal hi env1 = .ok dh env2) (hs : slD d0 dl dh = some d') (f0 : Fr G H0 H) (x0 : Ext H0 H)
    (hv : ∀ H' As', SR K ty G fx H' σ env2 As' → Ext H H' → Rt K H' v d0)
    (k : ∀ v H' As' A, SR K ty G fx H' σ env2 As' → Rep K G H' .sh v d' A → (∀ a ∈ A, ¬ G a ∧ H' a ≠ none ∧ ∀ i, a ∉ As' i) → Fr G H0 H' → Ext H0 H' → Q v H') :
    TDp K ty cal lo σ H fun l H2 => TDp K ty cal hi σ H2 fun u H3 => rSlD K v l u H3 (fun v H' => Q v H' ∨ ∃ p vs, v = .ref p ∧ H' p = some (.lst vs) ∧ ∀ o, Q v (upd H' p (.frz o (.lst vs)))) := by
  unfold slD at hs
  split at hs
  · rename_i l h pl ph
    refine ⟨G, fx, env, As, dl, env1, l, S, e1, pl, fun H1 As1 S1 f1 x1 => ⟨G, fx, env1, As1, dh, env2, h, S1, e2, ph, fun H2 As2 S2 f2 x2 => ?_⟩⟩
    exact ⟨d0, d', hv H2 As2 S2 (x1.trans x2), hs, fin_sh S2 ((f0.trans f1).trans f2) ((x0.trans x1).trans x2) k⟩
  · cases hs
theorem case_slb {i : Nat} {lo hi : Option E} {l h : Option Expr} (hx : PE X x (tVar i)) (hl : PO X l (TDp X.K Γ.ty cal lo)) (hh : PO X h (TDp X.K Γ.ty cal hi)) :
    PE X (.Subscript x (.Slice l h none p2) pos) (TDe X.K Γ.ty (evE cal (.sl (.b i) lo hi)) .sh) := by
  refine peImp (pe_fz (pe_slice sl_d hx hl hh)) fun σ H Q ⟨G, fx, env, As, d, env', S, e, k⟩ => ?_
  simp only [evE] at e
  split at e
  · cases e
  · rename_i d0 h0
    obtain ⟨dl, env1, e1, e2⟩ := bind_ok e
    obtain ⟨dh, env2, e3, e4⟩ := bind_ok e2
    split at e4
    · cases e4
    · rename_i d1 h1
      split at e4
      · rename_i d2 h2
        cases e4
        obtain ⟨τ, v, _, hσ, _⟩ := S.get h0
        exact ⟨v, hσ, sl_end S e1 e3 h2 (Fr.refl _ _) (Ext.refl _) (fun H' As' S' _ => S'.rt hσ h1) k⟩
      · cases e4
theorem evE_sl {lo hi : Option E} {env : Env} (h : ∀ i, a ≠ .b i) : evE cal (.sl a lo hi) env = (evE cal a env).bind fun d env => (evOpt cal lo env).bind fun l env => (evOpt cal hi env).bind fun h env => match slD d l h with | some d => .ok d env | none => .bad := by
  cases a <;> first | rfl | exact absurd rfl (h _)
theorem case_sl {lo hi : Option E} {l h : Option Expr} (hn : ∀ i, a ≠ .b i) (hx : PE X x (TDe X.K Γ.ty (evE cal a) .sh)) (hl : PO X l (TDp X.K Γ.ty cal lo)) (hh : PO X h (TDp X.K Γ.ty cal hi)) :
    PE X (.Subscript x (.Slice l h none p2) pos) (TDe X.K Γ.ty (evE cal (.sl a lo hi)) .sh) := by
  refine peImp (pe_fz (pe_slice sl_d hx hl hh)) fun σ H Q ⟨G, fx, env, As, d, env', S, e, k⟩ => ?_
  rw [evE_sl hn] at e
  obtain ⟨d0, env0, e0, e⟩ := bind_ok e
  obtain ⟨dl, env1, e1, e2⟩ := bind_ok e
  obtain ⟨dh, env2, e3, e4⟩ := bind_ok e2
  split at e4
  · rename_i d2 h2
    cases e4
    exact ⟨G, fx, env, As, d0, env0, S, e0, fun v H1 As1 A1 S1 r1 _ f1 x1 => sl_end S1 e1 e3 h2 f1 x1 (fun H' As' S' x' => .sh (r1.sh_inv.1.ext x')) k⟩
  · cases e4

/-! tests -/
theorem case_andW (ha : PT X x (TDt X.K Γ.ty (evE cal a))) {e : Expr} {rest : List Expr} (hb : PW X (.BoolOp .And (y :: rest) pos) (TDt X.K Γ.ty (evE cal b))) : PW X (.BoolOp .And (x :: y :: rest) pos) (TDt X.K Γ.ty (evE cal (.and a b))) := by
  refine ⟨fun wh pins s σ H Q I ⟨G, fx, env, As, bv, env', S, e, k⟩ => (pw_and ha hb).run wh pins s σ H Q I ?_⟩
  simp only [evE] at e
  obtain ⟨d, env1, e1, e2⟩ := bind_ok e
  split at e2
  · refine ⟨G, fx, env, As, true, env1, S, e1, fun H1 As1 S1 f1 x1 => ?_⟩
    exact iteT (⟨G, fx, env1, As1, bv, env', S1, e2, fun H2 As2 S2 f2 x2 => k H2 As2 S2 (f1.trans f2) (x1.trans x2)⟩)
  · cases e2
    refine ⟨G, fx, env, As, false, env', S, e1, fun H1 As1 S1 f1 x1 => ?_⟩
    exact iteF (k H1 As1 S1 f1 x1)
  · cases e2
theorem case_orW (ha : PT X x (TDt X.K Γ.ty (evE cal a))) {rest : List Expr} (hb : PW X (.BoolOp .Or (y :: rest) pos) (TDt X.K Γ.ty (evE cal b))) : PW X (.BoolOp .Or (x :: y :: rest) pos) (TDt X.K Γ.ty (evE cal (.or a b))) := by
  refine ⟨fun wh pins s σ H Q I ⟨G, fx, env, As, bv, env', S, e, k⟩ => (pw_or ha hb).run wh pins s σ H Q I ?_⟩
  simp only [evE] at e
  obtain ⟨d, env1, e1, e2⟩ := bind_ok e
  split at e2
  · cases e2
    refine ⟨G, fx, env, As, true, env', S, e1, fun H1 As1 S1 f1 x1 => ?_⟩
    exact iteT (k H1 As1 S1 f1 x1)
  · refine ⟨G, fx, env, As, false, env1, S, e1, fun H1 As1 S1 f1 x1 => ?_⟩
    exact iteF (⟨G, fx, env1, As1, bv, env', S1, e2, fun H2 As2 S2 f2 x2 => k H2 As2 S2 (f1.trans f2) (x1.trans x2)⟩)
  · cases e2
theorem case_and (ha : PE X x (TDe X.K Γ.ty (evE cal a) .sh)) {rest : List Expr} (hb : PE X (.BoolOp .And (y :: rest) pos) (TDe X.K Γ.ty (evE cal b) .sh)) : PE X (.BoolOp .And (x :: y :: rest) pos) (TDe X.K Γ.ty (evE cal (.and a b)) .sh) := by
  refine peImp (pe_and ha hb) fun σ H Q ⟨G, fx, env, As, bv, env', S, e, k⟩ => ?_
  simp only [evE] at e
  obtain ⟨d, env1, e1, e2⟩ := bind_ok e
  split at e2
  · refine ⟨G, fx, env, As, .bool true, env1, S, e1, fun v H1 As1 A1 S1 r f1 x1 x2 => ?_⟩
    obtain ⟨sh, _⟩ := r.sh_inv
    cases sh
    refine ⟨true, rfl, ?_⟩
    exact iteT (⟨G, fx, env1, As1, bv, env', S1, e2, fun v H2 As2 A2 S2 r2 o2 f2 y2 => k v H2 As2 A2 S2 r2 o2 (x1.trans f2) (x2.trans y2)⟩)
  · cases e2
    refine ⟨G, fx, env, As, .bool false, env', S, e1, fun v H1 As1 A1 S1 r f1 x1 x2 => ?_⟩
    have r' := r
    obtain ⟨sh, _⟩ := r.sh_inv
    cases sh
    refine ⟨false, rfl, ?_⟩
    exact iteF (k _ H1 As1 A1 S1 r' f1 x1 x2)
  · cases e2
theorem case_or (ha : PE X x (TDe X.K Γ.ty (evE cal a) .sh)) {rest : List Expr} (hb : PE X (.BoolOp .Or (y :: rest) pos) (TDe X.K Γ.ty (evE cal b) .sh)) : PE X (.BoolOp .Or (x :: y :: rest) pos) (TDe X.K Γ.ty (evE cal (.or a b)) .sh) := by
  refine peImp (pe_or ha hb) fun σ H Q ⟨G, fx, env, As, bv, env', S, e, k⟩ => ?_
  simp only [evE] at e
  obtain ⟨d, env1, e1, e2⟩ := bind_ok e
  split at e2
  · cases e2
    refine ⟨G, fx, env, As, .bool true, env', S, e1, fun v H1 As1 A1 S1 r f1 x1 x2 => ?_⟩
    have r' := r
    obtain ⟨sh, _⟩ := r.sh_inv
    cases sh
    refine ⟨true, rfl, ?_⟩
    exact iteT (k _ H1 As1 A1 S1 r' f1 x1 x2)
  · refine ⟨G, fx, env, As, .bool false, env1, S, e1, fun v H1 As1 A1 S1 r f1 x1 x2 => ?_⟩
    obtain ⟨sh, _⟩ := r.sh_inv
    cases sh
    refine ⟨false, rfl, ?_⟩
    exact iteF (⟨G, fx, env1, As1, bv, env', S1, e2, fun v H2 As2 A2 S2 r2 o2 f2 y2 => k v H2 As2 A2 S2 r2 o2 (x1.trans f2) (x2.trans y2)⟩)
  · cases e2
theorem case_not (ha : PE X x (TDe X.K Γ.ty (evE cal a) .sh)) : PE X (.UnaryOp .Not x pos) (TDe X.K Γ.ty (evE cal (.not a)) .sh) := by
  refine peImp (pe_not ha) fun σ H Q ⟨G, fx, env, As, bv, env', S, e, k⟩ => ?_
  simp only [evE] at e
  obtain ⟨d, env1, e1, e2⟩ := bind_ok e
  split at e2
  · rename_i bb
    cases e2
    refine ⟨G, fx, env, As, .bool bb, env', S, e1, fun v H1 As1 A1 S1 r f1 x1 x2 => ?_⟩
    obtain ⟨sh, eA⟩ := r.sh_inv
    cases sh
    exact ⟨bb, rfl, k _ H1 As1 A1 S1 ⟨.bl _, eA⟩ f1 x1 x2⟩
  · cases e2
theorem case_notT (ha : PT X x (TDt X.K Γ.ty (evE cal a))) : PT X (.UnaryOp .Not x pos) (TDt X.K Γ.ty (evE cal (.not a))) := by
  refine ptImp (pt_not ha) fun σ H Q ⟨G, fx, env, As, bv, env', S, e, k⟩ => ?_
  simp only [evE] at e
  obtain ⟨d, env1, e1, e2⟩ := bind_ok e
  split at e2
  · rename_i bb
    cases e2
    exact ⟨G, fx, env, As, bb, env', S, e1, fun H1 As1 S1 f1 x1 => k H1 As1 S1 f1 x1⟩
  · cases e2
theorem case_ite (hc : PT X x (TDt X.K Γ.ty (evE cal c))) (ha : PE X y (TDe X.K Γ.ty (evE cal a) .sh)) (hb : PE X z (TDe X.K Γ.ty (evE cal b) .sh)) : PE X (.IfExp x y z pos) (TDe X.K Γ.ty (evE cal (.ite c a b)) .sh) := by
  refine peImp (pe_ifExp hc ha hb) fun σ H Q ⟨G, fx, env, As, bv, env', S, e, k⟩ => ?_
  simp only [evE] at e
  obtain ⟨d, env1, e1, e2⟩ := bind_ok e
  split at e2
  · refine ⟨G, fx, env, As, true, env1, S, e1, fun H1 As1 S1 f1 x1 => ?_⟩
    exact iteT (⟨G, fx, env1, As1, bv, env', S1, e2, fun v H2 As2 A2 S2 r2 o2 f2 y2 => k v H2 As2 A2 S2 r2 o2 (f1.trans f2) (x1.trans y2)⟩)
  · refine ⟨G, fx, env, As, false, env1, S, e1, fun H1 As1 S1 f1 x1 => ?_⟩
    exact iteF (⟨G, fx, env1, As1, bv, env', S1, e2, fun v H2 As2 A2 S2 r2 o2 f2 y2 => k v H2 As2 A2 S2 r2 o2 (f1.trans f2) (x1.trans y2)⟩)
  · cases e2
theorem pt_ifE {tt ta tb : TT} (hc : PT X x tt) (ha : PT X y ta) (hb : PT X z tb) : PT X (.IfExp x y z pos) (fun σ H Q => tt σ H fun c H1 => if c = true then ta σ H1 Q else tb σ H1 Q) := by
  refine ⟨fun pins s σ H Q I h => isTrue_IfExp (thn (hc.run pins s σ H _ I h) fun c s1 ⟨H1, I1, q⟩ => ?_)⟩
  cases c with
  | true => exact ha.run pins s1 σ H1 Q I1 q
  | false => exact hb.run pins s1 σ H1 Q I1 q
theorem case_iteT (hc : PT X x (TDt X.K Γ.ty (evE cal c))) (ha : PT X y (TDt X.K Γ.ty (evE cal a))) (hb : PT X z (TDt X.K Γ.ty (evE cal b))) : PT X (.IfExp x y z pos) (TDt X.K Γ.ty (evE cal (.ite c a b))) := by
  refine ptImp (pt_ifE hc ha hb) fun σ H Q ⟨G, fx, env, As, bv, env', S, e, k⟩ => ?_
  simp only [evE] at e
  obtain ⟨d, env1, e1, e2⟩ := bind_ok e
  split at e2
  · refine ⟨G, fx, env, As, true, env1, S, e1, fun H1 As1 S1 f1 x1 => ?_⟩
    exact iteT (⟨G, fx, env1, As1, bv, env', S1, e2, fun H2 As2 S2 f2 y2 => k H2 As2 S2 (f1.trans f2) (x1.trans y2)⟩)
  · refine ⟨G, fx, env, As, false, env1, S, e1, fun H1 As1 S1 f1 x1 => ?_⟩
    exact iteF (⟨G, fx, env1, As1, bv, env', S1, e2, fun H2 As2 S2 f2 y2 => k H2 As2 S2 (f1.trans f2) (x1.trans y2)⟩)
  · cases e2
/-- a bool is made by an operation -/
theorem fin_bl {K : PySem.W.Frag} {H1 : Hp} {bb : Bool} {Q : VK} (h : ∀ H', Same H1 H' → Q (.bl bb) H') : Fin K H1 (.bool bb) Q := by
  intro v H2 s ro
  rcases ro with ro | ⟨_, _, _, _, e, _⟩
  · cases ro; exact h H2 s
  · cases e
theorem case_chk {o1 o2 : Op} {f1 f2 : PyData → PyData → Option PyData} (e1 : evOp o1 = on2 f1) (e2 : evOp o2 = on2 f2) (hb2 : ∀ u v d, f2 u v = some d → ∃ bb, d = .bool bb) {σ : L2.St} {H : Hp} {Q : VK} {bv : PyData} {G : Addr → Prop} {fx : Nat → Option V} {env env' : Env} {As : Fp}
    {ta tb tc : TE} (S : SR X.K Γ.ty G fx H σ env As) (e : evE cal (.ch o1 o2 a b c) env = .ok bv env')
    (ea : ta = TDe X.K Γ.ty (evE cal a) .sh) (eb : tb = TDe X.K Γ.ty (evE cal b) .sh) (ec : tc = TDe X.K Γ.ty (evE cal c) .sh)
    (k : ∀ bb H' As', bv = .bool bb → SR X.K Γ.ty G fx H' σ env' As' → Fr G H H' → Ext H H' → Q (.bl bb) H') : tChain (rD2 X.K f1) (rD2 X.K f2) ta tb tc σ H Q := by
  subst ea eb ec
  simp only [evE] at e
  obtain ⟨d1, env1, q1, e⟩ := bind_ok e
  obtain ⟨d2, env2, q2, e⟩ := bind_ok e
  refine ⟨G, fx, env, As, d1, env1, S, q1, fun v H1 As1 A1 S1 r1 _ g1 x1 => ⟨G, fx, env1, As1, d2, env2, S1, q2, fun w H2 As2 A2 S2 r2 _ g2 x2 => ?_⟩⟩
  rw [e1, e2] at e
  split at e
  · rename_i q3
    obtain ⟨d3, env3, q4, e⟩ := bind_ok e
    split at e
    · rename_i d4 q5
      cases e
      refine ⟨d1, d2, .bool true, .sh (r1.sh_inv.1.ext x2), .sh r2.sh_inv.1, q3, fin_bl fun H3 s3 => ⟨true, rfl, iteT ?_⟩⟩
      refine ⟨G, fx, env2, As2, d3, env', S2.same s3, q4, fun z H4 As4 A4 S4 r4 _ g4 x4 => ?_⟩
      obtain ⟨bb, rfl⟩ := hb2 _ _ _ q5
      exact ⟨d2, d3, .bool bb, .sh ((r2.sh_inv.1.same s3).ext x4), .sh r4.sh_inv.1, q5, fin_bl fun H5 s5 => k bb H5 As4 rfl (S4.same s5) ((((g1.trans g2).trans (S2.fr s3)).trans g4).trans (S4.fr s5)) ((((x1.trans x2).trans (Ext.of_same s3)).trans x4).trans (Ext.of_same s5))⟩
    · cases e
  · rename_i q3
    cases e
    exact ⟨d1, d2, .bool false, .sh (r1.sh_inv.1.ext x2), .sh r2.sh_inv.1, q3, fin_bl fun H3 s3 => ⟨false, rfl, iteF (k false H3 As2 rfl (S2.same s3) ((g1.trans g2).trans (S2.fr s3)) ((x1.trans x2).trans (Ext.of_same s3)))⟩⟩
  · cases e
theorem cmp_bool : ∀ {p : CmpOp} {o : Op} {f : PyData → PyData → Option PyData}, cmpOp p = some o → evOp o = on2 f → ∀ u v d, f u v = some d → ∃ bb, d = .bool bb := by
  intro p o f h e u v d q
  have q' : evOp o [u, v] = some d := by rw [e]; exact q
  have fix : ∀ {g : PyData → PyData → Option PyData}, (∀ a b c, g a b = some c → ∃ bb, c = .bool bb) → evOp o = on2 g → ∃ bb, d = .bool bb := fun hg e' => by
    rw [e'] at q'; exact hg _ _ _ q'
  cases p <;> cases h
  · exact fix (g := eqD) (fun a b c z => by
      unfold eqD at z
      split at z
      · cases z; exact ⟨_, rfl⟩
      · cases q : eqS a b <;> rw [q] at z <;> cases z
        exact ⟨_, rfl⟩) rfl
  · exact fix (g := neD) (fun a b c z => by
      unfold neD at z
      split at z
      · cases z; exact ⟨_, rfl⟩
      · cases q : eqS a b <;> rw [q] at z <;> cases z
        exact ⟨_, rfl⟩) rfl
  · exact fix (g := ltD) (fun a b c z => by unfold ltD at z; split at z <;> cases z <;> exact ⟨_, rfl⟩) rfl
  · exact fix (g := leD) (fun a b c z => by unfold leD at z; split at z <;> cases z <;> exact ⟨_, rfl⟩) rfl
  · exact fix (g := fun a b => ltD b a) (fun a b c z => by simp only [ltD] at z; split at z <;> cases z <;> exact ⟨_, rfl⟩) rfl
  · exact fix (g := fun a b => leD b a) (fun a b c z => by simp only [leD] at z; split at z <;> cases z <;> exact ⟨_, rfl⟩) rfl
  · exact fix (g := fun a b => if isNone b then some (.bool (isNone a)) else none) (fun a b c z => by by_cases hh : isNone b = true <;> simp [hh] at z; exact ⟨_, z.symm⟩) rfl
  · exact fix (g := fun a b => if isNone b then some (.bool (!isNone a)) else none) (fun a b c z => by by_cases hh : isNone b = true <;> simp [hh] at z; exact ⟨_, z.symm⟩) rfl
  · exact fix (g := inD) (fun a b c z => by unfold inD at z; split at z <;> first | (split at z <;> cases z; exact ⟨_, rfl⟩) | cases z) rfl
  · refine fix (g := notinD) (fun a b c z => ?_) rfl
    unfold notinD at z
    cases w : inD a b with
    | none => rw [w] at z; cases z
    | some r => rw [w] at z; cases r <;> cases z; exact ⟨_, rfl⟩
theorem case_ch {p q : CmpOp} {o1 o2 : Op} (g : Good X Γ cal) (h1 : cmpOp p = some o1) (h2 : cmpOp q = some o2) (hm : lastMarks [p, q] [y, z] = false) (ha : PE X x (TDe X.K Γ.ty (evE cal a) .sh)) (hb : PE X y (TDe X.K Γ.ty (evE cal b) .sh)) (hc : PE X z (TDe X.K Γ.ty (evE cal c) .sh)) :
    PE X (.Compare x [p, q] [y, z] pos) (TDe X.K Γ.ty (evE cal (.ch o1 o2 a b c)) .sh) ∧ PT X (.Compare x [p, q] [y, z] pos) (TDt X.K Γ.ty (evE cal (.ch o1 o2 a b c))) := by
  obtain ⟨f1, e1, r1⟩ := cmp_ok g h1
  obtain ⟨f2, e2, r2⟩ := cmp_ok g h2
  have b2 := cmp_bool h2 e2
  refine ⟨peImp (pe_chain r1 r2 ha hb hc hm) fun σ H Q ⟨G, fx, env, As, bv, env', S, e, k⟩ => ?_, ptImp (pt_chain r1 r2 ha hb hc hm) fun σ H Q ⟨G, fx, env, As, bv, env', S, e, k⟩ => ?_⟩
  · exact case_chk e1 e2 b2 S e rfl rfl rfl fun bb H' As' eb S' f x => k _ H' As' [] S' ⟨by rw [eb]; exact .bl _, rfl⟩ (fun a h => by cases h) f x
  · exact case_chk (Q := fun x H' => ∃ k, x = .bl k ∧ Q k H') e1 e2 b2 S e rfl rfl rfl fun bb H' As' eb S' f x => ⟨bb, rfl, by cases eb; exact k H' As' S' f x⟩
end
end Dv
end
section
namespace Dv
open PySem PySem.Spec PyProof.Rows L2

theorem kit_all : ∀ a ∈ ["NoneType", "bool", "int", "str", "list", "tuple"], ∀ b ∈ isaNames, kitB a b = some (isaOne a b) := by decide +kernel
theorem blt_types : ∀ b ∈ isaNames, bootBuiltins (Str.ofString b) = some (.type b) ∧ (Str.ofString b) ≠ "__name__" ∧ ((Str.ofString b) == ("__debug__" : Str)) = false ∧ bltNames.contains (Str.ofString b) = true := by decide +kernel
theorem ty_of {K : PySem.W.Frag} {H : Hp} {v : V} {d : PyData} (h : Rt K H v d) (hd : ∀ kvs, d ≠ .dict kvs) : TyX K H v (.type (typeName d)) := by
  cases h with
  | sh h => cases h with
    | non => exact .base .non
    | bl b => exact .base (.bl b)
    | int i => exact .base (.int i)
    | str x => exact .base (.str x)
    | lst h a => obtain ⟨o, h⟩ := h; exact .base (.frz h)
    | tup h a =>
      rcases h with (h | ⟨o, h⟩) | ⟨o, its, n, h, c, _⟩
      · exact .base (.tup h)
      · exact .fTuple h
      · exact .kTuple h c
    | dK h a => exact absurd rfl (hd _)
    | dT h a _ => exact absurd rfl (hd _)
  | lst h a =>
    rcases h with h | ⟨o, h⟩
    · exact .base (.lst h)
    · exact .base (.frz h)
  | dK h a => exact absurd rfl (hd _)
  | pd => exact absurd rfl (hd _)
theorem typeName_in {d : PyData} (hd : ∀ kvs, d ≠ .dict kvs) : typeName d ∈ ["NoneType", "bool", "int", "str", "list", "tuple"] := by
  cases d <;> first | exact absurd rfl (hd _) | simp [typeName]
theorem isaD_inv {ts : List String} {d : PyData} {b : Bool} (h : isaD ts d = some b) : (∀ kvs, d ≠ .dict kvs) ∧ b = ts.any fun t => isaOne (typeName d) t := by
  unfold isaD at h
  split at h
  · cases h
  · rename_i hd
    cases h
    exact ⟨hd, rfl⟩
theorem kitAny_of {K : PySem.W.Frag} {a : String} (ha : a ∈ ["NoneType", "bool", "int", "str", "list", "tuple"]) : ∀ {ts : List String}, (∀ t ∈ ts, t ∈ isaNames) → PySem.W.kitAny K (.type a) (ts.map Value.type) = some (ts.any fun t => isaOne a t)
  | [], _ => kitAny_nil
  | t :: ts, h => by
    have ih := kitAny_of (K := K) ha (ts := ts) fun t q => h t (List.mem_cons_of_mem _ q)
    have k := kit_ty (K := K) (kit_all a ha t (h t List.mem_cons_self))
    rw [List.map_cons, List.any_cons]
    refine kitAny_cons k (fun e => ?_) fun e => ?_
    · rw [e, Bool.false_or]; exact ih
    · rw [e, Bool.true_or]
section
variable {X : Cx} {Γ : Gam} {cal : Nat → List PyData → CRes} {e x y z : Expr} {κ : Ty} {ir a b c : E} {pos p2 p : Pos}
theorem isa_inv {ts : List String} {env env' : Env} {d : PyData} (h : evE cal (.isa a ts) env = .ok d env') : ∃ x b, evOs cal [a] env = .ok [x] env' ∧ isaD ts x = some b ∧ d = .bool b := by
  cases hb : bOf a with
  | some i =>
    have := bOf_some hb
    subst this
    simp only [evE] at h
    split at h
    · cases h
    · rename_i x hx
      split at h
      · rename_i b hi
        cases h
        refine ⟨x, b, ?_, hi, rfl⟩
        simp only [evOs, hx]
        simp [Res.bind, hx]
      · cases h
  | none =>
    have hn := bOf_none hb
    have q : evE cal (.isa a ts) env = (evE cal a env).bind fun d env => match isaD ts d with | some b => .ok (.bool b) env | none => .bad := by
      cases a <;> first | rfl | exact absurd rfl (hn _)
    rw [q] at h
    obtain ⟨x, env1, e1, e2⟩ := bind_ok h
    split at e2
    · rename_i b hi
      cases e2
      refine ⟨x, b, ?_, hi, rfl⟩
      rw [evOs_ne hn, e1]
      rfl
    · cases e2
theorem nm_ty (g : Good X Γ cal) {t : String} (ht : t ∈ isaNames) (hg : glB Γ (Str.ofString t) = true) : PE X (.Name (Str.ofString t) pos) (tC (.ty t)) := by
  obtain ⟨h1, h2, h3, h4⟩ := blt_types t ht
  exact pe_bltn (gl_ok g hg).1 (g.blt _ (by simpa using h4)) h1 rfl h2 h3
theorem case_isa1 {f : Str} {ts : List String} {t : Str} (g : Good X Γ cal) (hf : f = "isinstance") (hg : glB Γ f = true) (hnx : notStar x = true) (hx : PE X x (tO X.K Γ.ty cal a)) (ht : glB Γ t = true) (he : ts.map Str.ofString = [t]) (hi : ∀ t ∈ ts, t ∈ isaNames) :
    PE X (.Call (.Name f p) [x, .Name t p2] [] pos) (TDe X.K Γ.ty (evE cal (.isa a ts)) .sh) := by
  obtain ⟨h1, h2, h3⟩ := gl_ok g hg
  cases ts with
  | nil => cases he
  | cons s ss =>
    cases ss with
    | cons _ _ => simp at he
    | nil =>
      have e1 : Str.ofString s = t := by simpa using he
      subst e1 hf
      have hs := hi s List.mem_cons_self
      refine peImp (pe_callB call_isi h1 (g.blt _ (by decide +kernel)) (by decide +kernel) (pa_cons hx (pa_cons (nm_ty g hs ht) pa_nil rfl) (star_ns hnx)) h3 h2 (star_ns hnx) rfl) fun σ H Q ⟨G, fx, env, As, d, env', S, e, k⟩ => ?_
      obtain ⟨dx, b, e1, e2, rfl⟩ := isa_inv e
      refine tOs_of [a] σ H (fun vs H2 => match vs with | [v] => rIsi X.K [v, .ty s] H2 Q | _ => False) ⟨G, fx, env, As, _, env', S, e1, fun vs H' As' S' oa f1 x1 => ?_⟩
      obtain ⟨v, rfl, hv⟩ := (oa.rtA S').one_inv
      obtain ⟨nd, rfl⟩ := isaD_inv e2
      refine ⟨v, .ty s, _, _, _, rfl, .ty s, ty_of hv nd, kit_ty (kit_all _ (typeName_in nd) s hs), ?_⟩
      have : (isaOne (typeName dx) s) = ([s].any fun t => isaOne (typeName dx) t) := by simp
      rw [this]
      exact k _ H' As' [] S' ⟨.bl _, rfl⟩ (fun a h => by cases h) f1 x1
theorem names_pa (g : Good X Γ cal) : ∀ {es : List Expr} {ts : List String}, es.all (fun e => match e with | .Name x _ => glB Γ x | _ => false) = true → es.filterMap (fun e => match e with | .Name x _ => some x | _ => none) = ts.map Str.ofString →
    (∀ t ∈ ts, t ∈ isaNames) → PA X es (fun σ H Q => Q (ts.map V.ty) H)
  | [], ts, _, h, _ => by
    cases ts with
    | nil => exact pa_nil
    | cons _ _ => simp at h
  | e :: es, ts, h1, h2, h3 => by
    rw [List.all_cons, Bool.and_eq_true] at h1
    obtain ⟨q1, q2⟩ := h1
    split at q1
    · rename_i x p
      rw [List.filterMap_cons] at h2
      simp only at h2
      cases ts with
      | nil => simp at h2
      | cons t ts =>
        rw [List.map_cons] at h2
        injection h2 with h4 h5
        subst h4
        exact pa_cons (nm_ty g (h3 t List.mem_cons_self) q1) (names_pa g q2 h5 fun t q => h3 t (List.mem_cons_of_mem _ q)) rfl
    · cases q1
theorem paired_ty : ∀ ts : List String, Paired ClsV (ts.map V.ty) (ts.map Value.type)
  | [] => .nil
  | t :: ts => .cons (.ty t) (paired_ty ts)
theorem case_isaT {f : Str} {ts : List String} {es : List Expr} {n : Nat} (g : Good X Γ cal) (hf : f = "isinstance") (hg : glB Γ f = true) (hnx : notStar x = true) (hx : PE X x (tO X.K Γ.ty cal a))
    (ht : es.all (fun e => match e with | .Name x _ => glB Γ x | _ => false) = true) (he : es.filterMap (fun e => match e with | .Name x _ => some x | _ => none) = ts.map Str.ofString) (hi : ∀ t ∈ ts, t ∈ isaNames) (hz : ts.length ≤ sizeLine) :
    PE X (.Call (.Name f p) [x, .Tuple es n p2] [] pos) (TDe X.K Γ.ty (evE cal (.isa a ts)) .sh) := by
  obtain ⟨h1, h2, h3⟩ := gl_ok g hg
  subst hf
  refine peImp (pe_callB call_isiT h1 (g.blt _ (by decide +kernel)) (by decide +kernel) (pa_cons hx (pa_cons (pe_tup (names_pa g ht he hi)) pa_nil rfl) (star_ns hnx)) h3 h2 (star_ns hnx) rfl) fun σ H Q ⟨G, fx, env, As, d, env', S, e, k⟩ => ?_
  obtain ⟨dx, b, e1, e2, rfl⟩ := isa_inv e
  refine tOs_of [a] σ H (fun vs H2 => match vs with | [v] => (ts.map V.ty).length ≤ sizeLine ∧ ∀ q, H2 q = none → rIsiT X.K [v, .ref q] (upd H2 q (.tup (ts.map V.ty))) Q | _ => False) ⟨G, fx, env, As, _, env', S, e1, fun vs H' As' S' oa f1 x1 => ?_⟩
  obtain ⟨v, rfl, hv⟩ := (oa.rtA S').one_inv
  obtain ⟨nd, rfl⟩ := isaD_inv e2
  refine ⟨by rw [List.length_map]; exact hz, fun q hq => ?_⟩
  have s := same_upd (o := .tup (ts.map V.ty)) hq
  have S2 := S'.same s
  have hv2 : Rt X.K (upd H' q (.tup (ts.map V.ty))) v dx := by
    cases hv with
    | sh h => exact .sh (h.same s)
    | lst h a => exact .lst (by rcases h with h | ⟨o, h⟩; exact .inl (s _ _ h); exact .inr ⟨o, s _ _ h⟩) (a.same s)
    | dK h a => exact absurd rfl (nd _)
    | pd => exact absurd rfl (nd _)
  exact ⟨v, q, _, _, _, _, rfl, upd_same, paired_ty ts, ty_of hv2 nd, kitAny_of (typeName_in nd) hi, k _ _ As' [] S2 ⟨.bl _, rfl⟩ (fun a h => by cases h) (f1.trans (S'.fr s)) (x1.trans (Ext.of_same s))⟩
end
end Dv
end
section
namespace Dv
open PySem PySem.Spec PyProof.Rows L2

/-! ### arguments -/
def jx : List E → List Ty → Nat → Option Nat
  | .b k :: as, τ :: ts, i => if k = i ∧ isOwn τ = true then some 0 else (jx as ts i).map (· + 1)
  | _ :: as, _ :: ts, i => (jx as ts i).map (· + 1)
  | _, _, _ => none
theorem jx_cons {a : E} {as : List E} {τ : Ty} {ts : List Ty} {i : Nat} : jx (a :: as) (τ :: ts) i = if bOf a = some i ∧ isOwn τ = true then some 0 else (jx as ts i).map (· + 1) := by
  cases hb : bOf a with
  | some k =>
    have := bOf_some hb
    subst this
    simp only [jx, Option.some.injEq]
  | none =>
    have hn := bOf_none hb
    have : jx (a :: as) (τ :: ts) i = (jx as ts i).map (· + 1) := by cases a <;> first | rfl | exact absurd rfl (hn _)
    rw [this, if_neg (by simp)]
theorem jx_some : ∀ {as : List E} {ts : List Ty} {i j : Nat}, jx as ts i = some j → ∃ τ, as[j]? = some (.b i) ∧ ts[j]? = some τ ∧ isOwn τ = true
  | [], ts, i, j, h => by cases ts <;> cases h
  | a :: as, [], i, j, h => by cases a <;> cases h
  | a :: as, τ :: ts, i, j, h => by
    rw [jx_cons] at h
    split at h
    · rename_i q
      cases h
      exact ⟨τ, by rw [bOf_some q.1]; rfl, rfl, q.2⟩
    · cases e : jx as ts i with
      | none => rw [e] at h; cases h
      | some k =>
        rw [e] at h
        cases h
        obtain ⟨τ', h1, h2, h3⟩ := jx_some e
        exact ⟨τ', by simpa using h1, by simpa using h2, h3⟩
theorem nodupB_tail {i : Nat} {is : List Nat} (h : nodupB (i :: is) = true) : i ∉ is ∧ nodupB is = true := by
  simp only [nodupB, Bool.and_eq_true, Bool.not_eq_true', List.contains_eq_mem, decide_eq_false_iff_not] at h
  exact h
theorem mem_bOf {as : List E} {j i : Nat} (h : as[j]? = some (.b i)) : i ∈ as.filterMap bOf := List.mem_filterMap.mpr ⟨_, List.mem_of_getElem? h, rfl⟩
theorem bs_inj : ∀ {as : List E} {j k i : Nat}, nodupB (as.filterMap bOf) = true → as[j]? = some (.b i) → as[k]? = some (.b i) → j = k
  | [], _, _, _, _, h, _ => by simp at h
  | a :: as, 0, 0, _, _, _, _ => rfl
  | a :: as, 0, k + 1, i, hn, h, h' => by
    simp at h; subst h
    rw [List.filterMap_cons] at hn
    exact absurd (mem_bOf (by simpa using h')) (nodupB_tail hn).1
  | a :: as, j + 1, 0, i, hn, h, h' => by
    simp at h'; subst h'
    rw [List.filterMap_cons] at hn
    exact absurd (mem_bOf (by simpa using h)) (nodupB_tail hn).1
  | a :: as, j + 1, k + 1, i, hn, h, h' => by
    have hn' : nodupB (as.filterMap bOf) = true := by
      rw [List.filterMap_cons] at hn
      split at hn
      · exact hn
      · exact (nodupB_tail hn).2
    rw [bs_inj (j := j) (k := k) hn' (by simpa using h) (by simpa using h')]
theorem jx_of : ∀ {as : List E} {ts : List Ty} {i j : Nat} {τ : Ty}, nodupB (as.filterMap bOf) = true → as[j]? = some (.b i) → ts[j]? = some τ → isOwn τ = true → jx as ts i = some j
  | [], _, _, _, _, _, h, _, _ => by simp at h
  | a :: as, [], _, _, _, _, _, h, _ => by simp at h
  | a :: as, t :: ts, i, 0, τ, hn, h, h2, h3 => by
    simp at h h2; subst h h2
    rw [jx_cons, if_pos ⟨rfl, h3⟩]
  | a :: as, t :: ts, i, j + 1, τ, hn, h, h2, h3 => by
    rw [List.filterMap_cons] at hn
    have n1 : ¬ (bOf a = some i ∧ isOwn t = true) := fun q => by
      rw [q.1] at hn
      exact (nodupB_tail hn).1 (mem_bOf (by simpa using h))
    have n2 : nodupB (as.filterMap bOf) = true := by
      split at hn
      · exact hn
      · exact (nodupB_tail hn).2
    rw [jx_cons, if_neg n1, jx_of (j := j) (τ := τ) n2 (by simpa using h) (by simpa using h2) h3]
    rfl
theorem wback_len : ∀ {as : List E} {outs env : Env}, (wback as outs env).length = env.length
  | [], _, _ => by simp [wback]
  | a :: as, [], _ => by cases a <;> simp [wback]
  | a :: as, o :: outs, env => by
    cases hb : bOf a with
    | some k =>
      have := bOf_some hb; subst this
      cases o with
      | some d => simp only [wback]; rw [wback_len, List.length_set]
      | none => simp only [wback]; exact wback_len
    | none =>
      have hn := bOf_none hb
      have : wback (a :: as) (o :: outs) env = wback as outs env := by cases a <;> first | (cases o <;> rfl) | exact absurd rfl (hn _)
      rw [this]; exact wback_len
theorem wback_get : ∀ {as : List E} {ts : List Ty} {outs env : Env} {i : Nat}, nodupB (as.filterMap bOf) = true → outsOk ts outs = true → as.length = ts.length → i < env.length →
    (wback as outs env)[i]? = match jx as ts i with | some j => some ((outs[j]?).join) | none => env[i]?
  | [], ts, outs, env, i, _, _, hl, hi => by
    cases ts with
    | nil => simp [wback, jx]
    | cons _ _ => simp at hl
  | a :: as, [], outs, env, i, _, _, hl, _ => by simp at hl
  | a :: as, t :: ts, [], env, i, _, ho, _, _ => by simp [outsOk] at ho
  | a :: as, t :: ts, o :: outs, env, i, hn, ho, hl, hi => by
    simp only [outsOk, Bool.and_eq_true, beq_iff_eq] at ho
    have hl' : as.length = ts.length := by simpa using hl
    rw [jx_cons]
    rw [List.filterMap_cons] at hn
    cases hb : bOf a with
    | some k =>
      rw [hb] at hn
      obtain ⟨n1, n2⟩ := nodupB_tail hn
      have := bOf_some hb; subst this
      cases o with
      | some d =>
        have ow : isOwn t = true := by simpa using ho.1
        simp only [wback]
        rw [wback_get (ts := ts) n2 ho.2 hl' (by rw [List.length_set]; exact hi)]
        by_cases hk : k = i
        · subst hk
          have : jx as ts k = none := by
            cases e : jx as ts k with
            | none => rfl
            | some j =>
              obtain ⟨_, q, _⟩ := jx_some e
              exact absurd (mem_bOf q) n1
          rw [this, if_pos ⟨rfl, ow⟩]
          simp [List.getElem?_set_self hi]
        · rw [if_neg (by simp [hk])]
          cases e : jx as ts i with
          | none => simp [List.getElem?_set_ne hk]
          | some j => simp
      | none =>
        have ow : isOwn t = false := by simpa using ho.1
        simp only [wback]
        rw [wback_get (ts := ts) n2 ho.2 hl' hi, if_neg (by simp [ow])]
        cases jx as ts i <;> simp
    | none =>
      rw [hb] at hn
      have hnn := bOf_none hb
      have : wback (a :: as) (o :: outs) env = wback as outs env := by cases a <;> first | (cases o <;> rfl) | exact absurd rfl (hnn _)
      rw [this, wback_get (ts := ts) hn ho.2 hl' hi, if_neg (by simp)]
      cases jx as ts i <;> simp
theorem outsOk_get : ∀ {ts : List Ty} {outs : Env} {j : Nat} {τ : Ty}, outsOk ts outs = true → ts[j]? = some τ → ∃ o, outs[j]? = some o ∧ isOwn τ = o.isSome
  | [], _, _, _, _, h => by simp at h
  | t :: ts, [], _, _, h, _ => by simp [outsOk] at h
  | t :: ts, o :: os, 0, τ, h, h2 => by
    simp only [outsOk, Bool.and_eq_true, beq_iff_eq] at h
    simp at h2; subst h2
    exact ⟨o, rfl, h.1⟩
  | t :: ts, o :: os, j + 1, τ, h, h2 => by
    simp only [outsOk, Bool.and_eq_true] at h
    obtain ⟨o', q1, q2⟩ := outsOk_get (j := j) h.2 (by simpa using h2)
    exact ⟨o', by simpa using q1, q2⟩
theorem tyOks_get : ∀ {ts : List Ty} {ds : List PyData} {j : Nat} {τ : Ty} {d : PyData}, tyOks ts ds = true → ts[j]? = some τ → ds[j]? = some d → tyOk τ d = true
  | [], _, _, _, _, _, h, _ => by simp at h
  | t :: ts, [], _, _, _, h, _, _ => by simp [tyOks] at h
  | t :: ts, o :: os, 0, τ, d, h, h2, h3 => by
    simp only [tyOks, Bool.and_eq_true] at h
    simp at h2 h3; subst h2 h3
    exact h.1
  | t :: ts, o :: os, j + 1, τ, d, h, h2, h3 => by
    simp only [tyOks, Bool.and_eq_true] at h
    exact tyOks_get (j := j) h.2 (by simpa using h2) (by simpa using h3)
theorem tyOks_len : ∀ {ts : List Ty} {ds : List PyData}, tyOks ts ds = true → ds.length = ts.length
  | [], [], _ => rfl
  | [], _ :: _, h => by simp [tyOks] at h
  | _ :: _, [], h => by simp [tyOks] at h
  | t :: ts, d :: ds, h => by
    simp only [tyOks, Bool.and_eq_true] at h
    simp [tyOks_len h.2]
theorem OA.len {K : PySem.W.Frag} {H : Hp} {σ : L2.St} {env : Env} : ∀ {as : List E} {vs : List V} {ds : List PyData}, OA K H σ env as vs ds → vs.length = as.length ∧ ds.length = as.length
  | _, _, _, .nil => ⟨rfl, rfl⟩
  | _, _, _, .b _ _ t => by have := OA.len t; simp [this.1, this.2]
  | _, _, _, .e _ _ t => by have := OA.len t; simp [this.1, this.2]
theorem OA.get {K : PySem.W.Frag} {H : Hp} {σ : L2.St} {env : Env} : ∀ {as : List E} {vs : List V} {ds : List PyData} {j : Nat} {a : E} {v : V} {d : PyData}, OA K H σ env as vs ds → as[j]? = some a → vs[j]? = some v → ds[j]? = some d →
    (∃ i, a = .b i ∧ σ[i]? = some (some v) ∧ fetch env i = some d) ∨ ((∀ i, a ≠ .b i) ∧ Sh K H v d)
  | _, _, _, _, _, _, _, .nil, h, _, _ => by simp at h
  | _, _, _, 0, _, _, _, .b h1 h2 t, h, h', h'' => by simp at h h' h''; subst h h' h''; exact .inl ⟨_, rfl, h1, h2⟩
  | _, _, _, 0, _, _, _, .e h1 h2 t, h, h', h'' => by simp at h h' h''; subst h h' h''; exact .inr ⟨h1, h2⟩
  | _, _, _, j + 1, _, _, _, .b h1 h2 t, h, h', h'' => OA.get (j := j) t (by simpa using h) (by simpa using h') (by simpa using h'')
  | _, _, _, j + 1, _, _, _, .e h1 h2 t, h, h', h'' => OA.get (j := j) t (by simpa using h) (by simpa using h') (by simpa using h'')
end Dv
end
section
namespace Dv
open PySem PySem.Spec PyProof.Rows L2

theorem Rep.lst_iff {K : PySem.W.Frag} {G : Addr → Prop} {H : Hp} {m : Md} (hm : m ≠ .bor) {v : V} {d : PyData} {A : List Addr} : Rep K G H (.lst m) v d A ↔ ∃ a vs ds, v = .ref a ∧ d = .list ds ∧ H a = some (.lst vs) ∧ ShA K H vs ds ∧ A = [a] := by
  cases m <;> first | exact Iff.rfl | exact absurd rfl hm
theorem Rep.dic_iff {K : PySem.W.Frag} {G : Addr → Prop} {H : Hp} {m : Md} (hm : m ≠ .bor) {v : V} {d : PyData} {A : List Addr} : Rep K G H (.dic m) v d A ↔ ∃ a vs ds, v = .ref a ∧ d = .dict ds ∧ H a = some (.dK vs) ∧ ShK K H vs ds ∧ A = [a] := by
  cases m <;> first | exact Iff.rfl | exact absurd rfl hm
theorem own_md {m : Md} (h : (!decide (m = Md.bor)) = true) : m ≠ .bor := by simpa using h
/-- another guard, another mode: what is owned is owned -/
theorem Rep.reg {K : PySem.W.Frag} {G G' : Addr → Prop} {H : Hp} {τ τ' : Ty} {v : V} {d : PyData} {A : List Addr} (h : Rep K G H τ v d A) (ho : isOwn τ = true) (hc : (∃ m m', τ = .lst m ∧ τ' = .lst m' ∧ isOwn τ' = true) ∨ ∃ m m', τ = .dic m ∧ τ' = .dic m' ∧ isOwn τ' = true) : Rep K G' H τ' v d A := by
  rcases hc with ⟨m, m', rfl, rfl, h2⟩ | ⟨m, m', rfl, rfl, h2⟩
  · exact (Rep.lst_iff (own_md h2)).mpr ((Rep.lst_iff (own_md ho)).mp h)
  · exact (Rep.dic_iff (own_md h2)).mpr ((Rep.dic_iff (own_md ho)).mp h)
section
variable {K : PySem.W.Frag} {ty : List Ty} {G : Addr → Prop} {fx : Nat → Option V} {H1 : Hp} {σ : L2.St} {env1 : Env} {As1 : Fp} {as : List E} {vs : List V} {ds : List PyData} {sg : Fsig} {c : List PyData → CRes} {d : PyData} {outs : Env} {Q : VK} {E : XK}
theorem call_sp (S1 : SR K ty G fx H1 σ env1 As1) (oa : OA K H1 σ env1 as vs ds) (hl : as.length = sg.tys.length) (ha : ∀ (j : Nat) a τ, as[j]? = some a → sg.tys[j]? = some τ → argB a τ ty = true) (hn : nodupB (as.filterMap bOf) = true)
    (hc : c ds = .ok d outs) (ht : tyOks sg.tys ds = true) (ho : outsOk sg.tys outs = true)
    (k : ∀ v H' As' A, SR K ty G fx H' σ (wback as outs env1) As' → Rep K G H' sg.ret v d A → (∀ a ∈ A, ¬ G a ∧ H' a ≠ none ∧ ∀ i, a ∉ As' i) → Fr G H1 H' → Ext H1 H' → Q v H') (hr : sg.ret ≠ .lst .bor ∧ sg.ret ≠ .dic .bor) : spD K sg c vs H1 Q E := by
  obtain ⟨lv, ld⟩ := oa.len
  -- what the callee leaves as it is
  let Gc : Addr → Prop := fun a => H1 a ≠ none ∧ ∀ i j, jx as sg.tys i = some j → a ∉ As1 i
  let Ac : Fp := fun j => match as[j]?, sg.tys[j]? with
    | some (.b i), some τ => if isOwn τ = true then As1 i else []
    | _, _ => []
  have acMem : ∀ j a, a ∈ Ac j → ∃ i τ, as[j]? = some (.b i) ∧ sg.tys[j]? = some τ ∧ isOwn τ = true ∧ a ∈ As1 i := by
    intro j a h
    simp only [Ac] at h
    split at h
    · rename_i i τ h1 h2
      split at h
      · rename_i h3
        exact ⟨i, τ, h1, h2, h3, h⟩
      · cases h
    · cases h
  have acOf : ∀ {i j : Nat} {τ : Ty}, as[j]? = some (.b i) → sg.tys[j]? = some τ → isOwn τ = true → Ac j = As1 i := by
    intro i j τ h1 h2 h3
    simp only [Ac, h1, h2, if_pos h3]
  have acNo : ∀ {j : Nat} {τ : Ty}, sg.tys[j]? = some τ → isOwn τ = false → Ac j = [] := by
    intro j τ h2 h3
    simp only [Ac, h2]
    cases as[j]? with
    | none => rfl
    | some e => cases e <;> simp [h3]
  have acNb : ∀ {j : Nat} {a : Dv.E}, as[j]? = some a → (∀ i, a ≠ .b i) → Ac j = [] := by
    intro j a h1 h2
    simp only [Ac, h1]
    cases a <;> first | rfl | exact absurd rfl (h2 _)
  have gG : ∀ a, G a → Gc a := fun a g => ⟨S1.gk a g, fun i j _ hm => (S1.off i a hm).1 g⟩
  refine ⟨Gc, ds, Ac, d, outs, ⟨by omega, tyOks_len ht, fun j τ v dd h1 h2 h3 => ?_, fun j l a h1 h2 => ?_, fun j a h => ?_, fun a h => h.1⟩, hc, fun v H' As' A r po px dj off offA fr x => ?_⟩
  · -- the parameters
    obtain ⟨a, hja⟩ : ∃ a, as[j]? = some a := by
      cases e : as[j]? with
      | some a => exact ⟨a, rfl⟩
      | none =>
        have := List.getElem?_eq_none_iff.mp e
        have h4 := (List.getElem?_eq_some_iff.mp h1).1
        omega
    have hab := ha j a τ hja h1
    have hok := tyOks_get ht h1 h3
    rcases oa.get hja h2 h3 with ⟨i, rfl, hσ, hf⟩ | ⟨hnb, hsh⟩
    · obtain ⟨τ', v', t1, t2, rp⟩ := S1.get hf
      rw [hσ] at t2; cases t2
      simp only [argB, t1] at hab
      split at hab
      · rename_i m e; cases e
        rw [acOf hja h1 rfl]
        exact rp.reg hab (.inl ⟨_, _, rfl, rfl, rfl⟩)
      · rename_i m e; cases e
        rw [acNo h1 rfl]
        by_cases hm : m = .bor
        · subst hm
          obtain ⟨a, ws, es, e1, e2, h, s, e3⟩ := rp
          exact ⟨a, ws, es, e1, e2, h.imp (fun q => ⟨gG a q.1, q.2⟩) id, s, rfl⟩
        · obtain ⟨a, ws, es, e1, e2, h, s, e3⟩ := (Rep.lst_iff hm).mp rp
          refine ⟨a, ws, es, e1, e2, .inl ⟨⟨by rw [h]; simp, fun i' j' hj' hm' => ?_⟩, h⟩, s, rfl⟩
          have ei : i = i' := S1.dj i i' a (by rw [e3]; exact List.mem_singleton_self _) hm'
          subst ei
          obtain ⟨τ2, q1, q2, q3⟩ := jx_some hj'
          have := bs_inj hn hja q1
          subst this
          rw [h1] at q2; cases q2
          cases q3
      · rename_i m e; cases e
        rw [acOf hja h1 rfl]
        exact rp.reg hab (.inr ⟨_, _, rfl, rfl, rfl⟩)
      · rename_i m e; cases e
        rw [acNo h1 rfl]
        by_cases hm : m = .bor
        · subst hm
          obtain ⟨a, ws, es, e1, e2, h, s, e3⟩ := rp
          exact ⟨a, ws, es, e1, e2, h.imp (fun q => ⟨gG a q.1, q.2⟩) id, s, rfl⟩
        · obtain ⟨a, ws, es, e1, e2, h, s, e3⟩ := (Rep.dic_iff hm).mp rp
          refine ⟨a, ws, es, e1, e2, .inl ⟨⟨by rw [h]; simp, fun i' j' hj' hm' => ?_⟩, h⟩, s, rfl⟩
          have ei : i = i' := S1.dj i i' a (by rw [e3]; exact List.mem_singleton_self _) hm'
          subst ei
          obtain ⟨τ2, q1, q2, q3⟩ := jx_some hj'
          have := bs_inj hn hja q1
          subst this
          rw [h1] at q2; cases q2
          cases q3
      · cases hab
    · rw [acNb hja hnb]
      rw [argB_n hnb] at hab
      unfold argN at hab
      split at hab
      · exact ⟨hsh, rfl⟩
      · cases hsh <;> simp [tyOk] at hok
        rename_i a ws es q s
        exact ⟨a, ws, es, rfl, rfl, .inr q, s, rfl⟩
      · cases hab
  · obtain ⟨i, τ, p1, p2, p3, p4⟩ := acMem j a h1
    obtain ⟨i', τ', q1, q2, q3, q4⟩ := acMem l a h2
    have := S1.dj i i' a p4 q4
    subst this
    exact bs_inj hn p1 q1
  · obtain ⟨i, τ, p1, p2, p3, p4⟩ := acMem j a h
    exact ⟨fun g => g.2 i j (jx_of hn p1 p2 p3) p4, (S1.off i a p4).2⟩
  · -- behind the call
    let A2 : Fp := fun i => match jx as sg.tys i with | some j => As' j | none => As1 i
    have a2some : ∀ {i j : Nat}, jx as sg.tys i = some j → A2 i = As' j := fun {i j} h => by simp only [A2, h]
    have a2none : ∀ {i : Nat}, jx as sg.tys i = none → A2 i = As1 i := fun {i} h => by simp only [A2, h]
    have keep : ∀ {i : Nat} {a : Addr}, jx as sg.tys i = none → a ∈ As1 i → Gc a := fun {i a} h hm => ⟨(S1.off i a hm).2, fun i' j' hj' hm' => by
      have := S1.dj i i' a hm hm'
      subst this
      rw [h] at hj'; cases hj'⟩
    have frG : Fr G H1 H' := fun a g => fr a (gG a g)
    have wl : (wback as outs env1).length = env1.length := wback_len
    have wg : ∀ i, i < env1.length → (wback as outs env1)[i]? = match jx as sg.tys i with | some j => some ((outs[j]?).join) | none => env1[i]? := fun i hi => wback_get hn ho hl hi
    refine k v H' A2 A ⟨S1.ls, by rw [wl]; exact S1.le, fun i τ e h1 h2 => ?_, fun i w h => ?_, S1.fxo, fun i l a h1 h2 => ?_, fun i a h => ?_, fun a g => ?_, fun i τ h1 h2 => ?_⟩ ?_ (fun a h => ?_) frG x
    · have hi : i < env1.length := by rw [S1.le]; exact (List.getElem?_eq_some_iff.mp h1).1
      rw [wg i hi] at h2
      cases ej : jx as sg.tys i with
      | none =>
        rw [ej] at h2
        obtain ⟨w, q1, q2⟩ := S1.sl i τ e h1 h2
        refine ⟨w, q1, ?_⟩
        rw [a2none ej]
        exact q2.stay x frG fun a hm => fr a (keep ej hm)
      | some j =>
        rw [ej] at h2
        obtain ⟨τ', q1, q2, q3⟩ := jx_some ej
        obtain ⟨w, hw⟩ : ∃ w, vs[j]? = some w := by
          cases e : vs[j]? with
          | some w => exact ⟨w, rfl⟩
          | none =>
            have := List.getElem?_eq_none_iff.mp e
            have := (List.getElem?_eq_some_iff.mp q1).1
            omega
        obtain ⟨dj', hdj⟩ : ∃ w, ds[j]? = some w := by
          cases e : ds[j]? with
          | some w => exact ⟨w, rfl⟩
          | none =>
            have := List.getElem?_eq_none_iff.mp e
            have := (List.getElem?_eq_some_iff.mp q1).1
            omega
        have hout : outs[j]? = some (some e) := by
          obtain ⟨oo, z1, z2⟩ := outsOk_get ho q2
          have h2' : some ((outs[j]?).join) = some (some e) := h2
          rw [z1] at h2' ⊢
          simpa using h2'
        have rp := po j τ' w e q2 q3 hw hout
        rcases oa.get q1 hw hdj with ⟨i', e', hσ, hf⟩ | ⟨hnb, _⟩
        · cases e'
          refine ⟨w, hσ, ?_⟩
          rw [a2some ej]
          have hab := ha j _ τ' q1 q2
          simp only [argB, h1] at hab
          split at hab
          · rename_i m e; cases e; exact rp.reg rfl (.inl ⟨_, _, rfl, rfl, hab⟩)
          · cases q3
          · rename_i m e; cases e; exact rp.reg rfl (.inr ⟨_, _, rfl, rfl, hab⟩)
          · cases q3
          · cases hab
        · exact absurd rfl (hnb _)
    · obtain ⟨q1, e, q2⟩ := S1.fix i w h
      refine ⟨q1, ?_⟩
      have hi : i < env1.length := (List.getElem?_eq_some_iff.mp q2).1
      rw [wg i hi]
      cases ej : jx as sg.tys i with
      | none => exact ⟨e, q2⟩
      | some j =>
        obtain ⟨τ', z1, z2, z3⟩ := jx_some ej
        obtain ⟨e', z4⟩ := px j τ' z2 z3
        exact ⟨e', by simp [z4]⟩
    · cases ei : jx as sg.tys i with
      | none =>
        rw [a2none ei] at h1
        cases el : jx as sg.tys l with
        | none => rw [a2none el] at h2; exact S1.dj i l a h1 h2
        | some j => rw [a2some el] at h2; exact absurd (keep ei h1) (off j a h2).1
      | some j =>
        rw [a2some ei] at h1
        cases el : jx as sg.tys l with
        | none => rw [a2none el] at h2; exact absurd (keep el h2) (off j a h1).1
        | some j' =>
          rw [a2some el] at h2
          have := dj j j' a h1 h2
          subst this
          obtain ⟨_, z1, _⟩ := jx_some ei
          obtain ⟨_, z2, _⟩ := jx_some el
          rw [z1] at z2
          cases z2
          rfl
    · cases ei : jx as sg.tys i with
      | none => rw [a2none ei] at h; exact ⟨(S1.off i a h).1, by rw [fr a (keep ei h)]; exact (S1.off i a h).2⟩
      | some j => rw [a2some ei] at h; exact ⟨fun g => (off j a h).1 (gG a g), (off j a h).2⟩
    · rw [frG a g]; exact S1.gk a g
    · obtain ⟨e, q2⟩ := S1.al i τ h1 h2
      have hi : i < env1.length := (List.getElem?_eq_some_iff.mp q2).1
      rw [wg i hi]
      cases ej : jx as sg.tys i with
      | none => exact ⟨e, q2⟩
      | some j =>
        obtain ⟨τ', z1, z2, z3⟩ := jx_some ej
        obtain ⟨e', z4⟩ := px j τ' z2 z3
        exact ⟨e', by simp [z4]⟩
    · cases hret : sg.ret with
      | sh => rw [hret] at r; exact r
      | pd => rw [hret] at r; exact r
      | lst m =>
        rw [hret] at r hr
        have hm : m ≠ .bor := fun z => hr.1 (by rw [z])
        exact (Rep.lst_iff hm).mpr ((Rep.lst_iff hm).mp r)
      | dic m =>
        rw [hret] at r hr
        have hm : m ≠ .bor := fun z => hr.2 (by rw [z])
        exact (Rep.dic_iff hm).mpr ((Rep.dic_iff hm).mp r)
    · obtain ⟨z1, z2, z3⟩ := offA a h
      refine ⟨fun g => z1 (gG a g), z2, fun i hm => ?_⟩
      cases ei : jx as sg.tys i with
      | none => rw [a2none ei] at hm; exact z1 (keep ei hm)
      | some j => rw [a2some ei] at hm; exact z3 j hm
end
end Dv
end
section
namespace Dv
open PySem PySem.Spec PyProof.Rows L2

section
variable {K : PySem.W.Frag} {ty : List Ty} {G : Addr → Prop} {fx : Nat → Option V} {H H' : Hp} {σ : L2.St} {env : Env} {As : Fp}
theorem upd_lst_ext {p : Addr} {vs ws : List V} (h : H p = some (.lst vs)) : Ext H (upd H p (.lst ws)) :=
  ⟨fun b xs q => by rw [upd_ne (fun e => by subst e; rw [h] at q; cases q)]; exact q, fun b o' u q => by rw [upd_ne (fun e => by subst e; rw [h] at q; cases q)]; exact q⟩
/-- a list of a slot is written -/
theorem SR.wr (S : SR K ty G fx H σ env As) {i : Nat} {m : Md} {d : PyData} (hi : ty[i]? = some (.lst m)) (hm : m ≠ .bor) (hf : fetch env i = some d) :
    ∃ a ws ds, σ[i]? = some (some (.ref a)) ∧ d = .list ds ∧ H a = some (.lst ws) ∧ ShA K H ws ds ∧ As i = [a] ∧ ∀ ws' ds', ShA K H ws' ds' →
      SR K ty G fx (upd H a (.lst ws')) σ (env.set i (some (.list ds'))) As ∧ Fr G H (upd H a (.lst ws')) ∧ Ext H (upd H a (.lst ws')) := by
  obtain ⟨τ, v, t1, t2, r⟩ := S.get hf
  rw [hi] at t1; cases t1
  obtain ⟨a, ws, ds, rfl, rfl, h, s, e3⟩ := (Rep.lst_iff hm).mp r
  refine ⟨a, ws, ds, t2, rfl, h, s, e3, fun ws' ds' s' => ?_⟩
  have hin : a ∈ As i := by rw [e3]; exact List.mem_singleton_self _
  have x := upd_lst_ext (ws := ws') h
  have f : Fr G H (upd H a (.lst ws')) := fun b g => upd_ne fun e => (S.off i a hin).1 (by rw [← e]; exact g)
  have hlt : i < ty.length := (List.getElem?_eq_some_iff.mp hi).1
  refine ⟨⟨S.ls, by rw [List.length_set]; exact S.le, fun j τ d h1 h2 => ?_, fun j v h => ?_, S.fxo, S.dj, fun j b h => ⟨(S.off j b h).1, ?_⟩, fun b g => ?_, fun j τ h1 h2 => ?_⟩, f, x⟩
  · by_cases hj : j = i
    · subst hj
      rw [hi] at h1; cases h1
      rw [List.getElem?_set_self (by rw [S.le]; exact hlt)] at h2
      cases h2
      exact ⟨_, t2, (Rep.lst_iff hm).mpr ⟨a, ws', ds', rfl, rfl, upd_same, s'.ext x, e3⟩⟩
    · rw [List.getElem?_set_ne (Ne.symm hj)] at h2
      obtain ⟨v, q1, q2⟩ := S.sl j τ d h1 h2
      exact ⟨v, q1, q2.stay x f fun b hb => upd_ne fun e => hj (S.dj j i a (by rw [← e]; exact hb) hin)⟩
  · obtain ⟨q1, e, q2⟩ := S.fix j v h
    refine ⟨q1, ?_⟩
    by_cases hj : j = i
    · subst hj
      exact ⟨_, List.getElem?_set_self (by rw [S.le]; exact hlt)⟩
    · exact ⟨e, by rw [List.getElem?_set_ne (Ne.symm hj)]; exact q2⟩
  · by_cases hb : b = a
    · subst hb; rw [upd_same]; simp
    · rw [upd_ne hb]; exact (S.off j b h).2
  · rw [f b g]; exact S.gk b g
  · obtain ⟨e, q2⟩ := S.al j τ h1 h2
    by_cases hj : j = i
    · subst hj
      exact ⟨_, List.getElem?_set_self (by rw [S.le]; exact hlt)⟩
    · exact ⟨e, by rw [List.getElem?_set_ne (Ne.symm hj)]; exact q2⟩
end
section
variable {X : Cx} {Γ : Gam} {cal : Nat → List PyData → CRes} {e x y z : Expr} {κ : Ty} {ir a b c : E} {pos p2 p ap : Pos}
theorem case_call {f : Nat} {as : List E} {es : List Expr} {nm : Str} {sg : Fsig} (g : Good X Γ cal) (hf : Γ.fs[f]? = some sg) (hn : sg.name = nm) (hg : glB Γ nm = true) (hk : κ = sg.ret ∨ (κ = .sh ∧ sg.ret = .lst .own)) (hs : setB sg.ret = true)
    (hl : as.length = sg.tys.length) (ha : POs X Γ cal as es) (hb : ∀ (j : Nat) a τ, as[j]? = some a → sg.tys[j]? = some τ → argB a τ Γ.ty = true) (nd : nodupB (as.filterMap bOf) = true) (ns : es.all notStar = true) :
    PE X (.Call (.Name nm p) es [] pos) (TDe X.K Γ.ty (evE cal (.call f as)) κ) := by
  obtain ⟨h1, h2, h3⟩ := gl_ok g hg
  obtain ⟨fa, fd, k, q1, q2, q3, q4, q5, _⟩ := g.fns f sg hf
  subst hn
  have pa := ha.pa ns
  have key : PE X (.Call (.Name sg.name p) es [] pos) (fun σ H Q => tOs X.K Γ.ty cal as σ H fun vs H1 => spD X.K sg (cal f) vs H1 Q (fun _ _ _ => False)) := by
    cases ha with
    | nil =>
      refine peImp (pe_gcall0 q3 q4 g.gd h1 q1 q2 q5 (E := fun _ _ _ => False) pass0 h2) fun σ H Q q => q
    | cons h t =>
      simp only [List.all_cons, Bool.and_eq_true] at ns
      exact pe_gcall q3 q4 g.gd h1 q1 q2 q5 pass0 pa h2 (star_ns ns.1) (pl_ns ns.2)
  refine peImp (pe_fz key) fun σ H Q ⟨G, fx, env, As, d, env', S, e, k⟩ => ?_
  simp only [evE] at e
  obtain ⟨ds, env1, e1, e2⟩ := bind_ok e
  split at e2
  · rename_i _ outs hc
    cases e2
    have hret : sg.ret ≠ .lst .bor ∧ sg.ret ≠ .dic .bor := by
      constructor <;> intro z <;> rw [z] at hs <;> simp [setB] at hs
    obtain ⟨o1, o2⟩ := g.chk f sg ds _ outs hf hc
    refine tOs_of as σ H _ ⟨G, fx, env, As, ds, env1, S, e1, fun vs H1 As1 S1 oa f1 x1 => call_sp S1 oa hl hb nd hc o1 o2 (fun v H' As' A S' r oA f2 x2 => ?_) hret⟩
    rcases hk with rfl | ⟨rfl, hr⟩
    · exact .inl (k v H' As' A S' r oA (f1.trans f2) (x1.trans x2))
    · rw [hr] at r
      obtain ⟨q, ws, es, rfl, rfl, hp, sa, rfl⟩ := r
      obtain ⟨z1, z2, z3⟩ := oA q (List.mem_singleton_self _)
      refine .inr ⟨q, ws, rfl, hp, fun o => ?_⟩
      have xe := upd_frz_ext (o := o) hp
      obtain ⟨S3, f3⟩ := S'.frz xe z1 z3
      exact k _ _ As' [] S3 ⟨.lst ⟨o, upd_same⟩ (sa.ext xe), rfl⟩ (fun a h => by cases h) ((f1.trans f2).trans f3) ((x1.trans x2).trans xe)
  · cases e2
  · cases e2
theorem case_pop {i : Nat} {m : Md} {nx : Str} (g : Good X Γ cal) (hl : (ap.endLine == pos.line) = true) (hx : slotB Γ i nx = true) (ht : Γ.ty[i]? = some (.lst m)) (hm : m ≠ .bor) (ns : notStar y = true) (ha : PE X y (TDe X.K Γ.ty (evE cal a) .sh)) :
    PE X (.Call (.Attribute (.Name nx p) "pop" ap) [y] [] pos) (TDe X.K Γ.ty (evE cal (.pop i a)) .sh) := by
  obtain ⟨h1, h2, h3, h4⟩ := slot_ok g hx
  refine peImp (pe_bm PySem.F.plainAttrs_list PySem.F.slot_list_pop PySem.F.type_list_pop mt_popAt (pe_var h1 h2 h3 h4) (pa_cons ha pa_nil (star_ns ns)) rfl (by rw [star_ns ns]; rfl) hl (star_ns ns) rfl) fun σ H Q ⟨G, fx, env, As, d, env', S, e, k⟩ => ?_
  simp only [evE] at e
  split at e
  · cases e
  · rename_i d0 hf0
    obtain ⟨dk, env1, e1, e2⟩ := bind_ok e
    obtain ⟨a0, ws0, ds0, hσ, _, hH, _, _, _⟩ := S.wr ht hm hf0
    refine ⟨_, hσ, .inl ⟨rfl, _, SqL.of hH⟩, ?_⟩
    refine ⟨G, fx, env, As, dk, env1, S, e1, fun v H1 As1 A1 S1 r1 _ f1 x1 => ?_⟩
    obtain ⟨h, _⟩ := r1.sh_inv
    split at e2
    · rename_i xs j hf1
      cases h
      split at e2
      · rename_i hj
        split at e2
        · rename_i n hn
          split at e2
          · rename_i y hy
            cases e2
            obtain ⟨a1, ws, ds, hσ1, hd, hH1, sa, _, w⟩ := S1.wr ht hm hf1
            rw [hσ] at hσ1; cases hσ1
            cases hd
            obtain ⟨yv, hyv, hys⟩ := sa.get hy
            have le := sa.length
            obtain ⟨q1, q2, q3, q4⟩ := ixN_seq hn
            have x2 := upd_lst_ext (ws := ws.eraseIdx n) hH1
            obtain ⟨S2, f2, _⟩ := w (ws.eraseIdx n) (xs.eraseIdx n) (sa.eraseIdx n)
            exact ⟨a0, ws, j, n, yv, rfl, rfl, hH1, by omega, by omega, by rw [le]; exact q1, hyv, k _ _ As1 [] S2 ⟨hys.ext x2, rfl⟩ (fun a h => by cases h) (f1.trans f2) (x1.trans x2)⟩
          · cases e2
        · cases e2
      · cases e2
    · cases e2
end
end Dv
end
section
namespace Dv
open PySem PySem.Spec PyProof.Rows L2

/-! ### dicts whose keys are texts -/
section
variable {K : PySem.W.Frag} {H H' : Hp}
theorem isK_key {x : Str} {k : Key} {d : PyData} : isK x (keyD k, d) = decide (k = Sum.inr x) := by
  cases k with
  | inl i => simp [isK, keyD]
  | inr y => simp [isK, keyD]
theorem shk_look {x : Str} : ∀ {kvs : List (Key × V)} {ds : List (PyData × PyData)} {d : PyData}, ShK K H kvs ds → dLook ds x = some d → ∃ v, valV kvs (Sum.inr x) = some v ∧ Sh K H v d
  | _, _, _, .nil, h => by cases h
  | _, _, _, .cons (k := k) (v := v) (vs := vs) (d := e) (ds := ds) s t, h => by
    unfold dLook at h
    rw [List.find?_cons, isK_key] at h
    by_cases hk : k = Sum.inr x
    · rw [decide_eq_true hk] at h
      cases h
      exact ⟨v, valV_pos hk, s⟩
    · rw [decide_eq_false hk] at h
      obtain ⟨w, h1, h2⟩ := shk_look t h
      exact ⟨w, (valV_neg hk).trans h1, h2⟩
theorem shk_any {x : Str} : ∀ {kvs : List (Key × V)} {ds : List (PyData × PyData)}, ShK K H kvs ds → (ds.any (isK x)) = kvs.any fun kv => decide (kv.1 = Sum.inr x)
  | _, _, .nil => rfl
  | _, _, .cons s t => by rw [List.any_cons, List.any_cons, isK_key, shk_any t]
theorem shk_map {x : Str} {v : V} {d : PyData} (h : Sh K H v d) : ∀ {kvs : List (Key × V)} {ds : List (PyData × PyData)}, ShK K H kvs ds → ShK K H (kvs.map fun kv => if kv.1 = Sum.inr x then (kv.1, v) else kv) (ds.map fun p => if isK x p = true then (p.1, d) else p)
  | _, _, .nil => .nil
  | _, _, .cons (k := k) s t => by
    rw [List.map_cons, List.map_cons, isK_key]
    by_cases hk : k = Sum.inr x
    · rw [if_pos hk, if_pos (by rw [decide_eq_true hk])]
      exact .cons h (shk_map h t)
    · rw [if_neg hk, if_neg (by rw [decide_eq_false hk]; simp)]
      exact .cons s (shk_map h t)
theorem shk_snoc {k : Key} {v : V} {d : PyData} (h : Sh K H v d) : ∀ {kvs : List (Key × V)} {ds : List (PyData × PyData)}, ShK K H kvs ds → ShK K H (kvs ++ [(k, v)]) (ds ++ [(keyD k, d)])
  | _, _, .nil => .cons h .nil
  | _, _, .cons s t => .cons s (shk_snoc h t)
theorem shk_put {x : Str} {v : V} {d : PyData} {kvs : List (Key × V)} {ds : List (PyData × PyData)} (h : Sh K H v d) (s : ShK K H kvs ds) : ShK K H (putK kvs (Sum.inr x) v) (dPut ds x d) := by
  unfold putK dPut
  rw [shk_any s]
  split
  · exact shk_map h s
  · exact shk_snoc (k := Sum.inr x) h s
theorem shk_len : ∀ {kvs : List (Key × V)} {ds : List (PyData × PyData)}, ShK K H kvs ds → kvs.length = ds.length
  | _, _, .nil => rfl
  | _, _, .cons _ t => by rw [List.length_cons, List.length_cons, shk_len t]
theorem upd_dk_ext {p : Addr} {vs ws : List (Key × V)} (h : H p = some (.dK vs)) : Ext H (upd H p (.dK ws)) :=
  ⟨fun b xs q => by rw [upd_ne (fun e => by subst e; rw [h] at q; cases q)]; exact q, fun b o' u q => by rw [upd_ne (fun e => by subst e; rw [h] at q; cases q)]; exact q⟩
end
section
variable {K : PySem.W.Frag} {ty : List Ty} {G : Addr → Prop} {fx : Nat → Option V} {H H' : Hp} {σ : L2.St} {env env' : Env} {As : Fp}
/-- a dict of a slot, to be read -/
theorem SR.rdD (S : SR K ty G fx H σ env As) {i : Nat} {m : Md} {d : PyData} (hi : ty[i]? = some (.dic m)) (hf : fetch env i = some d) :
    ∃ a kvs ds, σ[i]? = some (some (.ref a)) ∧ d = .dict ds ∧ Rd H a (.dK kvs) ∧ ShK K H kvs ds := by
  obtain ⟨τ, v, t1, t2, r⟩ := S.get hf
  rw [hi] at t1; cases t1
  cases m with
  | bor =>
    obtain ⟨a, kvs, ds, rfl, rfl, h, s, _⟩ := r
    rcases h with ⟨_, h⟩ | ⟨o, h⟩
    · exact ⟨a, kvs, ds, t2, rfl, .inl h, s⟩
    · exact ⟨a, kvs, ds, t2, rfl, .inr ⟨o, h⟩, s⟩
  | own => obtain ⟨a, kvs, ds, rfl, rfl, h, s, _⟩ := r; exact ⟨a, kvs, ds, t2, rfl, .inl h, s⟩
  | par => obtain ⟨a, kvs, ds, rfl, rfl, h, s, _⟩ := r; exact ⟨a, kvs, ds, t2, rfl, .inl h, s⟩
/-- a dict of a slot is written -/
theorem SR.wrD (S : SR K ty G fx H σ env As) {i : Nat} {m : Md} {d : PyData} (hi : ty[i]? = some (.dic m)) (hm : m ≠ .bor) (hf : fetch env i = some d) :
    ∃ a kvs ds, σ[i]? = some (some (.ref a)) ∧ d = .dict ds ∧ H a = some (.dK kvs) ∧ ShK K H kvs ds ∧ As i = [a] ∧ ∀ kvs' ds', ShK K H kvs' ds' →
      SR K ty G fx (upd H a (.dK kvs')) σ (env.set i (some (.dict ds'))) As ∧ Fr G H (upd H a (.dK kvs')) ∧ Ext H (upd H a (.dK kvs')) := by
  obtain ⟨τ, v, t1, t2, r⟩ := S.get hf
  rw [hi] at t1; cases t1
  obtain ⟨a, kvs, ds, rfl, rfl, h, s, e3⟩ := (Rep.dic_iff hm).mp r
  refine ⟨a, kvs, ds, t2, rfl, h, s, e3, fun ws' ds' s' => ?_⟩
  have hin : a ∈ As i := by rw [e3]; exact List.mem_singleton_self _
  have x := upd_dk_ext (ws := ws') h
  have f : Fr G H (upd H a (.dK ws')) := fun b g => upd_ne fun e => (S.off i a hin).1 (by rw [← e]; exact g)
  have hlt : i < ty.length := (List.getElem?_eq_some_iff.mp hi).1
  refine ⟨⟨S.ls, by rw [List.length_set]; exact S.le, fun j τ d h1 h2 => ?_, fun j v h => ?_, S.fxo, S.dj, fun j b h => ⟨(S.off j b h).1, ?_⟩, fun b g => ?_, fun j τ h1 h2 => ?_⟩, f, x⟩
  · by_cases hj : j = i
    · subst hj
      rw [hi] at h1; cases h1
      rw [List.getElem?_set_self (by rw [S.le]; exact hlt)] at h2
      cases h2
      exact ⟨_, t2, (Rep.dic_iff hm).mpr ⟨a, ws', ds', rfl, rfl, upd_same, s'.ext x, e3⟩⟩
    · rw [List.getElem?_set_ne (Ne.symm hj)] at h2
      obtain ⟨v, q1, q2⟩ := S.sl j τ d h1 h2
      exact ⟨v, q1, q2.stay x f fun b hb => upd_ne fun e => hj (S.dj j i a (by rw [← e]; exact hb) hin)⟩
  · obtain ⟨q1, e, q2⟩ := S.fix j v h
    refine ⟨q1, ?_⟩
    by_cases hj : j = i
    · subst hj
      exact ⟨_, List.getElem?_set_self (by rw [S.le]; exact hlt)⟩
    · exact ⟨e, by rw [List.getElem?_set_ne (Ne.symm hj)]; exact q2⟩
  · by_cases hb : b = a
    · subst hb; rw [upd_same]; simp
    · rw [upd_ne hb]; exact (S.off j b h).2
  · rw [f b g]; exact S.gk b g
  · obtain ⟨e, q2⟩ := S.al j τ h1 h2
    by_cases hj : j = i
    · subst hj; exact ⟨_, List.getElem?_set_self (by rw [S.le]; exact hlt)⟩
    · exact ⟨e, by rw [List.getElem?_set_ne (Ne.symm hj)]; exact q2⟩
end
section
variable {X : Cx} {Γ : Gam} {cal : Nat → List PyData → CRes} {x y : Expr} {a b : E} {p p2 pos : Pos}
/-- d[k] -/
theorem case_dget {i : Nat} {m : Md} {nx : Str} (g : Good X Γ cal) (hx : slotB Γ i nx = true) (ht : Γ.ty[i]? = some (.dic m)) (ns : notSl x = true) (ha : PE X x (TDe X.K Γ.ty (evE cal a) .sh)) :
    PE X (.Subscript (.Name nx p) x pos) (TDe X.K Γ.ty (evE cal (.dget i a)) .sh) := by
  obtain ⟨h1, h2, h3, h4⟩ := slot_ok g hx
  refine peImp (pe_dget (by have := g.un; omega) (pe_var h1 h2 h3 h4) ha (fun _ _ => by cases x <;> first | rfl | cases ns)) fun σ H Q ⟨G, fx, env, As, d, env', S, e, k⟩ => ?_
  simp only [evE] at e
  split at e
  · cases e
  · rename_i d0 hf0
    obtain ⟨dk, env1, e1, e2⟩ := bind_ok e
    obtain ⟨a0, ws0, ds0, hσ, _, _, _⟩ := S.rdD ht hf0
    refine ⟨_, hσ, G, fx, env, As, dk, env1, S, e1, fun v H1 As1 A1 S1 r1 _ f1 x1 => ?_⟩
    obtain ⟨h, _⟩ := r1.sh_inv
    split at e2
    · rename_i ds z hf1
      split at e2
      · rename_i d2 hl
        cases e2
        obtain ⟨a1, kvs, ds1, hσ1, hd, hR, sk⟩ := S1.rdD ht hf1
        rw [hσ] at hσ1; cases hσ1
        cases hd
        cases h
        obtain ⟨w, hv, hw⟩ := shk_look sk hl
        exact ⟨a0, w, rfl, .inl ⟨kvs, Sum.inr z, hR, rfl, hv.symm⟩, k _ H1 As1 [] S1 ⟨hw, rfl⟩ (fun a h => by cases h) f1 x1⟩
      · cases e2
    · cases e2
theorem mk_ok {K : PySem.W.Frag} {H : Hp} : ∀ {ps : List (Str × PyData)} {kvs : List (Str × V)} {ks : List (Key × V)} {ds : List (PyData × PyData)}, Paired (fun kv p => kv.1 = p.1 ∧ Sh K H kv.2 p.2) kvs ps → ShK K H ks ds →
    ShK K H ((kvs.map fun kv => ((Sum.inr kv.1 : Key), kv.2)).foldl (fun acc kv => putK acc kv.1 kv.2) ks) (ps.foldl (fun m p => dPut m p.1 p.2) ds)
  | _, _, _, _, .nil, h => h
  | _, _, _, _, .cons (a := kv) (b := q) e t, h => by
    rw [List.map_cons, List.foldl_cons, List.foldl_cons]
    obtain ⟨e1, e2⟩ := e
    rw [e1]
    exact mk_ok t (shk_put e2 h)
theorem pairs_ok {K : PySem.W.Frag} {H : Hp} : ∀ {xs : List PyData} {vs : List V} {ps : List (Str × PyData)}, ShA K H vs xs → pairsD xs = some ps → ∃ (as : List Addr) (kvs : List (Str × V)), vs = as.map V.ref ∧ Paired (fun p kv => SqT K H p [.str kv.1, kv.2]) as kvs ∧ Paired (fun kv p => kv.1 = p.1 ∧ Sh K H kv.2 p.2) kvs ps
  | [], _, ps, .nil, h => by cases h; exact ⟨[], [], rfl, .nil, .nil⟩
  | x :: xs, _, ps, .cons (v := v) s t, h => by
    unfold pairsD at h
    split at h
    · rename_i heq; cases heq
    · rename_i z d r heq
      cases heq
      cases hr : pairsD xs with
      | none => rw [hr] at h; cases h
      | some ps1 =>
        rw [hr] at h
        cases h
        obtain ⟨as, kvs, e, p1, p2⟩ := pairs_ok t hr
        cases s with
        | tup hq sa =>
          rename_i a ys
          cases sa with
          | cons s1 sa =>
            cases sa with
            | cons s2 sa =>
              cases sa
              cases s1
              rename_i w
              exact ⟨a :: as, (z, w) :: kvs, by rw [e]; rfl, .cons hq p1, .cons ⟨rfl, s2⟩ p2⟩
    · cases h
theorem paired_map {α β γ : Type} {F : α → β → Prop} {F' : α → γ → Prop} {f : β → γ} (h : ∀ a b, F a b → F' a (f b)) : ∀ {l : List α} {m : List β}, Paired F l m → Paired F' l (m.map f)
  | _, _, .nil => .nil
  | _, _, .cons e t => .cons (h _ _ e) (paired_map h t)
/-- dict(xs): a new one -/
theorem case_dct {f : Str} (g : Good X Γ cal) (hf : f = "dict") (hg : glB Γ f = true) (ns : notStar x = true) (ha : PE X x (TDe X.K Γ.ty (evE cal a) .sh)) :
    PE X (.Call (.Name f p) [x] [] pos) (TDe X.K Γ.ty (evE cal (.dct a)) (.dic .own)) := by
  obtain ⟨h1, h2, h3⟩ := gl_ok g hg
  subst hf
  refine peImp (pe_callTy (call_dictP g.calm) h1 (g.blt "dict" (by decide +kernel)) (by decide +kernel) (pa_cons ha pa_nil (star_ns ns)) h3 h2 (star_ns ns) rfl) fun σ H Q ⟨G, fx, env, As, d, env', S, e, k⟩ => ?_
  simp only [evE] at e
  obtain ⟨d0, env1, e1, e2⟩ := bind_ok e
  split at e2
  · rename_i xs
    split at e2
    · rename_i ps hps
      cases e2
      refine ⟨G, fx, env, As, _, env', S, e1, fun v H1 As1 A1 S1 r1 _ f1 x1 => ?_⟩
      obtain ⟨h, _⟩ := r1.sh_inv
      cases h with
      | lst hq sa =>
        obtain ⟨as, kvs, rfl, p1, p2⟩ := pairs_ok sa hps
        refine ⟨_, as, kvs.map fun kv => ((Sum.inr kv.1 : Key), kv.2), rfl, .inl hq.rd, paired_map (F' := fun p (kv : Key × V) => SqT X.K H1 p [kV kv.1, kv.2]) (f := fun kv : Str × V => ((Sum.inr kv.1 : Key), kv.2)) (fun _ _ q => q) p1, fun q hn => ?_⟩
        have sm : Same H1 (upd H1 q (.dK (mergeK [] (kvs.map fun kv => ((Sum.inr kv.1 : Key), kv.2))))) := fun b o h => by
          rw [upd_ne fun e => by subst e; rw [hn] at h; cases h]; exact h
        have xe := Ext.of_same sm
        have S2 := S1.same sm
        have sk := mk_ok (K := X.K) (H := H1) (ks := []) (ds := []) p2 .nil
        refine k _ _ As1 [q] S2 ⟨q, _, _, rfl, rfl, upd_same, sk.ext xe, rfl⟩ (fun b hb => ?_) (f1.trans (S1.fr sm)) (x1.trans xe)
        rw [List.mem_singleton.mp hb]
        exact ⟨fun w => S1.gk q w hn, by rw [upd_same]; simp, fun i hi => (S1.off i q hi).2 hn⟩
    · cases e2
  · cases e2
/-- (x, d), d a dict of one's own -/
theorem case_pd {n : Nat} (n1 : notStar x = true) (n2 : notStar y = true) (ha : PE X x (TDe X.K Γ.ty (evE cal a) .sh)) (hb : PE X y (TDe X.K Γ.ty (evE cal b) (.dic .own))) :
    PE X (.Tuple [x, y] n pos) (TDe X.K Γ.ty (evE cal (.pd a b)) .pd) := by
  refine peImp (pe_tup (pa_cons ha (pa_cons hb pa_nil (star_ns n2)) (star_ns n1))) fun σ H Q ⟨G, fx, env, As, d, env', S, e, k⟩ => ?_
  simp only [evE] at e
  obtain ⟨d1, env1, e1, e2⟩ := bind_ok e
  obtain ⟨d2, env2, e3, e4⟩ := bind_ok e2
  split at e4
  · rename_i ds
    cases e4
    refine ⟨G, fx, env, As, _, env1, S, e1, fun v H1 As1 A1 S1 r1 _ f1 x1 => ⟨G, fx, env1, As1, _, env', S1, e3, fun w H2 As2 A2 S2 r2 o2 f2 x2 => ?_⟩⟩
    obtain ⟨hs, _⟩ := r1.sh_inv
    obtain ⟨a0, kvs, ds0, rfl, hd, h, sk, rfl⟩ := r2
    cases hd
    refine ⟨show 2 ≤ sizeLine by decide, fun q hn => ?_⟩
    have sm : Same H2 (upd H2 q (.tup [v, .ref a0])) := fun b o h => by
      rw [upd_ne fun e => by subst e; rw [hn] at h; cases h]; exact h
    have xe := Ext.of_same sm
    refine k _ _ As2 [a0] (S2.same sm) ⟨a0, q, v, kvs, d1, _, rfl, rfl, sm _ _ h, sk.ext xe, rfl, .inl (.inl upd_same), (hs.ext x2).ext xe⟩ (fun b hb => ?_) (f1.trans (f2.trans (S2.fr sm))) (x1.trans (x2.trans xe))
    obtain ⟨z1, z2, z3⟩ := o2 b hb
    rw [List.mem_singleton.mp hb] at *
    exact ⟨z1, by rw [sm _ _ h]; simp, z3⟩
  · cases e4
end
end Dv
end
section
namespace Dv
open PySem PySem.Spec PyProof.Rows L2
section
variable {X : Cx} {Γ : Gam} {cal : Nat → List PyData → CRes} {x : Str} {p pos : Pos} {kws : List Keyword}
/-- f(k = e, ..), keywords alone -/
theorem pe_gcallK {CX : CXT} {k : Nat} {f : Addr} {fd : FuncData} {ps ns : List Str} {sp : Sp} {E : XK} {tk : TA} (F : FnG X.prog X.w X.K X.mg X.base CX k f fd ps sp) (hr : Room k X.A) (hgd : X.A.guards = some []) (hg : Gl X x) (hm : X.mg x = some (.ref f)) (hk : PySem.W.keepIn X.K (.ref f) = true) (hb : KwB X.K fd ps ns)
    (hx : Passes CX X E) (hkw : PK X kws tk) (hall : (backToKw pos (keywordEach kws X.env)).all (·.1.isSome) = true) (hks : (backToKw pos (keywordEach kws X.env)).filterMap (·.1) = ns) (hdb : (x == ("__debug__" : Str)) = false)
    (hpl : ((backTo pos (starEach [] X.env)).any (·.1) || (backToKw pos (keywordEach kws X.env)).any (·.1.isNone)) = false) :
    PE X (.Call (.Name x p) [] kws pos) (fun σ H Q => tk σ H fun zs H1 => zs.length = ns.length ∧ sp (permV (pmOf ps ns) zs) H1 Q E) := by
  refine ⟨fun pins s σ H Q I h => wpAny_Call_Name_kw (ld_glob I hg hm ?_ hdb)⟩
  refine PySem.W.callWith_KW0 (h₀ := X.base) I.ok.mod.kin hk hall (thn (hkw.run pos pins s σ H _ I h) fun ws s2 ⟨zs, H2, I2, rz, q1, q2⟩ => ⟨I2.kIn, ?_⟩) hpl
  rw [hks]
  have hl : ws.length = ns.length := by rw [← rz.length]; exact q1
  refine wpAny_call (codeAny_mono (fng_run F hr hgd (us := permV (pmOf ps ns) ws) ?_ hx I2 (permV_vals rz _) q2) fun z s' hq => ?_)
  · exact hb s2 ws I2.kIn hl
  · cases z with
    | error e => exact hq
    | ok fl => cases fl <;> first | exact hq | exact hq.elim
theorem evEs_len {as : List E} {env env' : Env} {ds : List PyData} (h : evEs cal as env = .ok ds env') : ds.length = as.length := by
  induction as generalizing env ds with
  | nil => simp only [evEs] at h; cases h; rfl
  | cons a as ih =>
    simp only [evEs] at h
    obtain ⟨d, env1, e1, e2⟩ := bind_ok h
    obtain ⟨ds1, env2, e3, e4⟩ := bind_ok e2
    cases e4
    simp [ih e3]
inductive PKs (X : Cx) (Γ : Gam) (cal : Nat → List PyData → CRes) : List Str → List E → List Keyword → Prop
  | nil : PKs X Γ cal [] [] []
  | cons {n : Str} {ns : List Str} {a : E} {as : List E} {e : Expr} {kp : Pos} {ks : List Keyword} : PE X e (TDe X.K Γ.ty (evE cal a) .sh) → PKs X Γ cal ns as ks → PKs X Γ cal (n :: ns) (a :: as) (⟨some n, e, kp⟩ :: ks)
theorem PKs.pk : ∀ {ns : List Str} {as : List E} {ks : List Keyword}, PKs X Γ cal ns as ks → ∃ t, PK X ks t ∧ ∀ σ H (Q : List V → Hp → Prop), (∃ G fx env As ds env', SR X.K Γ.ty G fx H σ env As ∧ evEs cal as env = .ok ds env' ∧
    ∀ vs H' As', SR X.K Γ.ty G fx H' σ env' As' → ShA X.K H' vs ds → Fr G H H' → Ext H H' → Q vs H') → t σ H Q
  | _, _, _, .nil => ⟨_, pk_nil, fun σ H Q ⟨G, fx, env, As, ds, env', S, e, k⟩ => by
      simp only [evEs] at e
      cases e
      exact k [] H As S .nil (Fr.refl _ _) (Ext.refl _)⟩
  | _, _, _, .cons h t => by
    obtain ⟨t1, p1, p2⟩ := PKs.pk t
    refine ⟨_, pk_cons h p1, fun σ H Q ⟨G, fx, env, As, ds, env', S, e, k⟩ => ?_⟩
    simp only [evEs] at e
    obtain ⟨d, env1, e1, e2⟩ := bind_ok e
    obtain ⟨ds1, env2, e3, e4⟩ := bind_ok e2
    cases e4
    refine ⟨G, fx, env, As, d, env1, S, e1, fun v H1 As1 A1 S1 r1 _ f1 x1 => p2 σ H1 _ ⟨G, fx, env1, As1, ds1, env', S1, e3, fun vs H' As' S' sa f x => k _ H' As' S' (.cons (r1.sh_inv.1.ext x) sa) (f1.trans f) (x1.trans x)⟩⟩
theorem PKs.names : ∀ {ns : List Str} {as : List E} {ks : List Keyword}, PKs X Γ cal ns as ks → (backToKw pos (keywordEach ks X.env)).all (·.1.isSome) = true ∧ (backToKw pos (keywordEach ks X.env)).filterMap (·.1) = ns ∧ (backToKw pos (keywordEach ks X.env)).any (·.1.isNone) = false ∧ as.length = ns.length
  | _, _, _, .nil => ⟨rfl, rfl, rfl, rfl⟩
  | _, _, _, .cons (n := n) (ns := ns) (e := e) (ks := ks) h t => by
    obtain ⟨h1, h2, h3, h4⟩ := PKs.names t
    refine ⟨?_, ?_, ?_, by simp [h4]⟩
    · show ((some n).isSome && (backToKw pos (keywordEach ks X.env)).all (·.1.isSome)) = true
      rw [h1]; rfl
    · show n :: (backToKw pos (keywordEach ks X.env)).filterMap (·.1) = n :: ns
      rw [h2]
    · show ((some n).isNone || (backToKw pos (keywordEach ks X.env)).any (·.1.isNone)) = false
      rw [h3]; rfl
theorem case_kcall {f : Nat} {ns : List Str} {as : List E} {nm : Str} {sg : Fsig} (g : Good X Γ cal) (hf : Γ.fs[f]? = some sg) (hn : sg.name = nm) (hg : glB Γ nm = true) (hr : sg.ret = .sh) (ht : ∀ t ∈ sg.tys, t = .sh) (hl : sg.ps.length = sg.tys.length)
    (hw : ns ∈ sg.kws) (hk : PKs X Γ cal ns as kws) : PE X (.Call (.Name nm p) [] kws pos) (TDe X.K Γ.ty (evE cal (.kcall f ns (pmOf sg.ps ns) as)) .sh) := by
  obtain ⟨h1, h2, h3⟩ := gl_ok g hg
  obtain ⟨fa, fd, k, q1, q2, q3, q4, q5, q6⟩ := g.fns f sg hf
  subst hn
  obtain ⟨t, p1, p2⟩ := hk.pk
  obtain ⟨n1, n2, n3, n4⟩ := PKs.names (pos := pos) hk
  refine peImp (pe_gcallK (E := fun _ _ _ => False) q3 q4 g.gd h1 q1 q2 (q6 ns hw) pass0 p1 n1 n2 h2 (by rw [n3]; rfl)) fun σ H Q ⟨G, fx, env, As, d, env', S, e, kk⟩ => ?_
  simp only [evE] at e
  obtain ⟨ds, env1, e1, e2⟩ := bind_ok e
  split at e2
  · rename_i _ outs hc
    cases e2
    obtain ⟨o1, o2⟩ := g.chk f sg _ _ outs hf hc
    refine p2 σ H _ ⟨G, fx, env, As, ds, env', S, e1, fun vs H1 As1 S1 sa f1 x1 => ?_⟩
    have hds := evEs_len e1
    refine ⟨by rw [sa.length, hds, n4], fun a => H1 a ≠ none, permD (pmOf sg.ps ns) ds, fun _ => [], d, outs, ?_, hc, fun v H' As' A r _ _ _ _ _ fr x => ?_⟩
    · have sp := permV_sha sa (pmOf sg.ps ns)
      have ld := tyOks_len o1
      refine ⟨by rw [sp.length, ld], ld, fun i τ v dd z1 z2 z3 => ?_, fun i j a h => (nomatch h), fun i a h => (nomatch h), fun a h => h⟩
      have : τ = .sh := ht τ (List.mem_of_getElem? z1)
      subst this
      obtain ⟨w, w1, w2⟩ := sp.get z3
      rw [w1] at z2; cases z2
      exact ⟨w2, rfl⟩
    · rw [hr] at r
      obtain ⟨r, rfl⟩ := r
      have sm : Same H1 H' := fun b o hb => (fr b (show H1 b ≠ none by rw [hb]; simp)).trans hb
      exact kk v H' As1 [] (S1.same sm) ⟨r, rfl⟩ (fun a h => by cases h) (f1.trans (S1.fr sm)) (x1.trans x)
  · cases e2
  · cases e2
end
end Dv
end
section
namespace Dv
open PySem PySem.Spec PyProof.Rows L2

section
variable {K : PySem.W.Frag} {ty : List Ty} {G G' : Addr → Prop} {fx : Nat → Option V} {H H' : Hp} {σ σ' : L2.St} {env env' : Env} {As As' : Fp}
/-- what stands fixed now: all that may not be set -/
def fxAll (ty : List Ty) (σ : L2.St) (env : Env) : Nat → Option V := fun j => match ty[j]? with
  | some τ => if setB τ = true then none else match fetch env j with
    | some _ => (σ[j]?).join
    | none => none
  | none => none
theorem fxAll_some {j : Nat} {v : V} (h : fxAll ty σ env j = some v) : σ[j]? = some (some v) ∧ (∃ d, env[j]? = some (some d)) ∧ ∃ τ, ty[j]? = some τ ∧ setB τ = false := by
  unfold fxAll at h
  split at h
  · rename_i τ e
    split at h
    · cases h
    · rename_i hs
      split at h
      · rename_i d hd
        refine ⟨?_, ⟨d, fetch_some hd⟩, τ, e, by simpa using hs⟩
        cases q : σ[j]? with
        | none => rw [q] at h; cases h
        | some o => rw [q] at h; cases o with
          | none => cases h
          | some w => cases h; rfl
      · cases h
  · cases h
theorem fxAll_of {j : Nat} {v : V} {τ : Ty} {d : PyData} (h1 : ty[j]? = some τ) (h2 : setB τ = false) (h3 : env[j]? = some (some d)) (h4 : σ[j]? = some (some v)) : fxAll ty σ env j = some v := by
  unfold fxAll
  have : fetch env j = some d := by unfold fetch; rw [h3]; rfl
  simp only [h1, h2, this, h4]
  rfl
/-- what is borrowed was guarded before too -/
theorem bor_back {τ : Ty} {v : V} {d d' : PyData} {A A' : List Addr} (hs : setB τ = false) (h : Rep K G H τ v d A) (x : Ext H H') (h' : Rep K G' H' τ v d' A') : Rep K G H' τ v d' A' := by
  match τ, h, h' with
  | .sh, _, _ => cases hs
  | .lst .own, _, _ => simp [setB] at hs
  | .dic .own, _, _ => simp [setB] at hs
  | .pd, _, _ => simp [setB] at hs
  | .lst .par, _, h' => exact h'
  | .dic .par, _, h' => exact h'
  | .lst .bor, ⟨a, ws, ds, e1, e2, q, s, e3⟩, ⟨a', ws', ds', e1', e2', q', s', e3'⟩ =>
    rw [e1] at e1'; cases e1'
    refine ⟨a, ws', ds', e1, e2', ?_, s', e3'⟩
    rcases q' with q' | q'
    · rcases q with q | ⟨o, q⟩
      · exact .inl ⟨q.1, q'.2⟩
      · have := x.frz _ _ _ q
        rw [q'.2] at this; cases this
    · exact .inr q'
  | .dic .bor, ⟨a, ws, ds, e1, e2, q, s, e3⟩, ⟨a', ws', ds', e1', e2', q', s', e3'⟩ =>
    rw [e1] at e1'; cases e1'
    refine ⟨a, ws', ds', e1, e2', ?_, s', e3'⟩
    rcases q' with q' | q'
    · rcases q with q | ⟨o, q⟩
      · exact .inl ⟨q.1, q'.2⟩
      · have := x.frz _ _ _ q
        rw [q'.2] at this; cases this
    · exact .inr q'
theorem setB_own {τ : Ty} {v : V} {d : PyData} {A : List Addr} (hs : setB τ = true) (h : Rep K G' H τ v d A) : Rep K G H τ v d A := by
  match τ, h with
  | .sh, h => exact h
  | .lst .own, h => exact h
  | .dic .own, h => exact h
  | .pd, h => exact h
  | .lst .par, _ => simp [setB] at hs
  | .dic .par, _ => simp [setB] at hs
  | .lst .bor, _ => simp [setB] at hs
  | .dic .bor, _ => simp [setB] at hs
/-- more is guarded for a while -/
theorem SR.enter (S : SR K ty G fx H σ env As) {P : Addr → Prop} (h1 : ∀ a, P a → H a ≠ none ∧ ∀ j, a ∉ As j) : SR K ty (fun a => G a ∨ P a) (fxAll ty σ env) H σ env As := by
  refine ⟨S.ls, S.le, fun i τ d q1 q2 => ?_, fun i v q => ⟨(fxAll_some q).1, (fxAll_some q).2.1⟩, fun i v q => (fxAll_some q).2.2, S.dj, fun i a q => ⟨fun z => ?_, (S.off i a q).2⟩, fun a z => ?_, S.al⟩
  · obtain ⟨v, e, r⟩ := S.sl i τ d q1 q2
    exact ⟨v, e, r.mono fun a g => .inl g⟩
  · rcases z with z | z
    · exact (S.off i a q).1 z
    · exact (h1 a z).2 i q
  · rcases z with z | z
    · exact S.gk a z
    · exact (h1 a z).1
theorem SR.leave (S : SR K ty G fx H σ env As) {P : Addr → Prop} (S' : SR K ty (fun a => G a ∨ P a) (fxAll ty σ env) H' σ' env' As') (x : Ext H H') : SR K ty G fx H' σ' env' As' := by
  refine ⟨S'.ls, S'.le, fun i τ d q1 q2 => ?_, fun i v q => ?_, S.fxo, S'.dj, fun i a q => ⟨fun z => (S'.off i a q).1 (.inl z), (S'.off i a q).2⟩, fun a z => S'.gk a (.inl z), S'.al⟩
  · obtain ⟨v, e, r⟩ := S'.sl i τ d q1 q2
    refine ⟨v, e, ?_⟩
    cases hs : setB τ with
    | true => exact setB_own hs r
    | false =>
      -- it was there before, with the same value
      obtain ⟨d0, e0⟩ := S.al i τ q1 hs
      obtain ⟨v0, e1, r0⟩ := S.sl i τ d0 q1 e0
      obtain ⟨e2, _⟩ := S'.fix i v0 (fxAll_of q1 hs e0 e1)
      rw [e] at e2; cases e2
      exact bor_back hs r0 x r
  · obtain ⟨q1, d, q2⟩ := S.fix i v q
    obtain ⟨τ, q3, q4⟩ := S.fxo i v q
    exact S'.fix i v (fxAll_of q3 q4 q2 q1)
end
end Dv
end
section
namespace Dv
open PySem PySem.Spec PyProof.Rows L2

section
variable {K : PySem.W.Frag} {ty : List Ty} {G G' : Addr → Prop} {fx : Nat → Option V} {H H' : Hp} {σ σ' : L2.St} {env env' : Env} {As As' : Fp}
/-- the guarded things, a slot's own too -/
def gLock (G : Addr → Prop) (As : Fp) (i : Nat) : Addr → Prop := fun b => G b ∨ b ∈ As i
/-- a slot's list is locked for a while -/
theorem SR.lock (S : SR K ty G fx H σ env As) {i : Nat} {m : Md} {d : PyData} (hi : ty[i]? = some (.lst m)) (hf : fetch env i = some d) :
    ∃ a ws ds, σ[i]? = some (some (.ref a)) ∧ d = .list ds ∧ ShA K H ws ds ∧ SR K (ty.set i (.lst .bor)) (gLock G As i) (fxAll (ty.set i (.lst .bor)) σ env) H σ env (fun j => if j = i then [] else As j) ∧
      (∀ H', Fr (gLock G As i) H H' → Ext H H' → SqL K H' a ws) ∧
      (∀ H' σ' env' As', SR K (ty.set i (.lst .bor)) (gLock G As i) (fxAll (ty.set i (.lst .bor)) σ env) H' σ' env' As' → Fr (gLock G As i) H H' → Ext H H' → SR K ty G fx H' σ' env' fun j => if j = i then As i else As' j) := by
  obtain ⟨τ, v, t1, t2, r⟩ := S.get hf
  rw [hi] at t1; cases t1
  have hlt : i < ty.length := (List.getElem?_eq_some_iff.mp hi).1
  have e0 := fetch_some hf
  have tyi : (ty.set i (.lst .bor))[i]? = some (.lst .bor) := List.getElem?_set_self hlt
  have tyj : ∀ {j : Nat}, j ≠ i → (ty.set i (.lst .bor))[j]? = ty[j]? := fun h => List.getElem?_set_ne (Ne.symm h)
  have rb : ∃ a ws ds, v = .ref a ∧ d = .list ds ∧ ((gLock G As i a ∧ H a = some (.lst ws)) ∨ FzL K H a ws) ∧ ShA K H ws ds := by
    by_cases hm : m = .bor
    · subst hm
      obtain ⟨a, ws, ds, e1, e2, h, s, e3⟩ := r
      exact ⟨a, ws, ds, e1, e2, h.imp (fun q => ⟨.inl q.1, q.2⟩) id, s⟩
    · obtain ⟨a, ws, ds, e1, e2, h, s, e3⟩ := (Rep.lst_iff hm).mp r
      exact ⟨a, ws, ds, e1, e2, .inl ⟨.inr (by rw [e3]; exact List.mem_singleton_self _), h⟩, s⟩
  obtain ⟨a, ws, ds, e1, e2, hh, sa⟩ := rb
  refine ⟨a, ws, ds, by rw [← e1]; exact t2, e2, sa, ⟨by rw [List.length_set]; exact S.ls, by rw [List.length_set]; exact S.le, fun j τ d' q1 q2 => ?_, fun j w q => ⟨(fxAll_some q).1, (fxAll_some q).2.1⟩, fun j w q => (fxAll_some q).2.2, fun j k b q1 q2 => ?_, fun j b q => ?_, fun b z => ?_, fun j τ q1 q2 => ?_⟩, fun H' f x => ?_, fun H' σ' env' As' S' f x => ?_⟩
  · by_cases hj : j = i
    · subst hj
      rw [tyi] at q1; cases q1
      rw [e0] at q2; cases q2
      exact ⟨v, t2, by rw [if_pos rfl]; exact ⟨a, ws, ds, e1, e2, hh, sa, rfl⟩⟩
    · rw [tyj hj] at q1
      obtain ⟨w, z1, z2⟩ := S.sl j τ d' q1 q2
      exact ⟨w, z1, by rw [if_neg hj]; exact z2.mono fun b g => .inl g⟩
  · by_cases hj : j = i
    · rw [if_pos hj] at q1; cases q1
    · rw [if_neg hj] at q1
      by_cases hk : k = i
      · rw [if_pos hk] at q2; cases q2
      · rw [if_neg hk] at q2; exact S.dj j k b q1 q2
  · by_cases hj : j = i
    · rw [if_pos hj] at q; cases q
    · rw [if_neg hj] at q
      refine ⟨fun z => ?_, (S.off j b q).2⟩
      rcases z with z | z
      · exact (S.off j b q).1 z
      · exact hj (S.dj j i b q z)
  · rcases z with z | z
    · exact S.gk b z
    · exact (S.off i b z).2
  · by_cases hj : j = i
    · subst hj; exact ⟨d, e0⟩
    · rw [tyj hj] at q1; exact S.al j τ q1 q2
  · rcases hh with ⟨g, h⟩ | h
    · exact SqL.of ((f a g).trans h)
    · exact .inl (x.fzL h).rd
  · refine ⟨by rw [S'.ls, List.length_set], by rw [S'.le, List.length_set], fun j τ d' q1 q2 => ?_, fun j w q => ?_, S.fxo, fun j k b q1 q2 => ?_, fun j b q => ?_, fun b z => S'.gk b (.inl z), fun j τ q1 q2 => ?_⟩
    · by_cases hj : j = i
      · subst hj
        rw [hi] at q1; cases q1
        rw [if_pos rfl]
        obtain ⟨w, z1, z2⟩ := S'.sl j _ d' tyi q2
        obtain ⟨z3, _⟩ := S'.fix j v (fxAll_of tyi rfl e0 t2)
        rw [z1] at z3; cases z3
        refine ⟨v, z1, ?_⟩
        by_cases hm : m = .bor
        · subst hm
          have := bor_back rfl r x z2
          obtain ⟨a1, w1, d1, y1, y2, y3, y4, y5⟩ := this
          obtain ⟨_, _, _, _, _, _, _, y6⟩ := r
          exact ⟨a1, w1, d1, y1, y2, y3, y4, y6⟩
        · obtain ⟨a1, w1, d1, y1, y2, y3, y4, y5⟩ := (Rep.lst_iff hm).mp r
          obtain ⟨a2, w2, d2, x1, x2, x3, x4, x5⟩ := z2
          rw [y1] at x1; cases x1
          have hk : H' a1 = some (.lst w1) := (f a1 (.inr (by rw [y5]; exact List.mem_singleton_self _))).trans y3
          rcases x3 with x3 | ⟨o, x3⟩
          · exact (Rep.lst_iff hm).mpr ⟨a1, w2, d2, y1, x2, x3.2, x4, y5⟩
          · rw [hk] at x3; cases x3
      · rw [if_neg hj]
        obtain ⟨w, z1, z2⟩ := S'.sl j τ d' (by rw [tyj hj]; exact q1) q2
        refine ⟨w, z1, ?_⟩
        cases hs : setB τ with
        | true => exact setB_own hs z2
        | false =>
          obtain ⟨d0, e0'⟩ := S.al j τ q1 hs
          obtain ⟨v0, y1, y2⟩ := S.sl j τ d0 q1 e0'
          obtain ⟨z3, _⟩ := S'.fix j v0 (fxAll_of (by rw [tyj hj]; exact q1) hs e0' y1)
          rw [z1] at z3; cases z3
          exact bor_back hs y2 x z2
    · obtain ⟨q1, d', q2⟩ := S.fix j w q
      obtain ⟨τ, q3, q4⟩ := S.fxo j w q
      by_cases hj : j = i
      · subst hj
        exact S'.fix j w (fxAll_of tyi rfl q2 q1)
      · exact S'.fix j w (fxAll_of (by rw [tyj hj]; exact q3) q4 q2 q1)
    · by_cases hj : j = i
      · rw [if_pos hj] at q1
        by_cases hk : k = i
        · rw [hj, hk]
        · rw [if_neg hk] at q2
          exact absurd (.inr q1) (S'.off k b q2).1
      · rw [if_neg hj] at q1
        by_cases hk : k = i
        · rw [if_pos hk] at q2
          exact absurd (.inr q2) (S'.off j b q1).1
        · rw [if_neg hk] at q2; exact S'.dj j k b q1 q2
    · by_cases hj : j = i
      · rw [if_pos hj] at q
        exact ⟨(S.off i b q).1, by rw [f b (.inr q)]; exact (S.off i b q).2⟩
      · rw [if_neg hj] at q
        exact ⟨fun z => (S'.off j b q).1 (.inl z), (S'.off j b q).2⟩
    · by_cases hj : j = i
      · subst hj; exact S'.al j _ tyi rfl
      · exact S'.al j τ (by rw [tyj hj]; exact q1) q2
end

/-! ### targets -/
section
variable {X : Cx} {Γ : Gam} {cal : Nat → List PyData → CRes}
def setAll (is : List Nat) (ds : List PyData) (env : Env) : Env := (is.zip ds).foldl (fun e p => e.set p.1 (some p.2)) env
def tgsT : List Nat → TGs
  | [] => gNil
  | i :: is => gCons (gName i) (tgsT is)
def tgT (K : PySem.W.Frag) : Tg → TG
  | .one i => gName i
  | .tup is => gTup K is.length (tgsT is)
theorem pgs_ok (g : Good X Γ cal) : ∀ (is : List Nat) (es : List Expr), is.length = es.length → (is.zip es).all (fun p => match p.2 with | .Name x _ => storB Γ p.1 x && decide (Γ.ty[p.1]? = some .sh) | _ => false) = true →
    PGs X es (tgsT is) ∧ (assignEach es X.env).length = is.length ∧ (assignEach es X.env).findIdx? (·.1) = none ∧
      ∀ (vs : List V) (ds : List PyData) (σ : L2.St) (H : Hp) (G : Addr → Prop) (fx : Nat → Option V) (env : Env) (As : Fp) (Q : L2.St → Hp → Prop), SR X.K Γ.ty G fx H σ env As → ShA X.K H vs ds → ds.length = is.length →
        (∀ σ' As', SR X.K Γ.ty G fx H σ' (setAll is ds env) As' → (∀ j, j ∉ is → σ'[j]? = σ[j]?) → Q σ' H) → tgsT is vs σ H Q
  | [], es, hl, _ => by
    cases es with
    | nil =>
      refine ⟨pgs_nil, rfl, rfl, fun vs ds σ H G fx env As Q S sa hd k => ?_⟩
      cases ds with
      | nil => cases sa; exact ⟨rfl, k σ As S fun _ _ => rfl⟩
      | cons _ _ => simp at hd
    | cons _ _ => simp at hl
  | i :: is, es, hl, hc => by
    cases es with
    | nil => simp at hl
    | cons e es =>
      rw [List.zip_cons_cons, List.all_cons, Bool.and_eq_true] at hc
      obtain ⟨c1, c2⟩ := hc
      obtain ⟨h1, h2, h3, h4⟩ := pgs_ok g is es (by simpa using hl) c2
      simp only at c1
      split at c1
      · rename_i x p
        rw [Bool.and_eq_true, decide_eq_true_eq] at c1
        obtain ⟨c1, ct⟩ := c1
        obtain ⟨n1, n2, n3⟩ := stor_ok g c1
        refine ⟨pgs_cons (pg_name (by rw [g.hN]; exact g.nd) n1 n2 n3) h1 rfl, by show (assignEach es X.env).length + 1 = _; rw [h2]; rfl, ?_, fun vs ds σ H G fx env As Q S sa hd k => ?_⟩
        · show List.findIdx? _ ((false, assign (.Name x p) X.env) :: assignEach es X.env) = none
          rw [List.findIdx?_cons]
          simp [h3]
        · cases sa with
          | nil => simp at hd
          | cons s sa =>
            rename_i v vs d ds
            refine ⟨v, vs, rfl, ?_⟩
            have S1 := S.put (A := []) ct ⟨s, rfl⟩ (fun a h => by cases h) rfl
            refine h4 vs ds (σ.set i (some v)) H G fx _ _ Q S1 sa (by simpa using hd) fun σ' As' S' hj => k σ' As' S' fun j q => ?_
            simp only [List.mem_cons, not_or] at q
            rw [hj j q.2, List.getElem?_set_ne (Ne.symm q.1)]
      · cases c1
theorem tg_ok (g : Good X Γ cal) {tg : Tg} {te : Expr} (h : ckTg Γ tg te = true) : PG X te (tgT X.K tg) ∧
    ∀ (x : V) (d : PyData) (σ : L2.St) (H : Hp) (G : Addr → Prop) (fx : Nat → Option V) (env env' : Env) (As : Fp) (Q : L2.St → Hp → Prop), SR X.K Γ.ty G fx H σ env As → Sh X.K H x d → setTg tg d env = some env' →
      (∀ σ' As', SR X.K Γ.ty G fx H σ' env' As' → (∀ j, j ∉ tgSlots tg → σ'[j]? = σ[j]?) → Q σ' H) → tgT X.K tg x σ H Q := by
  unfold ckTg at h
  split at h
  · rename_i i x p
    rw [Bool.and_eq_true, decide_eq_true_eq] at h
    obtain ⟨h, ct⟩ := h
    obtain ⟨n1, n2, n3⟩ := stor_ok g h
    refine ⟨pg_name (by rw [g.hN]; exact g.nd) n1 n2 n3, fun x d σ H G fx env env' As Q S s e k => ?_⟩
    simp only [setTg] at e
    cases e
    exact k _ _ (S.put (A := []) ct ⟨s, rfl⟩ (fun a h => by cases h) rfl) fun j q => List.getElem?_set_ne (fun e => q (by subst e; exact List.mem_singleton_self _))
  · rename_i is es n p
    rw [Bool.and_eq_true, decide_eq_true_eq] at h
    obtain ⟨h1, h2, h3, h4⟩ := pgs_ok g is es h.1 h.2
    refine ⟨pg_tup g.calm h1 h2 h3, fun x d σ H G fx env env' As Q S s e k => ?_⟩
    simp only [setTg] at e
    split at e
    · rename_i ds
      split at e
      · rename_i hd
        cases e
        cases s with
        | tup hq sa => exact ⟨_, _, rfl, hq, by rw [sa.length]; exact hd, h4 _ ds σ H G fx env As Q S sa hd k⟩
      · cases e
    · cases e
  · cases h
end
end Dv
end
section
namespace PySem
open Sem (wp)
open AutoSeq1 (wpAny_loadPart')
/-! ### enumerate over a tuple -/
theorem meets_enumerate_newT (l : Addr) (items : Array Value) (n : Nat) (dct : Option Addr) (sl : Array (Option Value)) :
    Meets (Builtin.«enumerate.__new__» ⟨[.type "enumerate", .ref l], []⟩) (fun _ R s => s.heap.get? l = some { cls := .type "tuple", dict := dct, data := .seq items n, slots := sl } ∧
      R (.ok (.ret (.ref (s.heap.push { cls := .type "tuple_iterator", data := .fields #[.ref l, .int 0 0] }).objs.size)))
        { s with heap := (s.heap.push { cls := .type "tuple_iterator", data := .fields #[.ref l, .int 0 0] }).push { cls := .type "enumerate", data := .fields #[.none, .bool false, .ref s.heap.objs.size, rawInt 0, .none, .none] } }) :=
  .of_wp fun prog w A R s h => by
    obtain ⟨hp, g, d, tk, os⟩ := s; obtain ⟨hl, h⟩ := h
    have hsub := sub_enumerate
    have hL : Heap.IsTuple (Shared.heap ⟨hp, g, d, tk, os⟩) l items := ⟨_, hl, rfl, n, rfl⟩
    wp_walk using wpAny_loadPart' hl
    refine wpAny_stack_any fun st => wpAny_pure ?_
    split
    · rename_i c _ _ _ _ _
      cases (c == Value.type "enumerate")
      · wp_walk using wpAny_loadPart' hl, wpAny_pyIter_tuple hL
        exact ⟨_, rfl, h⟩
      · wp_walk using wpAny_loadPart' hl, wpAny_pyIter_tuple hL
        exact ⟨_, rfl, h⟩
    · wp_walk using wpAny_loadPart' hl, wpAny_pyIter_tuple hL
      exact ⟨_, rfl, h⟩
section
variable {prog : Program} {w : World} {A : Around} {E : Value → Shared → Prop} {s : Shared}
theorem call_enumerate_tuple {l : Addr} {items : Array Value} {Q : Value → Shared → Prop} (hL : s.heap.IsTuple l items)
    (h : ∀ h', IsEnum h' (s.heap.objs.size + 1) s.heap.objs.size 0 .none → h'.IsTupleIter s.heap.objs.size l 0 → h'.objs.size = s.heap.objs.size + 2 →
      (∀ b o, s.heap.get? b = some o → h'.get? b = some o) → Q (.ref (s.heap.objs.size + 1)) { s with heap := h' }) :
    wpAny (model prog w) A (call (.type "enumerate") [.ref l]) Q E s := by
  obtain ⟨⟨c, dct, dt, sl⟩, hl, hc, n, hd⟩ := hL
  replace hc : c = .type "tuple" := hc
  replace hd : dt = .seq items n := hd
  subst hc hd
  refine callType_new F.called_enumerate (by decide) (F.typeCall_enumerate_1 _) (F.newCall_enumerate_1 _) (fun obj => F.args_object_init_2 obj _) F.entry_enumerate_new
    (meets_enumerate_newT l items n dct sl) ⟨hl, ?_⟩
  have hz : (s.heap.push { cls := .type "tuple_iterator", data := .fields #[.ref l, .int 0 0] }).objs.size = s.heap.objs.size + 1 := Heap.size_push ..
  show _ ∧ _
  rw [hz]
  have he : IsEnum ((s.heap.push { cls := .type "tuple_iterator", data := .fields #[.ref l, .int 0 0] }).push
      { cls := .type "enumerate", data := .fields #[.none, .bool false, .ref s.heap.objs.size, rawInt 0, .none, .none] }) (s.heap.objs.size + 1) s.heap.objs.size 0 .none := by
    have := Heap.get?_push_size (s.heap.push { cls := .type "tuple_iterator", data := .fields #[.ref l, .int 0 0] })
      (o := { cls := .type "enumerate", data := .fields #[.none, .bool false, .ref s.heap.objs.size, rawInt 0, .none, .none] }) rfl
    rw [hz] at this; exact this
  refine ⟨⟨_, he, rfl⟩, h _ he ⟨_, Heap.get?_push_of_some _ (Heap.get?_push_size _ rfl), rfl, rfl⟩ (by rw [Heap.size_push, hz]) fun b o x => Heap.get?_push_of_some _ (Heap.get?_push_of_some _ x)⟩
end
end PySem
namespace Dv
open PySem PySem.Spec PyProof.Rows L2
def Iten (K : PySem.W.Frag) (a : Addr) : L2.It :=
  ⟨fun i H => ∃ (xs : List V) (x : V), SqT K H a xs ∧ xs[i]? = some x, fun i H v H' => ∃ T x, v = .ref T ∧ H T = none ∧ H' = upd H T (.tup [.int (i : Nat), x]) ∧ ∀ xs, SqT K H a xs → xs[i]? = some x, fun i H => ∃ xs : List V, SqT K H a xs ∧ xs.length = i⟩
theorem turn_enumT {P : Program} {w : World} {K : PySem.W.Frag} {elts : List Expr} {kk : Nat} {tpos : Pos} (a e it : Addr) :
    Turn P w K (.Tuple elts kk tpos) (Iten K a) [e, it] e (fun i h => (∃ old, IsEnum h e it ((i : Nat) : Int) old) ∧ h.IsTupleIter it a i ∧ e ≠ it) where
  mem := by simp
  obj := fun i h st b hb => by
    obtain ⟨⟨old, he⟩, ⟨o, ho, hc, hd⟩, _⟩ := st
    have e' : b = e ∨ b = it := by simpa using hb
    rcases e' with z | z
    · rw [z]; exact ⟨_, he, fun v q => nomatch q⟩
    · rw [z]; exact ⟨o, ho, fun v q => by rw [hd] at q; cases q⟩
  keep := fun i h h' st k => let ⟨⟨old, he⟩, hi, hne⟩ := st; ⟨⟨old, k e (by simp) _ he⟩, hi.at fun o q => k it (by simp) o q, hne⟩
  item := by
    intro X hP hw hK hc i pins s σ H E I hf st hg
    subst hP hw hK
    obtain ⟨⟨old, he⟩, hit, hne⟩ := st
    obtain ⟨xs, x, hq, hx⟩ := hg
    obtain ⟨its, rv, p, hz⟩ := I.tuple hq
    obtain ⟨u, hu, ru⟩ := rv.get hx
    have hel : e < s.heap.objs.size := Heap.lt_size he
    have hil : it < s.heap.objs.size := by obtain ⟨_, q, _⟩ := hit; exact Heap.lt_size q
    have hai : a ≠ it := fun z => by
      subst z
      obtain ⟨o1, q1, c1, _⟩ := hit
      obtain ⟨o2, q2, c2, _⟩ := p
      rw [q1] at q2; cases q2; exact absurd (c1.symm.trans c2) (by simp)
    have hea : e ≠ a := fun z => by
      subst z
      obtain ⟨o2, q2, c2, _⟩ := p
      have he' : s.heap.get? e = some _ := he
      rw [he'] at q2; cases q2; exact absurd c2 (by simp)
    have hi : i < its.toArray.size := by
      have := rv.length
      have := (List.getElem?_eq_some_iff.mp hx).1
      simp; omega
    refine wpAny_pyNext_enum_itemD (Draws.tuple (by rw [show X.A.in1.handled = X.A.handled from rfl]; exact I.ok.hd hc) it a hai its.toArray) he ⟨hit, p⟩ hi hne (by simp [hne, hea]) fun y h' tk hy ho hst hT hsz hk => ?_
    have hyu : y = u := by
      have : its.toArray[i]? = some u := by simpa using hu
      rw [hy] at this; exact Option.some.inj this
    subst hyu
    refine ⟨_, rfl, wpAny_letOwnedTupleGo_enum (s := { s with heap := h', toks := tk + 1 }) ho fun h'' he' sb => ?_⟩
    have hT2 : h''.get? s.heap.objs.size = some { cls := .type "tuple", data := .seq #[.int i tk, y] } := (sb.2 _ (Nat.ne_of_gt hel)).trans hT
    have new : ObjOk X.prog X.w (upd H s.heap.objs.size (.tup [.int (i : Nat), x])) h'' s.heap.objs.size (.tup [.int (i : Nat), x]) :=
      ⟨by show 2 ≤ sizeLine; decide, [.int i tk, y], .cons ⟨_, rfl⟩ (.cons ru .nil), ⟨_, hT2, rfl, _, rfl⟩⟩
    have I1 : L2.Inv X pins σ (upd H s.heap.objs.size (.tup [.int (i : Nat), x])) { s with heap := h'', toks := tk + 1 } :=
      I.turnedNew (ch := [e, it]) (fun b ob hb q => (sb.2 b (fun z => hb (by simp [z]))).trans (hk b ob (fun z => hb (by simp [z])) (fun z => hb (by simp [z])) q)) hf (Nat.le_refl _) new
    refine ⟨.ref s.heap.objs.size, _, I1, rfl, ⟨_, x, rfl, I.hok.fresh (Nat.le_refl _), rfl, fun ys hy => ?_⟩, ⟨⟨y, ?_⟩, hst.1.at fun o q => (sb.2 it (Ne.symm hne)).trans q, hne⟩, fun b hb => ?_⟩
    · have := I.tuple_inj hy hq
      rw [this]; exact hx
    · have e1 : ((i + 1 : Nat) : Int) = (i : Int) + 1 := by omega
      rw [e1]; exact he'
    · have hb' : b < s.heap.objs.size := by
        have e' : b = e ∨ b = it := by simpa using hb
        rcases e' with z | z
        · rw [z]; exact hel
        · rw [z]; exact hil
      rw [upd_ne (Nat.ne_of_lt hb')]
      exact (hf b hb).1
  done := by
    intro X hP hw hK hc i pins s σ H E I hf st hg
    subst hP hw hK
    obtain ⟨⟨old, he⟩, hit, hne⟩ := st
    obtain ⟨xs, hq, hx⟩ := hg
    obtain ⟨its, rv, p, hz⟩ := I.tuple hq
    obtain ⟨f0, f1, f2, f3, f4, f5⟩ := hf it (by simp)
    have hl := rv.length
    have e0 : i = its.toArray.size := by simp; omega
    subst e0
    have hai : a ≠ it := fun z => by
      subst z
      obtain ⟨o1, q1, c1, _⟩ := hit
      obtain ⟨o2, q2, c2, _⟩ := p
      rw [q1] at q2; cases q2; exact absurd (c1.symm.trans c2) (by simp)
    exact wpAny_pyNext_enum_endD (Draws.tuple (by rw [show X.A.in1.handled = X.A.handled from rfl]; exact I.ok.hd hc) it a hai its.toArray) he ⟨hit, p⟩ fun h' eb => ⟨rfl, I.turned (t' := s.toks) (fun b o hb q => eb b o hb q) f0 f1 f3 f4 f5⟩
  self := fun A i s Q E st h => let ⟨⟨_, he⟩, _⟩ := st; wpAny_pyIter_enum he h
def iEnumT (K : PySem.W.Frag) (ta : TA) : TI := fun σ H R => ta σ H fun vs H1 => ∃ a xs, vs = [.ref a] ∧ SqT K H1 a xs ∧ R (Iten K a) H1
theorem pi_enumT {X : Cx} {e : Expr} {ta : TA} {p pos tpos : Pos} {elts : List Expr} {kk : Nat} (hg : Gl X "enumerate") (hm : X.mg "enumerate" = none) (ha : PA X [e] ta) (hs : starEach [e] X.env = [(false, eval e X.env)] := by rfl) :
    PI X (.Tuple elts kk tpos) (.Call (.Name "enumerate" p) [e] [] pos) (iEnumT X.K ta) := by
  refine ⟨fun pins s σ H R I h => ?_⟩
  refine Call_ (ld_blt I hg hm boot_enumerate (PyProof.Rows.callWith_type1 (thn (ha.run pos pins s σ H _ I h) fun us s1 ⟨vs, H1, I1, r1, q1⟩ => ?_) hs rfl))
  obtain ⟨a, xs, ex, hq, q⟩ := q1
  subst ex
  cases r1 with
  | cons r rr =>
    cases rr
    cases r
    obtain ⟨its, rv, p', hz⟩ := I1.tuple hq
    refine call_enumerate_tuple p' fun h' he hit hsz hk => wpAny_pyIter_enum he ?_
    have I2 : L2.Inv X pins σ H1 { s1 with heap := h' } := I1.kept (t' := s1.toks) hk
    refine ⟨s1.heap.objs.size + 1, [s1.heap.objs.size + 1, s1.heap.objs.size], _, _, H1, rfl, I2, turn_enumT a (s1.heap.objs.size + 1) s1.heap.objs.size, ⟨⟨.none, he⟩, hit, Nat.succ_ne_self _⟩, fun b hb => ?_, q⟩
    have e' : b = s1.heap.objs.size + 1 ∨ b = s1.heap.objs.size := by simpa using hb
    have hle : s1.heap.objs.size ≤ b := by
      rcases e' with z | z
      · rw [z]; exact Nat.le_add_right _ _
      · rw [z]; exact Nat.le_refl _
    exact I1.fpOk hle (I1.hok.fresh hle)
theorem walk_enumT {K : PySem.W.Frag} {a : Addr} {xs : List V} : Walk (Iten K a) xs.length (fun H => SqT K H a xs) (YPair (fun i => some (.int (i : Nat))) (fun i => xs[i]?)) := by
  refine ⟨fun i _ hi q => ⟨xs, xs[i], q, by simp [hi]⟩, fun _ q => ⟨xs, q, rfl⟩, fun i H v H' _ q y => ?_⟩
  obtain ⟨T, x, h1, h2, h3, h4⟩ := y
  exact ⟨T, .int (i : Nat), x, h1, h2, h3, rfl, h4 xs q⟩
end Dv
end
section
namespace Dv
open PySem PySem.Spec PyProof.Rows L2

/-! ### what is walked, by data -/
def Wk (K : PySem.W.Frag) (Gst : Hp → Prop) (J : L2.It) (ds : List PyData) : Prop := Walk J ds.length Gst fun i H x H' => Same H H' ∧ ∃ d, ds[i]? = some d ∧ Sh K H' x d
def TDi (K : PySem.W.Frag) (ty lk : List Ty) (ev : Env → Res (List PyData)) : TI := fun σ H R => ∃ G fx env As ds env', SR K ty G fx H σ env As ∧ ev env = .ok ds env' ∧
  ∀ (J : L2.It) (H' : Hp) (G' : Addr → Prop) (fx' : Nat → Option V) (As' : Fp) (Gst : Hp → Prop), SR K lk G' fx' H' σ env' As' → (∀ a, G a → G' a) → Fr G H H' → Ext H H' → Gst H' → (∀ H1 H2, Gst H1 → Fr G' H1 H2 → Ext H1 H2 → Gst H2) → Wk K Gst J ds →
    (∀ H2 σ2 env2 As2, SR K lk G' fx' H2 σ2 env2 As2 → Fr G' H' H2 → Ext H' H2 → ∃ As3, SR K ty G fx H2 σ2 env2 As3 ∧ ∀ j a, a ∈ As3 j → a ∈ As2 j ∨ G' a) → R J H'
theorem pi_or {X : Cx} {tg e : Expr} {w1 w2 : TI} (h1 : PI X tg e w1) (h2 : PI X tg e w2) : PI X tg e fun σ H R => w1 σ H R ∨ w2 σ H R :=
  ⟨fun pins s σ H R I h => h.elim (h1.run pins s σ H R I) (h2.run pins s σ H R I)⟩
theorem piImp {X : Cx} {tg e : Expr} {t t' : TI} (h : PI X tg e t) (i : ∀ σ H Q, t' σ H Q → t σ H Q) : PI X tg e t' := ⟨fun pins s σ H Q I q => h.run pins s σ H Q I (i σ H Q q)⟩
section
variable {K : PySem.W.Frag} {a : Addr} {ws : List V} {ds : List PyData}
theorem wk_list {Gst : Hp → Prop} (h : ∀ H, Gst H → SqL K H a ws ∧ ShA K H ws ds) (hl : ws.length = ds.length) : Wk K Gst (Itl K a) ds := by
  unfold Wk
  rw [← hl]
  refine (walk_list (K := K) (a := a) (xs := ws)).mono (fun H g => (h H g).1) fun i H x H' hi g y => ?_
  obtain ⟨rfl, e⟩ := y
  obtain ⟨v, z1, z2⟩ := (h _ g).2.get (List.getElem?_eq_getElem (show i < ds.length by omega))
  rw [e] at z1; cases z1
  exact ⟨fun _ _ h => h, _, List.getElem?_eq_getElem (by omega), z2⟩
theorem wk_tup {Gst : Hp → Prop} (h : ∀ H, Gst H → SqT K H a ws ∧ ShA K H ws ds) (hl : ws.length = ds.length) : Wk K Gst (Itt K a) ds := by
  unfold Wk
  rw [← hl]
  refine (walk_tup (K := K) (a := a) (xs := ws)).mono (fun H g => (h H g).1) fun i H x H' hi g y => ?_
  obtain ⟨rfl, e⟩ := y
  obtain ⟨v, z1, z2⟩ := (h _ g).2.get (List.getElem?_eq_getElem (show i < ds.length by omega))
  rw [e] at z1; cases z1
  exact ⟨fun _ _ h => h, _, List.getElem?_eq_getElem (by omega), z2⟩
theorem wk_str {Gst : Hp → Prop} {z : Str} : Wk K Gst (Its z) (z.cps.toList.map fun c => .str ⟨#[c]⟩) := by
  unfold Wk
  have e : (z.cps.toList.map fun c => PyData.str ⟨#[c]⟩).length = z.cps.size := by simp
  rw [e]
  refine (walk_str (z := z)).mono (fun H g => True.intro) fun i H x H' hi g y => ?_
  obtain ⟨rfl, c, h1, rfl⟩ := y
  exact ⟨fun _ _ h => h, .str ⟨#[c]⟩, by simp [h1], .str _⟩
theorem wk_rng {Gst : Hp → Prop} {lo : Int} {n : Nat} : Wk K Gst (Itr lo n) ((List.range n).map fun (k : Nat) => .int (lo + (k : Int))) := by
  unfold Wk
  have e : ((List.range n).map fun (k : Nat) => PyData.int (lo + (k : Int))).length = n := by simp
  rw [e]
  refine (walk_range (lo := lo) (n := n)).mono (fun H g => True.intro) fun i H x H' hi g y => ?_
  obtain ⟨rfl, rfl⟩ := y
  exact ⟨fun _ _ h => h, .int (lo + (i : Int)), by simp [hi], .int _⟩
end
section
variable {X : Cx} {Γ : Gam} {cal : Nat → List PyData → CRes} {e x y z tg : Expr} {a : E} {pos p2 p : Pos}
theorem it_slot (g : Good X Γ cal) {i : Nat} {m : Md} {nx : Str} (hx : slotB Γ i nx = true) (ht : Γ.ty[i]? = some (.lst m)) :
    PI X tg (.Name nx p) (TDi X.K Γ.ty (Γ.ty.set i (.lst .bor)) (evIt cal (.seq (.b i)))) := by
  obtain ⟨h1, h2, h3, h4⟩ := slot_ok g hx
  refine piImp (pi_list (pe_var h1 h2 h3 h4)) fun σ H R ⟨G, fx, env, As, ds, env', S, e, k⟩ => ?_
  simp only [evIt] at e
  split at e
  · cases e
  · rename_i d hf
    split at e
    · rename_i xs hx
      cases e
      obtain ⟨a, ws, es, hσ, rfl, sa, S', st, un⟩ := S.lock ht hf
      cases hx
      refine ⟨_, hσ, a, rfl, ⟨ws, st H (Fr.refl _ _) (Ext.refl _)⟩, ?_⟩
      refine k _ H _ _ _ (fun H2 => Fr (gLock G As i) H H2 ∧ Ext H H2) S' (fun a g => .inl g) (Fr.refl _ _) (Ext.refl _) ⟨Fr.refl _ _, Ext.refl _⟩ (fun H1 H2 q f x => ⟨q.1.trans f, q.2.trans x⟩) (wk_list (fun H2 q => ⟨st H2 q.1 q.2, sa.ext q.2⟩) sa.length) ?_
      intro H2 σ2 env2 As2 S2 f2 x2
      refine ⟨_, un H2 σ2 env2 As2 S2 f2 x2, fun j b hb => ?_⟩
      by_cases hj : j = i
      · rw [if_pos hj] at hb; exact .inr (.inr hb)
      · rw [if_neg hj] at hb; exact .inl hb
    · cases e
theorem evIt_seq {env : Env} (h : ∀ i, a ≠ .b i) : evIt cal (.seq a) env = (evE cal a env).bind fun d env => match itemsD d with | some xs => .ok xs env | none => .bad := by
  cases a <;> first | rfl | exact absurd rfl (h _)
theorem it_seq (hn : ∀ i, a ≠ .b i) (he : PE X e (TDe X.K Γ.ty (evE cal a) .sh)) : PI X tg e (TDi X.K Γ.ty Γ.ty (evIt cal (.seq a))) := by
  refine piImp (pi_or (pi_list he) (pi_or (pi_tup he) (pi_str he))) fun σ H R ⟨G, fx, env, As, ds, env', S, e, k⟩ => ?_
  rw [evIt_seq hn] at e
  obtain ⟨d, env1, e1, e2⟩ := bind_ok e
  split at e2
  · rename_i xs hx
    cases e2
    have un : ∀ (H' : Hp), ∀ H2 σ2 env2 As2, SR X.K Γ.ty G fx H2 σ2 env2 As2 → Fr G H' H2 → Ext H' H2 → ∃ As3, SR X.K Γ.ty G fx H2 σ2 env2 As3 ∧ ∀ j a, a ∈ As3 j → a ∈ As2 j ∨ G a := fun H' H2 σ2 env2 As2 S2 _ _ => ⟨As2, S2, fun j a h => .inl h⟩
    cases d with
    | list es =>
      cases hx
      refine .inl ⟨G, fx, env, As, _, env', S, e1, fun v H' As' A S' r _ f x => ?_⟩
      obtain ⟨h, _⟩ := r.sh_inv
      cases h with
      | lst hq sa => exact ⟨_, rfl, ⟨_, .inl hq.rd⟩, k _ H' G fx As' (Ext H') S' (fun a g => g) f x (Ext.refl _) (fun H1 H2 q _ x => q.trans x) (wk_list (fun H2 q => ⟨.inl (q.fzL hq).rd, sa.ext q⟩) sa.length) (un H')⟩
    | tuple es =>
      cases hx
      refine .inr (.inl ⟨G, fx, env, As, _, env', S, e1, fun v H' As' A S' r _ f x => ?_⟩)
      obtain ⟨h, _⟩ := r.sh_inv
      cases h with
      | tup hq sa => exact ⟨_, rfl, ⟨_, hq⟩, k _ H' G fx As' (Ext H') S' (fun a g => g) f x (Ext.refl _) (fun H1 H2 q _ x => q.trans x) (wk_tup (fun H2 q => ⟨q.sqT hq, sa.ext q⟩) sa.length) (un H')⟩
    | str z =>
      refine .inr (.inr ⟨G, fx, env, As, _, env', S, e1, fun v H' As' A S' r _ f x => ?_⟩)
      obtain ⟨h, _⟩ := r.sh_inv
      cases h
      simp only [itemsD] at hx
      split at hx
      · cases hx
        exact ⟨_, rfl, k _ H' G fx As' (fun _ => True) S' (fun a g => g) f x True.intro (fun _ _ _ _ _ => True.intro) wk_str (un H')⟩
      · cases hx
    | _ => cases hx
  · cases e2
theorem it_rng {f : Str} {as : List E} {es : List Expr} (g : Good X Γ cal) (hf : f = "range") (hg : glB Γ f = true) (ha : PEs X Γ cal as es) (hl : es.length = 1 ∨ es.length = 2) :
    PI X tg (.Call (.Name f p) es [] pos) (TDi X.K Γ.ty Γ.ty (evIt cal (.rng as))) := by
  obtain ⟨h1, h2, h3⟩ := gl_ok g hg
  subst hf
  have hm := g.blt "range" (by decide +kernel)
  have un : ∀ {G fx} (H' : Hp), ∀ H2 σ2 env2 As2, SR X.K Γ.ty G fx H2 σ2 env2 As2 → Fr G H' H2 → Ext H' H2 → ∃ As3, SR X.K Γ.ty G fx H2 σ2 env2 As3 ∧ ∀ j a, a ∈ As3 j → a ∈ As2 j ∨ G a := fun H' H2 σ2 env2 As2 S2 _ _ => ⟨As2, S2, fun j a h => .inl h⟩
  cases ha with
  | nil => simp at hl
  | cons n1 q1 t1 =>
    cases t1 with
    | nil =>
      obtain ⟨t, p1, p2⟩ := (PEs.cons n1 q1 .nil).pa
      refine piImp (pi_range1 h1 hm p1 (by rw [star_ns n1]; rfl)) fun σ H R ⟨G, fx, env, As, ds, env', S, e, k⟩ => ?_
      simp only [evIt] at e
      obtain ⟨vs, env1, e1, e2⟩ := bind_ok e
      split at e2
      · rename_i xs hx
        cases e2
        refine p2 σ H _ ⟨G, fx, env, As, vs, env', S, e1, fun us H' As' S' sa f x => ?_⟩
        unfold rngD at hx
        split at hx
        · rename_i j
          split at hx
          · rename_i hj
            cases hx
            cases sa with
            | cons s sa =>
              cases sa; cases s
              refine ⟨j, rfl, hj.1, hj.2, k _ H' G fx As' (fun _ => True) S' (fun a g => g) f x True.intro (fun _ _ _ _ _ => True.intro) ?_ (un H')⟩
              have := wk_rng (K := X.K) (Gst := fun _ => True) (lo := 0) (n := j.toNat)
              simpa using this
          · cases hx
        · simp only [evEs] at e1
          obtain ⟨_, _, _, e3⟩ := bind_ok e1
          obtain ⟨_, _, e4, e5⟩ := bind_ok e3
          cases e4; cases e5
        · cases hx
      · cases e2
    | cons n2 q2 t2 =>
      cases t2 with
      | cons _ _ _ => simp at hl
      | nil =>
        obtain ⟨t, p1, p2⟩ := (PEs.cons n1 q1 (.cons n2 q2 .nil)).pa
        refine piImp (pi_range2 h1 hm p1 (by rw [star_ns n1, star_ns n2]; rfl) (by rw [star_ns n2]; rfl)) fun σ H R ⟨G, fx, env, As, ds, env', S, e, k⟩ => ?_
        simp only [evIt] at e
        obtain ⟨vs, env1, e1, e2⟩ := bind_ok e
        split at e2
        · rename_i xs hx
          cases e2
          refine p2 σ H _ ⟨G, fx, env, As, vs, env', S, e1, fun us H' As' S' sa f x => ?_⟩
          unfold rngD at hx
          split at hx
          · simp only [evEs] at e1
            obtain ⟨_, _, _, e3⟩ := bind_ok e1
            obtain ⟨_, _, e4, e5⟩ := bind_ok e3
            obtain ⟨_, _, _, e6⟩ := bind_ok e4
            cases e6; cases e5
          · rename_i i j
            split at hx
            · rename_i hj
              cases hx
              cases sa with
              | cons s sa =>
                cases sa with
                | cons s2 sa =>
                  cases sa; cases s; cases s2
                  exact ⟨i, j, rfl, hj, k _ H' G fx As' (fun _ => True) S' (fun a g => g) f x True.intro (fun _ _ _ _ _ => True.intro) wk_rng (un H')⟩
            · cases hx
          · cases hx
        · cases e2
theorem sh_pair {K : PySem.W.Frag} {H H' : Hp} {T : Addr} {x y : V} {a b : PyData} (hn : H T = none) (e : H' = upd H T (.tup [x, y])) (hx : Sh K H x a) (hy : Sh K H y b) : Same H H' ∧ Sh K H' (.ref T) (.tuple [a, b]) := by
  subst e
  have sm : Same H (upd H T (.tup [x, y])) := fun b o h => by
    rw [upd_ne fun e => by subst e; rw [hn] at h; cases h]; exact h
  have xe := Ext.of_same sm
  exact ⟨sm, .tup (.inl (.inl upd_same)) (.cons (hx.ext xe) (.cons (hy.ext xe) .nil))⟩
theorem wk_enm {K : PySem.W.Frag} {J : L2.It} {ws : List V} {ds : List PyData} {Gst St : Hp → Prop} (W : Walk J ws.length St (YPair (fun i => some (.int (i : Nat))) (fun i => ws[i]?))) (h : ∀ H, Gst H → St H ∧ ShA K H ws ds) :
    Wk K Gst J (ds.mapIdx fun i x => .tuple [.int ((i : Nat) : Int), x]) ∨ ws.length ≠ ds.length := by
  by_cases hl : ws.length = ds.length
  · refine .inl ?_
    unfold Wk
    rw [List.length_mapIdx, ← hl]
    refine W.mono (fun H g => (h H g).1) fun i H x H' hi g y => ?_
    obtain ⟨T, a, b, rfl, hn, e, ea, eb⟩ := y
    obtain ⟨v, z1, z2⟩ := (h _ g).2.get (List.getElem?_eq_getElem (show i < ds.length by omega))
    simp only at ea eb
    rw [eb] at z1; cases z1; cases ea
    obtain ⟨sm, sp⟩ := sh_pair hn e (.int _) z2
    exact ⟨sm, _, by rw [List.getElem?_mapIdx, List.getElem?_eq_getElem (show i < ds.length by omega)]; rfl, sp⟩
  · exact .inr hl
theorem wk_zp {K : PySem.W.Frag} {J : L2.It} {ws us : List V} {ds es : List PyData} {Gst St : Hp → Prop} (W : Walk J (min ws.length us.length) St (YPair (fun i => ws[i]?) (fun i => us[i]?))) (h : ∀ H, Gst H → St H ∧ ShA K H ws ds ∧ ShA K H us es) (h1 : ws.length = ds.length) (h2 : us.length = es.length) :
    Wk K Gst J (List.zipWith (fun x y => .tuple [x, y]) ds es) := by
  unfold Wk
  rw [List.length_zipWith, ← h1, ← h2]
  refine W.mono (fun H g => (h H g).1) fun i H x H' hi g y => ?_
  obtain ⟨T, a, b, rfl, hn, e, ea, eb⟩ := y
  obtain ⟨_, g1, g2⟩ := h _ g
  have i1 : i < ds.length := by omega
  have i2 : i < es.length := by omega
  obtain ⟨v, z1, z2⟩ := g1.get (List.getElem?_eq_getElem i1)
  obtain ⟨w, z3, z4⟩ := g2.get (List.getElem?_eq_getElem i2)
  simp only at ea eb
  rw [ea] at z1; cases z1
  rw [eb] at z3; cases z3
  obtain ⟨sm, sp⟩ := sh_pair hn e z2 z4
  exact ⟨sm, _, by rw [List.getElem?_zipWith, List.getElem?_eq_getElem i1, List.getElem?_eq_getElem i2], sp⟩
theorem walk_zipT {K : PySem.W.Frag} {a b : Addr} {xs ys : List V} : Walk (RZ.ItzT K a b) (min xs.length ys.length) (fun H => SqT K H a xs ∧ SqT K H b ys) (YPair (fun i => xs[i]?) (fun i => ys[i]?)) := by
  refine ⟨fun i _ hi q => ⟨xs, ys, xs[i], ys[i], q.1, q.2, List.getElem?_eq_getElem (by omega), List.getElem?_eq_getElem (by omega)⟩, fun _ q => ⟨xs, ys, q.1, q.2, by omega⟩, fun i H v H' _ q y => ?_⟩
  obtain ⟨T, x, z, h1, h2, h3, h4, h5⟩ := y
  exact ⟨T, x, z, h1, h2, h3, h4 xs q.1, h5 ys q.2⟩
theorem it_enm {f : Str} {as : List E} {es : List Expr} (g : Good X Γ cal) (hf : f = "enumerate") (hg : glB Γ f = true) (ha : PEs X Γ cal as es) (hl : es.length = 1) (ht : itTg (.enm as) tg = true) :
    PI X tg (.Call (.Name f p) es [] pos) (TDi X.K Γ.ty Γ.ty (evIt cal (.enm as))) := by
  obtain ⟨h1, h2, h3⟩ := gl_ok g hg
  subst hf
  have hm := g.blt "enumerate" (by decide +kernel)
  obtain ⟨elts, kk, tpos, rfl⟩ : ∃ a b c, tg = .Tuple a b c := by
    cases tg <;> first | exact ⟨_, _, _, rfl⟩ | (simp only [itTg] at ht; cases ht)
  have un : ∀ {G fx} (H' : Hp), ∀ H2 σ2 env2 As2, SR X.K Γ.ty G fx H2 σ2 env2 As2 → Fr G H' H2 → Ext H' H2 → ∃ As3, SR X.K Γ.ty G fx H2 σ2 env2 As3 ∧ ∀ j a, a ∈ As3 j → a ∈ As2 j ∨ G a := fun H' H2 σ2 env2 As2 S2 _ _ => ⟨As2, S2, fun j a h => .inl h⟩
  cases ha with
  | nil => simp at hl
  | cons n1 q1 t1 =>
    cases t1 with
    | cons _ _ _ => simp at hl
    | nil =>
      obtain ⟨t, p1, p2⟩ := (PEs.cons n1 q1 .nil).pa
      have hs := star_ns (es := []) (env := X.env) n1
      refine piImp (pi_or (pi_enum h1 hm p1 (by rw [hs]; rfl)) (pi_enumT h1 hm p1 (by rw [hs]; rfl))) fun σ H R ⟨G, fx, env, As, ds, env', S, e, k⟩ => ?_
      simp only [evIt] at e
      obtain ⟨vs, env1, e1, e2⟩ := bind_ok e
      split at e2
      · rename_i xs hx
        cases e2
        unfold enmD at hx
        split at hx
        · cases hx
          refine .inl (p2 σ H _ ⟨G, fx, env, As, _, env', S, e1, fun us H' As' S' sa f x => ?_⟩)
          cases sa with
          | cons s sa =>
            cases sa
            cases s with
            | lst hq sa =>
              refine ⟨_, _, rfl, .inl hq.rd, ?_⟩
              rcases wk_enm (K := X.K) (Gst := Ext H') (walk_enum (K := X.K)) (fun H2 q => ⟨.inl (q.fzL hq).rd, sa.ext q⟩) with w | w
              · exact k _ H' G fx As' (Ext H') S' (fun a g => g) f x (Ext.refl _) (fun H1 H2 q _ x => q.trans x) w (un H')
              · exact absurd sa.length w
        · cases hx
          refine .inr (p2 σ H _ ⟨G, fx, env, As, _, env', S, e1, fun us H' As' S' sa f x => ?_⟩)
          cases sa with
          | cons s sa =>
            cases sa
            cases s with
            | tup hq sa =>
              refine ⟨_, _, rfl, hq, ?_⟩
              rcases wk_enm (K := X.K) (Gst := Ext H') (walk_enumT (K := X.K)) (fun H2 q => ⟨q.sqT hq, sa.ext q⟩) with w | w
              · exact k _ H' G fx As' (Ext H') S' (fun a g => g) f x (Ext.refl _) (fun H1 H2 q _ x => q.trans x) w (un H')
              · exact absurd sa.length w
        · cases hx
      · cases e2
theorem it_zip {f : Str} {as : List E} {es : List Expr} (g : Good X Γ cal) (hf : f = "zip") (hg : glB Γ f = true) (ha : PEs X Γ cal as es) (hl : es.length = 2) (ht : itTg (.zip as) tg = true) :
    PI X tg (.Call (.Name f p) es [] pos) (TDi X.K Γ.ty Γ.ty (evIt cal (.zip as))) := by
  obtain ⟨h1, h2, h3⟩ := gl_ok g hg
  subst hf
  have hm := g.blt "zip" (by decide +kernel)
  obtain ⟨elts, kk, tpos, rfl⟩ : ∃ a b c, tg = .Tuple a b c := by
    cases tg <;> first | exact ⟨_, _, _, rfl⟩ | (simp only [itTg] at ht; cases ht)
  have un : ∀ {G fx} (H' : Hp), ∀ H2 σ2 env2 As2, SR X.K Γ.ty G fx H2 σ2 env2 As2 → Fr G H' H2 → Ext H' H2 → ∃ As3, SR X.K Γ.ty G fx H2 σ2 env2 As3 ∧ ∀ j a, a ∈ As3 j → a ∈ As2 j ∨ G a := fun H' H2 σ2 env2 As2 S2 _ _ => ⟨As2, S2, fun j a h => .inl h⟩
  cases ha with
  | nil => simp at hl
  | cons n1 q1 t1 =>
    cases t1 with
    | nil => simp at hl
    | cons n2 q2 t2 =>
      cases t2 with
      | cons _ _ _ => simp at hl
      | nil =>
        obtain ⟨t, p1, p2⟩ := (PEs.cons n1 q1 (.cons n2 q2 .nil)).pa
        refine piImp (RZ.pi_zipA h1 hm p1 (by rw [star_ns n1]) (by rw [star_ns n2]; rfl)) fun σ H R ⟨G, fx, env, As, ds, env', S, e, k⟩ => ?_
        simp only [evIt] at e
        obtain ⟨vs, env1, e1, e2⟩ := bind_ok e
        split at e2
        · rename_i xs hx
          cases e2
          refine p2 σ H _ ⟨G, fx, env, As, _, env', S, e1, fun us H' As' S' sa f x => ?_⟩
          unfold zipD at hx
          split at hx
          · cases hx
            cases sa with
            | cons s sa =>
              cases sa with
              | cons s2 sa =>
                cases sa
                cases s with
                | lst hq sa =>
                  cases s2 with
                  | lst hq2 sa2 =>
                    exact ⟨_, _, _, _, rfl, .inl ⟨.inl hq.rd, .inl hq2.rd, k _ H' G fx As' (Ext H') S' (fun a g => g) f x (Ext.refl _) (fun H1 H2 q _ x => q.trans x) (wk_zp (walk_zip (K := X.K) rfl) (fun H2 q => ⟨⟨.inl (q.fzL hq).rd, .inl (q.fzL hq2).rd⟩, sa.ext q, sa2.ext q⟩) sa.length sa2.length) (un H')⟩⟩
          · cases hx
            cases sa with
            | cons s sa =>
              cases sa with
              | cons s2 sa =>
                cases sa
                cases s with
                | tup hq sa =>
                  cases s2 with
                  | tup hq2 sa2 =>
                    exact ⟨_, _, _, _, rfl, .inr ⟨hq, hq2, k _ H' G fx As' (Ext H') S' (fun a g => g) f x (Ext.refl _) (fun H1 H2 q _ x => q.trans x) (wk_zp (walk_zipT (K := X.K)) (fun H2 q => ⟨⟨q.sqT hq, q.sqT hq2⟩, sa.ext q, sa2.ext q⟩) sa.length sa2.length) (un H')⟩⟩
          · cases hx
        · cases e2
end
end Dv
end
section
namespace Dv
open PySem PySem.Spec PyProof.Rows L2

theorem wipeE_in {env : Env} {j : Nat} {d : PyData} : ∀ {vs : List Nat}, j ∈ vs → (wipeE vs env)[j]? ≠ some (some d)
  | i :: is, h => by
    simp only [wipeE]
    by_cases hj : i = j
    · subst hj
      by_cases hl : i < (wipeE is env).length
      · rw [List.getElem?_set_self hl]; simp
      · rw [List.getElem?_eq_none (by rw [List.length_set]; omega)]; simp
    · rw [List.getElem?_set_ne hj]
      exact wipeE_in (by rcases List.mem_cons.mp h with e | e; exact absurd e.symm hj; exact e)
theorem wipeE_out {env : Env} {j : Nat} : ∀ {vs : List Nat}, j ∉ vs → (wipeE vs env)[j]? = env[j]?
  | [], _ => rfl
  | i :: is, h => by
    simp only [List.mem_cons, not_or] at h
    simp only [wipeE]
    rw [List.getElem?_set_ne (Ne.symm h.1)]
    exact wipeE_out h.2
theorem wipeE_len {env : Env} : ∀ {vs : List Nat}, (wipeE vs env).length = env.length
  | [] => rfl
  | i :: is => by simp only [wipeE]; rw [List.length_set]; exact wipeE_len
theorem backE_len {old env : Env} : ∀ {vs : List Nat}, (backE vs old env).length = env.length
  | [] => rfl
  | i :: is => by simp only [backE]; rw [List.length_set]; exact backE_len
theorem backE_out {old env : Env} {j : Nat} : ∀ {vs : List Nat}, j ∉ vs → (backE vs old env)[j]? = env[j]?
  | [], _ => rfl
  | i :: is, h => by
    simp only [List.mem_cons, not_or] at h
    simp only [backE]
    rw [List.getElem?_set_ne (Ne.symm h.1)]
    exact backE_out h.2
theorem backE_in {old env : Env} {j : Nat} {d : PyData} : ∀ {vs : List Nat}, j ∈ vs → (backE vs old env)[j]? = some (some d) → old[j]? = some (some d)
  | i :: is, h, e => by
    simp only [backE] at e
    by_cases hj : i = j
    · subst hj
      by_cases hl : i < (backE is old env).length
      · rw [List.getElem?_set_self hl] at e
        have e2 : old[i]?.join = some d := Option.some.inj e
        exact fetch_some e2
      · rw [List.getElem?_eq_none (by rw [List.length_set]; omega)] at e; cases e
    · rw [List.getElem?_set_ne hj] at e
      exact backE_in (by rcases List.mem_cons.mp h with e | e; exact absurd e.symm hj; exact e) e
theorem wipe_out {σ : L2.St} {j : Nat} : ∀ {vs : List Nat}, j ∉ vs → (wipe σ vs)[j]? = σ[j]?
  | [], _ => rfl
  | i :: is, h => by
    simp only [List.mem_cons, not_or] at h
    unfold wipe
    rw [List.getElem?_set_ne (Ne.symm h.1)]
    exact wipe_out h.2
theorem wipe_in {σ : L2.St} {j : Nat} : ∀ {vs : List Nat}, j ∈ vs → j < σ.length → (wipe σ vs)[j]? = some none
  | i :: is, h, hl => by
    unfold wipe
    by_cases hj : i = j
    · subst hj
      exact List.getElem?_set_self (by rw [wipe_length]; exact hl)
    · rw [List.getElem?_set_ne hj]
      exact wipe_in (by rcases List.mem_cons.mp h with e | e; exact absurd e.symm hj; exact e) hl
theorem wipe_eq {σ σ' : L2.St} {vs : List Nat} (hl : σ'.length = σ.length) (h : ∀ j, j ∉ vs → σ'[j]? = σ[j]?) : wipe σ' vs = wipe σ vs := by
  apply List.ext_getElem?
  intro j
  by_cases hj : j ∈ vs
  · by_cases hb : j < σ.length
    · rw [wipe_in hj hb, wipe_in hj (by omega)]
    · rw [List.getElem?_eq_none (by rw [wipe_length]; omega), List.getElem?_eq_none (by rw [wipe_length]; omega)]
  · rw [wipe_out hj, wipe_out hj, h j hj]
theorem wipe_wipe {σ : L2.St} {vs : List Nat} : wipe (wipe σ vs) vs = wipe σ vs := wipe_eq (wipe_length _ _) fun j h => wipe_out h
section
variable {K : PySem.W.Frag} {ty : List Ty} {G G' : Addr → Prop} {fx : Nat → Option V} {H H' : Hp} {σ σ' : L2.St} {env env' : Env} {As As' : Fp}
theorem SR.wipe (S : SR K ty G fx H σ env As) {vs : List Nat} (hv : ∀ i ∈ vs, ty[i]? = some .sh) (hl : σ'.length = σ.length) (h : ∀ j, j ∉ vs → σ'[j]? = σ[j]?) : SR K ty G fx H σ' (wipeE vs env) As := by
  have nv : ∀ {j τ}, ty[j]? = some τ → setB τ = false → j ∉ vs := fun q1 q2 hm => by rw [hv _ hm] at q1; cases q1; cases q2
  refine ⟨hl.trans S.ls, wipeE_len.trans S.le, fun j τ d q1 q2 => ?_, fun j w q => ?_, S.fxo, S.dj, S.off, S.gk, fun j τ q1 q2 => ?_⟩
  · by_cases hj : j ∈ vs
    · exact absurd q2 (wipeE_in hj)
    · rw [wipeE_out hj] at q2
      obtain ⟨v, z1, z2⟩ := S.sl j τ d q1 q2
      exact ⟨v, (h j hj).trans z1, z2⟩
  · obtain ⟨τ, q3, q4⟩ := S.fxo j w q
    obtain ⟨q1, d, q2⟩ := S.fix j w q
    have hj := nv q3 q4
    exact ⟨(h j hj).trans q1, d, (wipeE_out hj).trans q2⟩
  · obtain ⟨d, q3⟩ := S.al j τ q1 q2
    exact ⟨d, (wipeE_out (nv q1 q2)).trans q3⟩
theorem SR.back (S1 : SR K ty G fx H σ env As) {vs : List Nat} (hv : ∀ i ∈ vs, ty[i]? = some .sh) (S : SR K ty G fx H' (L2.wipe σ vs) (wipeE vs env') As') (x : Ext H H') : SR K ty G fx H' σ (backE vs env env') (fun j => if j ∈ vs then [] else As' j) := by
  have nv : ∀ {j τ}, ty[j]? = some τ → setB τ = false → j ∉ vs := fun q1 q2 hm => by rw [hv _ hm] at q1; cases q1; cases q2
  have le : env'.length = ty.length := wipeE_len.symm.trans S.le
  refine ⟨S1.ls, backE_len.trans le, fun j τ d q1 q2 => ?_, fun j w q => ?_, S.fxo, fun i j a h1 h2 => ?_, fun i a h => ?_, S.gk, fun j τ q1 q2 => ?_⟩
  · by_cases hj : j ∈ vs
    · have := backE_in hj q2
      rw [hv j hj] at q1; cases q1
      obtain ⟨v, z1, z2⟩ := S1.sl j _ d (hv j hj) this
      exact ⟨v, z1, z2.1.ext x, if_pos hj⟩
    · rw [backE_out hj] at q2
      obtain ⟨v, z1, z2⟩ := S.sl j τ d q1 ((wipeE_out hj).trans q2)
      exact ⟨v, (wipe_out hj).symm.trans z1, by rw [if_neg hj]; exact z2⟩
  · obtain ⟨τ, q3, q4⟩ := S.fxo j w q
    obtain ⟨q1, d, q2⟩ := S.fix j w q
    have hj := nv q3 q4
    exact ⟨(wipe_out hj).symm.trans q1, d, (backE_out hj).trans ((wipeE_out hj).symm.trans q2)⟩
  · split at h1
    · cases h1
    · split at h2
      · cases h2
      · exact S.dj i j a h1 h2
  · split at h
    · cases h
    · exact S.off i a h
  · obtain ⟨d, q3⟩ := S.al j τ q1 q2
    have hj := nv q1 q2
    exact ⟨d, (backE_out hj).trans ((wipeE_out hj).symm.trans q3)⟩
end

/-! ### comprehensions -/
def TDf (K : PySem.W.Frag) (ty : List Ty) (ev : Env → Res Bool) : TT := fun σ H Q => ∃ G fx env As b env', SR K ty G fx H σ env As ∧ ev env = .ok b env' ∧ ∀ H' As', SR K ty G fx H' σ env' As' → Fr G H H' → Ext H H' → Q b H'
section
variable {X : Cx} {Γ : Gam} {cal : Nat → List PyData → CRes} {e x y z te ie xe : Expr} {κ : Ty} {a elt : E} {pos p2 p : Pos} {scope : Scope} {cs : List Expr} {it : Dv.It} {tg : Tg} {ifs : Option E}
theorem slots_own : (ownOf Γ tg).map (·.2) = tgSlots tg := by
  cases tg with
  | one i => rfl
  | tup is =>
    simp only [ownOf, tgSlots, List.map_map]
    induction is with
    | nil => rfl
    | cons i is ih => simp only [List.map_cons, Function.comp]; rw [ih]
theorem tg_sh (h : ckTg Γ tg te = true) : ∀ i ∈ tgSlots tg, Γ.ty[i]? = some .sh := by
  unfold ckTg at h
  split at h
  · rename_i i x p
    rw [Bool.and_eq_true, decide_eq_true_eq] at h
    intro j hj
    rw [List.mem_singleton.mp hj]; exact h.2
  · rename_i is es n p
    rw [Bool.and_eq_true, decide_eq_true_eq] at h
    have : ∀ (is : List Nat) (es : List Expr), is.length = es.length → (is.zip es).all (fun p => match p.2 with | .Name x _ => storB Γ p.1 x && decide (Γ.ty[p.1]? = some .sh) | _ => false) = true → ∀ i ∈ is, Γ.ty[i]? = some .sh := by
      intro is
      induction is with
      | nil => intro _ _ _ i hi; cases hi
      | cons k ks ih =>
        intro es hl hc i hi
        cases es with
        | nil => simp at hl
        | cons e es =>
          rw [List.zip_cons_cons, List.all_cons, Bool.and_eq_true] at hc
          rcases List.mem_cons.mp hi with rfl | hi
          · have c1 := hc.1
            simp only at c1
            split at c1
            · rw [Bool.and_eq_true, decide_eq_true_eq] at c1; exact c1.2
            · cases c1
          · exact ih es (by simpa using hl) hc.2 i hi
    exact this is es h.1 h.2
  · cases h
theorem good_blk (g : Good X Γ cal) (hb : BlkOk Γ.N Γ.sc scope (ownOf Γ tg)) {s : Shared} {H : Hp} {C : Addr} {cl : List (Str × Addr)} {fp : List Addr} : Good (X.blk s H scope (compEnvC scope cl C X.env) fp) (Γ.blk scope it) cal := by
  refine ⟨g.hN, g.nd, ?_, g.calm, g.gd, g.un, fun x h => ?_, g.blt, g.fns, g.chk⟩
  · show relS scope X.env.scope = relS scope Γ.sc
    rw [g.hsc]
  · show (scope.names.lookup x == some .cell) = true
    have h' : (celOf scope).contains x = true := h
    unfold celOf at h'
    have h2 := List.contains_iff_mem.mp h'
    obtain ⟨q, q1, q2⟩ := List.mem_filterMap.mp h2
    split at q2
    · rename_i hc
      cases q2
      rw [hb.uniq q q1, hc]
      rfl
    · cases q2
theorem case_comp (g : Good X Γ cal) (hk : own1 κ = true) (hit : PI X te ie (TDi X.K Γ.ty (lockTy Γ.ty it) (evIt cal it))) (ns : notSet ie = true) (hb : blkC Γ.N Γ.sc scope (ownOf Γ tg) = true) (hg : ckTg (Γ.blk scope it) tg te = true)
    (hifs : ∀ (s : Shared) (H : Hp) (C : Addr) (cl : List (Str × Addr)) (fp : List Addr), PTs (X.blk s H scope (compEnvC scope cl C X.env) fp) cs (TDf X.K (lockTy Γ.ty it) (evIf cal ifs)))
    (helt : ∀ (s : Shared) (H : Hp) (C : Addr) (cl : List (Str × Addr)) (fp : List Addr), PE (X.blk s H scope (compEnvC scope cl C X.env) fp) xe (TDe X.K (lockTy Γ.ty it) (evE cal elt) .sh)) :
    PE X (.ListComp xe [⟨te, ie, cs, 0⟩] scope pos) (tLc (TDi X.K Γ.ty (lockTy Γ.ty it) (evIt cal it)) (tgT X.K tg) (TDf X.K (lockTy Γ.ty it) (evIf cal ifs)) (TDe X.K (lockTy Γ.ty it) (evE cal elt) .sh) (tgSlots tg)) := by
  have ok := blkOk_by hb
  have h := pe_lc (X := X) (pos := pos) (g := tgT X.K tg) g.calm (by rw [g.hN]; exact g.nd) hit (by rw [g.hN, g.hsc]; exact ok) (fun s H C cl fp => (tg_ok (good_blk (it := it) g ok (s := s) (H := H) (C := C) (cl := cl) (fp := fp)) hg).1) hifs helt (fun _ => by
    cases ie <;> first | rfl | cases ns)
  rw [slots_own] at h
  exact h
theorem comp_end (g : Good X Γ cal) (hk : own1 κ = true) (hb : blkC Γ.N Γ.sc scope (ownOf Γ tg) = true) (hg : ckTg (Γ.blk scope it) tg te = true) {σ : L2.St} {H : Hp} {Q : VK} {G : Addr → Prop} {fx : Nat → Option V} {env env' : Env} {As : Fp} {d : PyData} (S : SR X.K Γ.ty G fx H σ env As) (e : evE cal (.comp tg it ifs elt) env = .ok d env')
    (k : ∀ v H' As' A, SR X.K Γ.ty G fx H' σ env' As' → Rep X.K G H' κ v d A → (∀ a ∈ A, ¬ G a ∧ H' a ≠ none ∧ ∀ i, a ∉ As' i) → Fr G H H' → Ext H H' → Q v H') :
    tLc (TDi X.K Γ.ty (lockTy Γ.ty it) (evIt cal it)) (tgT X.K tg) (TDf X.K (lockTy Γ.ty it) (evIf cal ifs)) (TDe X.K (lockTy Γ.ty it) (evE cal elt) .sh) (tgSlots tg) σ H fun v H' => Q v H' ∨ ∃ p vs, v = .ref p ∧ H' p = some (.lst vs) ∧ ∀ o, Q v (upd H' p (.frz o (.lst vs))) := by
  have ok := blkOk_by hb
  have sh : ∀ i ∈ tgSlots tg, (lockTy Γ.ty it)[i]? = some .sh := tg_sh hg
  have gb := good_blk (X := X) (it := it) g ok (s := X.s_0) (H := H) (C := 0) (cl := []) (fp := [])
  have tgo := (tg_ok gb hg).2
  simp only [evE] at e
  obtain ⟨ds, env1, e1, e⟩ := bind_ok e
  obtain ⟨ys, efin, e2, e⟩ := bind_ok e
  split at e
  case isFalse => cases e
  rename_i hz
  cases e
  refine ⟨G, fx, env, As, ds, env1, S, e1, fun J H1 G' fx' As1 Gst S1 gg f1 x1 g0 gst wk un D hD => ?_⟩
  let vs := tgSlots tg
  let f : PyData → Env → Res (Option PyData) := fun x e => match setTg tg x (wipeE (tgSlots tg) e) with
      | none => .bad
      | some e => (evIf cal ifs e).bind fun b e => if b then (evE cal elt e).bind fun y e => .ok (some y) e else .ok none e
  let Pv : Nat → Hp → Prop := fun i H => ∃ e As acc accd rest, SR X.K (lockTy Γ.ty it) G' fx' H (wipe σ vs) (wipeE vs e) As ∧ (∀ j, D ∉ As j) ∧ H D = some (.lst acc) ∧ ShA X.K H acc accd ∧ acc.length ≤ i ∧ Gst H ∧ Fr G' H1 H ∧ Ext H1 H ∧ compL f (ds.drop i) e = .ok rest efin ∧ accd ++ rest = ys
  have nG : ¬ G' D := fun q => S1.gk D q hD
  have nA : ∀ j, D ∉ As1 j := fun j q => (S1.off j D q).2 hD
  have wl : (wipe σ vs).length = σ.length := wipe_length _ _
  refine lc_it wk Pv ?_ (fun i H hi ⟨e, As, acc, accd, rest, _, _, _, _, _, q, _⟩ => q) ?_ ?_
  · have s := same_upd (o := .lst []) hD
    have S2 := S1.same s
    refine ⟨env1, As1, [], [], ys, S2.wipe sh wl (fun j h => wipe_out h), nA, upd_same, .nil, Nat.le_refl _, gst _ _ g0 (S1.fr s) (Ext.of_same s), S1.fr s, Ext.of_same s, e2, rfl⟩
  · rintro i x H2 H3 hi ⟨e, As2, acc, accd, rest, S2, nA2, hD2, sa, la, gs, f2, x2, ec, ey⟩ ⟨sm, d, hd, hx⟩
    rw [List.drop_eq_getElem_cons hi] at ec
    rw [List.getElem?_eq_getElem hi] at hd
    cases hd
    simp only [compL] at ec
    obtain ⟨r0, e3, ec1, ec⟩ := bind_ok ec
    obtain ⟨rest', e4, ec2, ec⟩ := bind_ok ec
    have S3 := S2.same sm
    have nn : H3 D = some (.lst acc) := sm _ _ hD2
    have Sin := S3.enter (P := fun a => a = D) (fun a h => by subst h; exact ⟨by rw [nn]; simp, nA2⟩)
    simp only [f] at ec1
    split at ec1
    · cases ec1
    rename_i e5 hset
    obtain ⟨b, e6, eb, ec1⟩ := bind_ok ec1
    refine tgo x _ _ _ _ _ _ _ _ _ Sin hx hset fun σ4 As4 S4 hj => ⟨(wipe_eq (S4.ls.trans S2.ls.symm) hj).trans (wipe_wipe), ?_⟩
    refine ⟨_, _, _, _, b, e6, S4, eb, fun H5 As5 S5 f5 x5 => ?_⟩
    have nx : ∀ (H6 : Hp) (As6 : Fp) (e7 : Env), SR X.K (lockTy Γ.ty it) (fun a => G' a ∨ a = D) (fxAll (lockTy Γ.ty it) (wipe σ vs) (wipeE vs e)) H6 σ4 e7 As6 → Ext H3 H6 → SR X.K (lockTy Γ.ty it) G' fx' H6 (wipe σ vs) (wipeE vs e7) As6 ∧ ∀ j, D ∉ As6 j := by
      intro H6 As6 e7 S6 x6
      have S7 := S3.leave S6 x6
      refine ⟨S7.wipe sh ?_ fun j hj' => (hj j hj').symm, fun j h => (S6.off j D h).1 (.inr rfl)⟩
      rw [wl, S7.ls, ← S2.ls, wl]
    have keepG : ∀ {H6 : Hp}, Fr (fun a => G' a ∨ a = D) H3 H6 → Fr G' H2 H6 ∧ H6 D = some (.lst acc) := fun f6 => ⟨(S2.fr sm).trans fun a g => f6 a (.inl g), (f6 D (.inr rfl)).trans nn⟩
    cases b with
    | true =>
      simp only [if_true] at ec1 ⊢
      obtain ⟨y, e7, ee, ec1⟩ := bind_ok ec1
      cases ec1
      refine ⟨_, _, _, _, y, e3, S5, ee, fun yv H6 As6 A6 S6 r6 _ f6 x6 => ?_⟩
      obtain ⟨hy, _⟩ := r6.sh_inv
      have x36 := x5.trans x6
      have f36 := f5.trans f6
      obtain ⟨S7, nA7⟩ := nx H6 As6 e3 S6 x36
      obtain ⟨g26, hD6⟩ := keepG f36
      have xu := upd_lst_ext (ws := acc ++ [yv]) hD6
      obtain ⟨S8, f8⟩ := S7.frz xu nG nA7
      have xt := ((Ext.of_same sm).trans x36).trans xu
      have ft := g26.trans f8
      have := Nat.le_refl i
      refine ⟨acc, hD6, by omega, e3, As6, acc ++ [yv], accd ++ [y], rest', S8, nA7, upd_same, (sa.ext xt).append (.cons (hy.ext xu) .nil), by rw [List.length_append]; simpa using la, gst _ _ gs ft xt, f2.trans ft, x2.trans xt, ?_, ?_⟩
      · cases ec; exact ec2
      · cases ec; rw [List.append_assoc]; exact ey
    | false =>
      simp only [Bool.false_eq_true, if_false] at ec1 ⊢
      cases ec1
      obtain ⟨S7, nA7⟩ := nx H5 As5 e3 S5 x5
      obtain ⟨g26, hD6⟩ := keepG f5
      have xt := (Ext.of_same sm).trans x5
      refine ⟨e3, As5, acc, accd, rest', S7, nA7, hD6, sa.ext xt, by omega, gst _ _ gs g26 xt, f2.trans g26, x2.trans xt, ?_, ?_⟩
      · cases ec; exact ec2
      · cases ec; exact ey
  · rintro H2 ⟨e, As2, acc, accd, rest, S2, nA2, hD2, sa, la, gs, f2, x2, ec, ey⟩
    rw [List.drop_length] at ec
    simp only [compL] at ec
    cases ec
    rw [List.append_nil] at ey
    subst ey
    have S3 := S1.back sh S2 x2
    obtain ⟨As3, S4, hsub⟩ := un _ _ _ _ S3 f2 x2
    have nA3 : ∀ j, D ∉ As3 j := fun j h => by
      rcases hsub j D h with q | q
      · split at q
        · cases q
        · exact nA2 j q
      · exact nG q
    have nG0 : ¬ G D := fun q => nG (gg D q)
    have ft : Fr G H H2 := f1.trans fun a q => f2 a (gg a q)
    have xt := x1.trans x2
    unfold own1 at hk
    simp only [Bool.or_eq_true, decide_eq_true_eq] at hk
    rcases hk with rfl | rfl
    · refine .inr ⟨D, acc, rfl, hD2, fun o => ?_⟩
      have xe := upd_frz_ext (o := o) hD2
      obtain ⟨S5, f5⟩ := S4.frz xe nG0 nA3
      exact k _ _ As3 [] S5 ⟨.lst ⟨o, upd_same⟩ (sa.ext xe), rfl⟩ (fun a h => by cases h) (ft.trans f5) (xt.trans xe)
    · refine .inl (k _ H2 As3 [D] S4 ⟨D, acc, accd, rfl, rfl, hD2, sa, rfl⟩ (fun a h => ?_) ft xt)
      rw [List.mem_singleton.mp h]
      exact ⟨nG0, by rw [hD2]; simp, nA3⟩
end
end Dv
end
section
namespace Dv
open PySem PySem.Spec PyProof.Rows L2
/-! ### {k: v for .. in ..}, keys texts: a dict that is never written again -/
def tFzD (t : TE) : TE := fun σ H Q => t σ H fun v H' => ∃ p kvs, v = .ref p ∧ H' p = some (.dK kvs) ∧ ∀ o, Q v (upd H' p (.frz o (.dK kvs)))
theorem pe_fzD {X : Cx} {e : Expr} {t : TE} (h : PE X e t) : PE X e (tFzD t) := by
  refine ⟨fun pins s σ H Q I q => thn (h.run pins s σ H _ I q) fun u s' ⟨v, H', I', r, p, kvs, e, hp, z⟩ => ?_⟩
  subst e
  obtain ⟨o, I2⟩ := I'.lock hp True.intro
  exact ⟨_, _, I2, r, z o⟩
def tFzSD (t : TS) : TS := fun D σ H => t { D with nx := fun σ' H' => ∃ p kvs, H' p = some (.dK kvs) ∧ ∀ o, D.nx σ' (upd H' p (.frz o (.dK kvs))) } σ H
theorem ps_fzD {X : Cx} {st : Stmt} {t : TS} (h : PS X st t) : PS X st (tFzSD t) := by
  refine ⟨fun pins s σ H D I q => thn (h.run pins s σ H _ I q) fun f s1 z => ?_⟩
  cases f with
  | next =>
    obtain ⟨σ', H', I', p, kvs, hp, z⟩ := z
    obtain ⟨o, I2⟩ := I'.lock hp True.intro
    exact ⟨σ', _, I2, z o⟩
  | brk => exact z
  | cont => exact z
  | ret v => exact z
theorem upd_frzD_ext {H : Hp} {p : Addr} {vs : List (Key × V)} {o : Obj} (h : H p = some (.dK vs)) : Ext H (upd H p (.frz o (.dK vs))) :=
  ⟨fun b xs q => by rw [upd_ne (fun e => by subst e; rw [h] at q; cases q)]; exact q, fun b o' u q => by rw [upd_ne (fun e => by subst e; rw [h] at q; cases q)]; exact q⟩
theorem pairsD_snoc : ∀ {xs : List PyData} {ps : List (Str × PyData)} {rest : List PyData}, pairsD (xs ++ rest) = some ps → ∃ a b, pairsD xs = some a ∧ pairsD rest = some b ∧ ps = a ++ b
  | [], ps, rest, h => ⟨[], ps, rfl, h, rfl⟩
  | x :: xs, ps, rest, h => by
    rw [List.cons_append] at h
    unfold pairsD at h
    split at h
    · rename_i q; cases q
    · rename_i z d r q
      cases q
      cases e : pairsD (xs ++ rest) with
      | none => rw [e] at h; cases h
      | some qs =>
        rw [e] at h
        cases h
        obtain ⟨a, b, h1, h2, rfl⟩ := pairsD_snoc e
        exact ⟨(z, d) :: a, b, by unfold pairsD; rw [h1]; rfl, h2, rfl⟩
    · cases h
theorem dMk_snoc {ps : List (Str × PyData)} {p : Str × PyData} : dMk (ps ++ [p]) = dPut (dMk ps) p.1 p.2 := by
  unfold dMk
  rw [List.foldl_append]; rfl
theorem dPut_len {ds : List (PyData × PyData)} {x : Str} {d : PyData} : (dPut ds x d).length ≤ ds.length + 1 := by
  unfold dPut
  split
  · rw [List.length_map]; omega
  · rw [List.length_append]; exact Nat.le_refl _
theorem pairs_app : ∀ {xs : List PyData} {ps : List (Str × PyData)} {x : Str} {d : PyData}, pairsD xs = some ps → pairsD (xs ++ [.tuple [.str x, d]]) = some (ps ++ [(x, d)])
  | [], ps, x, d, h => by cases h; rfl
  | y :: xs, ps, x, d, h => by
    unfold pairsD at h
    split at h
    · rename_i q; cases q
    · rename_i z d0 r q
      cases q
      cases e : pairsD xs with
      | none => rw [e] at h; cases h
      | some qs =>
        rw [e] at h
        cases h
        rw [List.cons_append]
        unfold pairsD
        rw [pairs_app e]; rfl
    · cases h
theorem lc_it2 {J : L2.It} {n : Nat} {Gd : Hp → Prop} {Y : Nat → Hp → V → Hp → Prop} (wk : Walk J n Gd Y) {u0 : HO} {g : TG} {tt : TT} {yes : L2.St → Hp → (Hp → Prop) → Prop} {vs : List Nat} {σ : L2.St} {H1 : Hp} {D : Addr} {Qd : Hp → Prop}
    (Pv : Nat → Hp → Prop) (h0 : Pv 0 (upd H1 D u0)) (hG : ∀ i H, i ≤ n → Pv i H → Gd H)
    (hs : ∀ i x H H', i < n → Pv i H → Y i H x H' → g x (wipe σ vs) H' fun σ2 H2 => wipe σ2 vs = wipe σ vs ∧ tt σ2 H2 fun b H3 => if b = true then yes σ2 H3 (Pv (i + 1)) else Pv (i + 1) H3) (hd : ∀ H, Pv n H → Qd H) :
    ∃ W : Nat → Nat → Hp → Prop, (∃ m, W 0 m (upd H1 D u0)) ∧ ∀ i m H, W i m H →
      (J.stop i H ∧ Qd H) ∨ (J.go i H ∧ ∃ Nx : Hp → Prop, (∀ H', Nx H' → ∃ m', m' < m ∧ W (i + 1) m' H') ∧ ∀ x H', J.yld i H x H' → g x (wipe σ vs) H' fun σ2 H2 => wipe σ2 vs = wipe σ vs ∧ tt σ2 H2 fun b H3 => if b = true then yes σ2 H3 Nx else Nx H3) := by
  refine ⟨fun i m H => m = n - i ∧ i ≤ n ∧ Pv i H, ⟨n, (Nat.sub_zero n).symm, Nat.zero_le _, h0⟩, fun i m H h => ?_⟩
  obtain ⟨rfl, hi, pv⟩ := h
  have gd := hG i H hi pv
  rcases Nat.lt_or_ge i n with lt | ge
  · exact .inr ⟨wk.goes i H lt gd, Pv (i + 1), fun H' p' => ⟨n - (i + 1), by omega, rfl, lt, p'⟩, fun x H' y => hs i x H H' lt pv (wk.yields i H x H' lt gd y)⟩
  · have e : i = n := Nat.le_antisymm hi ge
    subst e
    exact .inl ⟨wk.stops H gd, hd H pv⟩
section
variable {X : Cx} {Γ : Gam} {cal : Nat → List PyData → CRes} {te ie kx vx : Expr} {cs : List Expr} {scope : Scope} {pos : Pos} {tg : Tg} {it : Dv.It} {ifs : Option Dv.E} {k v : Dv.E} {κ : Ty}
theorem case_dcm (g : Good X Γ cal) (hit : PI X te ie (TDi X.K Γ.ty (lockTy Γ.ty it) (evIt cal it))) (ns : notSet ie = true) (hb : blkC Γ.N Γ.sc scope (ownOf Γ tg) = true) (hg : ckTg (Γ.blk scope it) tg te = true)
    (hifs : ∀ (s : Shared) (H : Hp) (C : Addr) (cl : List (Str × Addr)) (fp : List Addr), PTs (X.blk s H scope (compEnvC scope cl C X.env) fp) cs (TDf X.K (lockTy Γ.ty it) (evIf cal ifs)))
    (hk : ∀ (s : Shared) (H : Hp) (C : Addr) (cl : List (Str × Addr)) (fp : List Addr), PE (X.blk s H scope (compEnvC scope cl C X.env) fp) kx (TDe X.K (lockTy Γ.ty it) (evE cal k) .sh))
    (hv : ∀ (s : Shared) (H : Hp) (C : Addr) (cl : List (Str × Addr)) (fp : List Addr), PE (X.blk s H scope (compEnvC scope cl C X.env) fp) vx (TDe X.K (lockTy Γ.ty it) (evE cal v) .sh)) :
    PE X (.DictComp kx vx [⟨te, ie, cs, 0⟩] scope pos) (tDc (TDi X.K Γ.ty (lockTy Γ.ty it) (evIt cal it)) (tgT X.K tg) (TDf X.K (lockTy Γ.ty it) (evIf cal ifs)) (TDe X.K (lockTy Γ.ty it) (evE cal k) .sh) (TDe X.K (lockTy Γ.ty it) (evE cal v) .sh) (tgSlots tg)) := by
  have ok := blkOk_by hb
  have h := pe_dc (X := X) (pos := pos) (g := tgT X.K tg) g.calm (by rw [g.hN]; exact g.nd) hit (by rw [g.hN, g.hsc]; exact ok) (fun s H C cl fp => (tg_ok (good_blk (it := it) g ok (s := s) (H := H) (C := C) (cl := cl) (fp := fp)) hg).1) hifs hk hv (fun _ => by
    cases ie <;> first | rfl | cases ns)
  rw [slots_own] at h
  exact h
theorem dcm_end (g : Good X Γ cal) (hb : blkC Γ.N Γ.sc scope (ownOf Γ tg) = true) (hg : ckTg (Γ.blk scope it) tg te = true) {σ : L2.St} {H : Hp} {Q : VK} {G : Addr → Prop} {fx : Nat → Option V} {env env' : Env} {As : Fp} {d : PyData} (S : SR X.K Γ.ty G fx H σ env As) (e : evE cal (.dcm tg it ifs k v) env = .ok d env')
    (cont : ∀ v H' As' A, SR X.K Γ.ty G fx H' σ env' As' → Rep X.K G H' .sh v d A → (∀ a ∈ A, ¬ G a ∧ H' a ≠ none ∧ ∀ i, a ∉ As' i) → Fr G H H' → Ext H H' → Q v H') :
    tDc (TDi X.K Γ.ty (lockTy Γ.ty it) (evIt cal it)) (tgT X.K tg) (TDf X.K (lockTy Γ.ty it) (evIf cal ifs)) (TDe X.K (lockTy Γ.ty it) (evE cal k) .sh) (TDe X.K (lockTy Γ.ty it) (evE cal v) .sh) (tgSlots tg) σ H fun v H' => ∃ p kvs, v = .ref p ∧ H' p = some (.dK kvs) ∧ ∀ o, Q v (upd H' p (.frz o (.dK kvs))) := by
  have ok := blkOk_by hb
  have sh : ∀ i ∈ tgSlots tg, (lockTy Γ.ty it)[i]? = some .sh := tg_sh hg
  have gb := good_blk (X := X) (it := it) g ok (s := X.s_0) (H := H) (C := 0) (cl := []) (fp := [])
  have tgo := (tg_ok gb hg).2
  simp only [evE] at e
  obtain ⟨ds, env1, e1, e⟩ := bind_ok e
  obtain ⟨ys, efin, e2, e⟩ := bind_ok e
  split at e
  case isFalse => cases e
  rename_i hz
  split at e
  case h_2 => cases e
  rename_i ps hps
  cases e
  refine ⟨G, fx, env, As, ds, env1, S, e1, fun J H1 G' fx' As1 Gst S1 gg f1 x1 g0 gst wk un D hD => ?_⟩
  let vs := tgSlots tg
  let f : PyData → Env → Res (Option PyData) := fun x e => match setTg tg x (wipeE (tgSlots tg) e) with
      | none => .bad
      | some e => (evIf cal ifs e).bind fun b e => if b then (evE cal k e).bind fun kd e => (evE cal v e).bind fun vd e => .ok (some (.tuple [kd, vd])) e else .ok none e
  let Pv : Nat → Hp → Prop := fun i H => ∃ e As kvs accd pq rest, SR X.K (lockTy Γ.ty it) G' fx' H (wipe σ vs) (wipeE vs e) As ∧ (∀ j, D ∉ As j) ∧ H D = some (.dK kvs) ∧ pairsD accd = some pq ∧ ShK X.K H kvs (dMk pq) ∧ pq.length ≤ i ∧ (dMk pq).length ≤ pq.length ∧ Gst H ∧ Fr G' H1 H ∧ Ext H1 H ∧ compL f (ds.drop i) e = .ok rest efin ∧ accd ++ rest = ys
  have nG : ¬ G' D := fun q => S1.gk D q hD
  have nA : ∀ j, D ∉ As1 j := fun j q => (S1.off j D q).2 hD
  have wl : (wipe σ vs).length = σ.length := wipe_length _ _
  refine lc_it2 wk Pv (u0 := .dK []) (D := D) (σ := σ) (vs := vs) (g := tgT X.K tg) (Qd := fun H' => ∃ p kvs, (V.ref D) = .ref p ∧ H' p = some (.dK kvs) ∧ ∀ o, Q (.ref D) (upd H' p (.frz o (.dK kvs)))) (tt := TDf X.K (lockTy Γ.ty it) (evIf cal ifs))
    (yes := fun σ2 H3 Nx => TDe X.K (lockTy Γ.ty it) (evE cal k) .sh σ2 H3 fun y H4 => TDe X.K (lockTy Γ.ty it) (evE cal v) .sh σ2 H4 fun z H5 => ∃ kvs k, y = kV k ∧ H5 D = some (.dK kvs) ∧ kvs.length < sizeLine ∧ Nx (upd H5 D (.dK (putK kvs k z)))) ?_ (fun i H hi ⟨e, As, kvs, accd, pq, rest, _, _, _, _, _, _, _, q, _⟩ => q) ?_ ?_
  · have s := same_upd (o := .dK []) hD
    have S2 := S1.same s
    exact ⟨env1, As1, [], [], [], ys, S2.wipe sh wl (fun j h => wipe_out h), nA, upd_same, rfl, .nil, Nat.le_refl _, Nat.le_refl _, gst _ _ g0 (S1.fr s) (Ext.of_same s), S1.fr s, Ext.of_same s, e2, rfl⟩
  · rintro i x H2 H3 hi ⟨e, As2, kvs, accd, pq, rest, S2, nA2, hD2, hpq, sk, la, lk, gs, f2, x2, ec, ey⟩ ⟨sm, d, hd, hx⟩
    rw [List.drop_eq_getElem_cons hi] at ec
    rw [List.getElem?_eq_getElem hi] at hd
    cases hd
    simp only [compL] at ec
    obtain ⟨r0, e3, ec1, ec⟩ := bind_ok ec
    obtain ⟨rest', e4, ec2, ec⟩ := bind_ok ec
    have S3 := S2.same sm
    have nn : H3 D = some (.dK kvs) := sm _ _ hD2
    have Sin := S3.enter (P := fun a => a = D) (fun a h => by subst h; exact ⟨by rw [nn]; simp, nA2⟩)
    simp only [f] at ec1
    split at ec1
    · cases ec1
    rename_i e5 hset
    obtain ⟨b, e6, eb, ec1⟩ := bind_ok ec1
    refine tgo x _ _ _ _ _ _ _ _ _ Sin hx hset fun σ4 As4 S4 hj => ⟨(wipe_eq (S4.ls.trans S2.ls.symm) hj).trans (wipe_wipe), ?_⟩
    refine ⟨_, _, _, _, b, e6, S4, eb, fun H5 As5 S5 f5 x5 => ?_⟩
    have nx : ∀ (H6 : Hp) (As6 : Fp) (e7 : Env), SR X.K (lockTy Γ.ty it) (fun a => G' a ∨ a = D) (fxAll (lockTy Γ.ty it) (wipe σ vs) (wipeE vs e)) H6 σ4 e7 As6 → Ext H3 H6 → SR X.K (lockTy Γ.ty it) G' fx' H6 (wipe σ vs) (wipeE vs e7) As6 ∧ ∀ j, D ∉ As6 j := by
      intro H6 As6 e7 S6 x6
      have S7 := S3.leave S6 x6
      refine ⟨S7.wipe sh ?_ fun j hj' => (hj j hj').symm, fun j h => (S6.off j D h).1 (.inr rfl)⟩
      rw [wl, S7.ls, ← S2.ls, wl]
    have keepG : ∀ {H6 : Hp}, Fr (fun a => G' a ∨ a = D) H3 H6 → Fr G' H2 H6 ∧ H6 D = some (.dK kvs) := fun f6 => ⟨(S2.fr sm).trans fun a g => f6 a (.inl g), (f6 D (.inr rfl)).trans nn⟩
    cases b with
    | true =>
      simp only [if_true] at ec1 ⊢
      obtain ⟨kd, e7, ek, ec1⟩ := bind_ok ec1
      obtain ⟨vd, e8, ev, ec1⟩ := bind_ok ec1
      cases ec1
      -- the pair that is next
      have hys : pairsD (accd ++ (.tuple [kd, vd] :: rest')) = some ps := by
        cases ec
        rw [ey]; exact hps
      obtain ⟨a1, b1, q1, q2, q3⟩ := pairsD_snoc hys
      rw [hpq] at q1; cases q1
      obtain ⟨x0, rfl, b2, hb2⟩ : ∃ x0, kd = .str x0 ∧ ∃ b2, pairsD rest' = some b2 := by
        unfold pairsD at q2
        split at q2
        · rename_i q; cases q
        · rename_i z0 d0 r0 q
          cases q
          cases er : pairsD rest' with
          | none => rw [er] at q2; cases q2
          | some b2 => exact ⟨z0, rfl, b2, rfl⟩
        · cases q2
      refine ⟨_, _, _, _, _, e7, S5, ek, fun yv H6 As6 A6 S6 r6 _ f6 x6 => ⟨_, _, _, _, vd, e3, S6, ev, fun zv H7 As7 A7 S7 r7 _ f7 x7 => ?_⟩⟩
      obtain ⟨hy, _⟩ := r6.sh_inv
      obtain ⟨hzv, _⟩ := r7.sh_inv
      cases hy
      have x37 := (x5.trans x6).trans x7
      have f37 := (f5.trans f6).trans f7
      obtain ⟨S8, nA8⟩ := nx H7 As7 e3 S7 x37
      obtain ⟨g27, hD7⟩ := keepG f37
      have xu := upd_dk_ext (ws := putK kvs (Sum.inr x0) zv) hD7
      obtain ⟨S9, f9⟩ := S8.frz xu nG nA8
      have xt := ((Ext.of_same sm).trans x37).trans xu
      have ft := g27.trans f9
      have xs7 := (Ext.of_same sm).trans x37
      have pq2 : pairsD (accd ++ [.tuple [.str x0, vd]]) = some (pq ++ [(x0, vd)]) := pairs_app hpq
      refine ⟨kvs, Sum.inr x0, rfl, hD7, ?_, e3, As7, putK kvs (Sum.inr x0) zv, accd ++ [.tuple [.str x0, vd]], pq ++ [(x0, vd)], rest', S9, nA8, upd_same, pq2, ?_, by rw [List.length_append]; simpa using la, ?_, gst _ _ gs ft xt, f2.trans ft, x2.trans xt, ?_, ?_⟩
      · rw [shk_len sk]; omega
      · rw [dMk_snoc]
        exact shk_put (hzv.ext xu) (sk.ext xt)
      · rw [dMk_snoc, List.length_append]
        exact Nat.le_trans dPut_len (by simpa using lk)
      · cases ec; exact ec2
      · cases ec; rw [List.append_assoc]; exact ey
    | false =>
      simp only [Bool.false_eq_true, if_false] at ec1 ⊢
      cases ec1
      obtain ⟨S7, nA7⟩ := nx H5 As5 e3 S5 x5
      obtain ⟨g26, hD6⟩ := keepG f5
      have xt := (Ext.of_same sm).trans x5
      refine ⟨e3, As5, kvs, accd, pq, rest', S7, nA7, hD6, hpq, sk.ext xt, by omega, lk, gst _ _ gs g26 xt, f2.trans g26, x2.trans xt, ?_, ?_⟩
      · cases ec; exact ec2
      · cases ec; exact ey
  · rintro H2 ⟨e, As2, kvs, accd, pq, rest, S2, nA2, hD2, hpq, sk, la, lk, gs, f2, x2, ec, ey⟩
    rw [List.drop_length] at ec
    simp only [compL] at ec
    cases ec
    rw [List.append_nil] at ey
    subst ey
    rw [hps] at hpq; cases hpq
    have S3 := S1.back sh S2 x2
    obtain ⟨As3, S4, hsub⟩ := un _ _ _ _ S3 f2 x2
    have nA3 : ∀ j, D ∉ As3 j := fun j h => by
      rcases hsub j D h with q | q
      · split at q
        · cases q
        · exact nA2 j q
      · exact nG q
    have nG0 : ¬ G D := fun q => nG (gg D q)
    have ft : Fr G H H2 := f1.trans fun a q => f2 a (gg a q)
    have xt := x1.trans x2
    refine ⟨D, kvs, rfl, hD2, fun o => ?_⟩
    have xe := upd_frzD_ext (o := o) hD2
    obtain ⟨S5, f5⟩ := S4.frz xe nG0 nA3
    exact cont _ _ As3 [] S5 ⟨.dK upd_same (sk.ext xe), rfl⟩ (fun a h => by cases h) (ft.trans f5) (xt.trans xe)
end
end Dv
end
section
namespace Dv
open PySem PySem.Spec PyProof.Rows L2

def plainB : Expr → Bool
  | .UnaryOp .Not _ _ => false
  | .BoolOp _ _ _ => false
  | .IfExp _ _ _ _ => false
  | .Compare _ _ _ _ => false
  | _ => true
theorem plain_true {e : Expr} (h : plainB e = true) (env : PySem.Env) (whole : Sem Value) : isTrue e env whole = (do let v ← whole; standAt e.pos; holding [v] (truthy v)) := by
  cases e <;> first | rfl | (simp [plainB] at h; done) | skip
  rename_i op _ _
  cases op <;> first | rfl | (simp [plainB] at h; done)
def isBoolE : Expr → Bool
  | .BoolOp _ _ _ => true
  | _ => false
structure Snd (X : Cx) (Γ : Gam) (cal : Nat → List PyData → CRes) (ir : E) (e : Expr) (κ : Ty) : Prop where
  pe : PE X e (TDe X.K Γ.ty (evE cal ir) κ)
  pt : κ = .sh → PT X e (TDt X.K Γ.ty (evE cal ir))
  pw : isBoolE e = true → PW X e (TDt X.K Γ.ty (evE cal ir))
theorem Snd.plain {X : Cx} {Γ : Gam} {cal : Nat → List PyData → CRes} {ir : E} {e : Expr} {κ : Ty} (h : PE X e (TDe X.K Γ.ty (evE cal ir) κ)) (hp : plainB e = true) : Snd X Γ cal ir e κ :=
  ⟨h, fun hk => by subst hk; exact pt_plain h fun w => plain_true hp X.env w, fun hb => by cases e <;> simp [isBoolE] at hb; simp [plainB] at hp⟩
theorem Snd.test {X : Cx} {Γ : Gam} {cal : Nat → List PyData → CRes} {ir : E} {e : Expr} (h : PE X e (TDe X.K Γ.ty (evE cal ir) .sh)) (ht : PT X e (TDt X.K Γ.ty (evE cal ir))) (hp : isBoolE e = false) : Snd X Γ cal ir e .sh :=
  ⟨h, fun _ => ht, fun hb => by rw [hp] at hb; cases hb⟩
theorem ckK_plain {c : PyData} {e : Expr} (h : ckK c e = true) : plainB e = true := by
  unfold ckK at h
  split at h <;> first | rfl | cases h
/-- what the arguments' check gives -/
structure AsOk (X : Cx) (Γ : Gam) (cal : Nat → List PyData → CRes) (as : List E) (es : List Expr) (ts : List Ty) : Prop where
  pos : POs X Γ cal as es
  len : as.length = ts.length
  arg : ∀ (j : Nat) a τ, as[j]? = some a → ts[j]? = some τ → argB a τ Γ.ty = true
theorem slotE {X : Cx} {Γ : Gam} {cal : Nat → List PyData → CRes} (g : Good X Γ cal) {i : Nat} {e : Expr} (h : (match e with | .Name x _ => slotB Γ i x | _ => false) = true) : PE X e (tVar i) := by
  split at h
  · obtain ⟨h1, h2, h3, h4⟩ := slot_ok g h
    exact pe_var h1 h2 h3 h4
  · cases h
theorem AsOk.cons {X : Cx} {Γ : Gam} {cal : Nat → List PyData → CRes} {a : E} {e : Expr} {τ : Ty} {as : List E} {es : List Expr} {ts : List Ty} (h : PE X e (tO X.K Γ.ty cal a)) (ha : argB a τ Γ.ty = true) (t : AsOk X Γ cal as es ts) : AsOk X Γ cal (a :: as) (e :: es) (τ :: ts) := by
  refine ⟨.cons h t.pos, by rw [List.length_cons, List.length_cons, t.len], fun j b σ q1 q2 => ?_⟩
  cases j with
  | zero => simp at q1 q2; subst q1 q2; exact ha
  | succ j => exact t.arg j b σ (by simpa using q1) (by simpa using q2)

theorem tfNone {X : Cx} {Γ : Gam} {cal : Nat → List PyData → CRes} : PTs X [] (TDf X.K Γ.ty (evIf cal none)) := ⟨fun pins s σ H Q I ⟨G, fx, env, As, b, env', S, e, k⟩ => pts_nil.run pins s σ H Q I (by
  simp only [evIf] at e
  cases e
  exact k H As S (Fr.refl _ _) (Ext.refl _))⟩
theorem tfSome {X : Cx} {Γ : Gam} {cal : Nat → List PyData → CRes} {a : E} {e : Expr} (h : PT X e (TDt X.K Γ.ty (evE cal a))) : PTs X [e] (TDf X.K Γ.ty (evIf cal (some a))) := ⟨fun pins s σ H Q I ⟨G, fx, env, As, b, env', S, e, k⟩ => (pts_one h).run pins s σ H Q I (by
  simp only [evIf] at e
  obtain ⟨d, env1, e1, e2⟩ := bind_ok e
  split at e2
  · cases e2
    exact ⟨G, fx, env, As, _, env', S, e1, k⟩
  · cases e2)⟩
theorem ckE_sl {Γ : Gam} {a : E} {lo hi : Option E} {e : Expr} {κ : Ty} (hn : ∀ i, a ≠ .b i) : ckE Γ (.sl a lo hi) e κ = match e with
    | .Subscript v (.Slice l h none _) _ => decide (κ = .sh) && ckE Γ a v .sh && ckP Γ lo l && ckP Γ hi h
    | _ => false := by
  cases a <;> first | exact absurd rfl (hn _) | (simp only [ckE]; done) | rfl
theorem ckE_isa {Γ : Gam} {a : E} {ts : List String} {e : Expr} {κ : Ty} (hn : ∀ i, a ≠ .b i) : ckE Γ (.isa a ts) e κ = match e with
    | .Call (.Name f _) [x, t] [] _ => decide (κ = .sh) && decide (f = "isinstance") && glB Γ f && notStar x && notStar t && ckE Γ a x .sh && ckIsa Γ ts t
    | _ => false := by
  cases a <;> first | exact absurd rfl (hn _) | (simp only [ckE]; done) | rfl
section
variable {cal : Nat → List PyData → CRes}
mutual
theorem sE : ∀ (ir : Dv.E) {X : Cx} {Γ : Gam} (g : Good X Γ cal) {e : Expr} {κ : Ty}, ckE Γ ir e κ = true → Snd X Γ cal ir e κ
  | .k c, X, Γ, g, e, κ, h => by
    simp only [ckE, Bool.and_eq_true, decide_eq_true_eq] at h
    obtain ⟨rfl, h⟩ := h
    exact .plain (case_k h) (ckK_plain h)
  | .v i, X, Γ, g, e, κ, h => by
    simp only [ckE, Bool.and_eq_true, decide_eq_true_eq] at h
    obtain ⟨rfl, h⟩ := h
    split at h
    · rw [Bool.and_eq_true, decide_eq_true_eq] at h
      exact .plain (case_v g h.1 h.2) rfl
    · cases h
  | .b i, X, Γ, g, e, κ, h => by simp only [ckE] at h; cases h
  | .mv i, X, Γ, g, e, κ, h => by
    simp only [ckE] at h
    split at h
    · simp only [Bool.and_eq_true, Bool.or_eq_true, decide_eq_true_eq] at h
      obtain ⟨h0, h⟩ := h
      rcases h with h | ⟨rfl, h⟩
      · exact .plain (case_mv g h0 h.1.1 h.1.2) rfl
      · exact .plain (case_fzv g h0 h) rfl
    · cases h
  | .op o as, X, Γ, g, e, κ, h => by
    simp only [ckE] at h
    split at h
    · rename_i l b r p
      by_cases hA : o = .addl
      · rw [if_pos hA] at h
        subst hA
        simp only [Bool.and_eq_true, decide_eq_true_eq] at h
        obtain ⟨⟨h0, h1⟩, h2⟩ := h
        cases sOs as g h2 with
        | cons q1 t => cases t with
          | cons q2 t => cases t; exact .plain (case_addl g h1 h0 q1 q2) rfl
      rw [if_neg hA] at h
      simp only [Bool.and_eq_true, decide_eq_true_eq] at h
      obtain ⟨⟨rfl, h1⟩, h2⟩ := h
      cases sOs as g h2 with
      | cons q1 t => cases t with
        | cons q2 t => cases t; exact .plain (case_bin g h1 q1 q2) rfl
    · rename_i x p
      simp only [Bool.and_eq_true, decide_eq_true_eq] at h
      obtain ⟨⟨rfl, rfl⟩, h2⟩ := h
      cases sOs as g h2 with
      | cons q1 t => cases t; exact .plain (case_neg q1) rfl
    · rename_i l c r p
      simp only [Bool.and_eq_true, decide_eq_true_eq, Bool.not_eq_true'] at h
      obtain ⟨⟨⟨rfl, h1⟩, h2⟩, h3⟩ := h
      cases sOs as g h3 with
      | cons q1 t => cases t with
        | cons q2 t => cases t; exact .test (case_cmp g h1 h2 q1 q2).1 (case_cmp g h1 h2 q1 q2).2 rfl
    · simp only [Bool.and_eq_true, decide_eq_true_eq] at h
      obtain ⟨⟨rfl, rfl⟩, h3⟩ := h
      cases sOs as g h3 with
      | cons q1 t => cases t; exact .plain (case_rev q1) rfl
    · rename_i v i p
      simp only [Bool.and_eq_true, decide_eq_true_eq] at h
      obtain ⟨⟨⟨rfl, rfl⟩, h2⟩, h3⟩ := h
      cases sOs as g h3 with
      | cons q1 t => cases t with
        | cons q2 t => cases t; exact .plain (case_ix h2 q1 q2) rfl
    · rename_i f p a b pos
      simp only [Bool.and_eq_true, decide_eq_true_eq] at h
      obtain ⟨⟨⟨⟨⟨⟨rfl, h1⟩, h2⟩, h3⟩, h4⟩, h5⟩, h6⟩ := h
      exact .plain (case_blt2 g h1 h2 h3 h4 h5 (sOs as g h6)) rfl
    · rename_i f p a pos
      by_cases hZ : o = .srs
      · rw [if_pos hZ] at h
        subst hZ
        simp only [Bool.and_eq_true, decide_eq_true_eq] at h
        obtain ⟨⟨⟨rfl, h1⟩, h2⟩, h3⟩ := h
        split at h3
        · simp only [Bool.and_eq_true, decide_eq_true_eq] at h3
          obtain ⟨⟨⟨h4, h5⟩, h6⟩, h7⟩ := h3
          cases sOs as g h7 with
          | cons q1 t => cases t; exact .plain (case_srs g h1 h2 h4 h5 h6 q1) rfl
        · cases h3
      rw [if_neg hZ] at h
      by_cases hL : o = .lens
      · rw [if_pos hL] at h
        subst hL
        simp only [Bool.and_eq_true, decide_eq_true_eq] at h
        obtain ⟨⟨⟨rfl, h1⟩, h2⟩, h3⟩ := h
        split at h3
        · simp only [Bool.and_eq_true, decide_eq_true_eq] at h3
          obtain ⟨⟨⟨h4, h5⟩, h6⟩, h7⟩ := h3
          cases sOs as g h7 with
          | cons q1 t => cases t; exact .plain (case_lens g h1 h2 h4 h5 h6 q1) rfl
        · cases h3
      rw [if_neg hL] at h
      simp only [Bool.and_eq_true, Bool.or_eq_true, decide_eq_true_eq] at h
      obtain ⟨⟨⟨⟨⟨h0, h1⟩, h2⟩, h3⟩, h4⟩, h5⟩ := h
      have q := sOs as g h5
      rcases h0 with rfl | ⟨rfl, ho⟩
      · exact .plain (case_blt g h1 h2 h3 h4 q) rfl
      · exact .plain (case_new g h1 ho (by decide) h2 h3 h4 q) rfl
    · cases h
  | .sl a lo hi, X, Γ, g, e, κ, h => by
    cases hb : bOf a with
    | some i =>
      have := bOf_some hb
      subst this
      simp only [ckE] at h
      split at h
      · simp only [Bool.and_eq_true, decide_eq_true_eq] at h
        obtain ⟨⟨⟨rfl, h1⟩, h2⟩, h3⟩ := h
        exact .plain (case_slb (slotE g h1) (sP lo g h2) (sP hi g h3)) rfl
      · cases h
    | none =>
      have hn := bOf_none hb
      have this := h
      rw [ckE_sl hn] at this
      split at this
      · simp only [Bool.and_eq_true, decide_eq_true_eq] at this
        obtain ⟨⟨⟨rfl, h1⟩, h2⟩, h3⟩ := this
        exact .plain (case_sl hn (sE a g h1).pe (sP lo g h2) (sP hi g h3)) rfl
      · cases this
  | .isa a ts, X, Γ, g, e, κ, h => by
    have key : ∀ {f : Str} {x t : Expr} {p pos : Pos}, f = "isinstance" → glB Γ f = true → notStar x = true → notStar t = true → PE X x (tO X.K Γ.ty cal a) → ckIsa Γ ts t = true → PE X (.Call (.Name f p) [x, t] [] pos) (TDe X.K Γ.ty (evE cal (.isa a ts)) .sh) := by
      intro f x t p pos hf hg hx ht hp hi
      unfold ckIsa at hi
      split at hi
      · simp only [Bool.and_eq_true, decide_eq_true_eq, List.all_eq_true] at hi
        exact case_isa1 g hf hg hx hp hi.1.1 hi.1.2 fun t q => by simpa using hi.2 t q
      · simp only [Bool.and_eq_true, decide_eq_true_eq] at hi
        exact case_isaT g hf hg hx hp hi.1.1.1.1 hi.1.1.1.2 (fun t q => by simpa using (List.all_eq_true.mp hi.1.1.2) t q) (by have := hi.1.2; simp only [sizeLine]; omega)
      · cases hi
    cases hb : bOf a with
    | some i =>
      have := bOf_some hb
      subst this
      simp only [ckE] at h
      split at h
      · simp only [Bool.and_eq_true, decide_eq_true_eq] at h
        obtain ⟨⟨⟨⟨⟨⟨rfl, h1⟩, h2⟩, h3⟩, h4⟩, h5⟩, h6⟩ := h
        exact .plain (key h1 h2 h3 h4 (slotE g h5) h6) rfl
      · cases h
    | none =>
      have hn := bOf_none hb
      have this := h
      rw [ckE_isa hn] at this
      split at this
      · simp only [Bool.and_eq_true, decide_eq_true_eq] at this
        obtain ⟨⟨⟨⟨⟨⟨rfl, h1⟩, h2⟩, h3⟩, h4⟩, h5⟩, h6⟩ := this
        exact .plain (key h1 h2 h3 h4 (by rw [tO_ne hn]; exact (sE a g h5).pe) h6) rfl
      · cases this
  | .tup es, X, Γ, g, e, κ, h => by
    simp only [ckE] at h
    split at h
    · simp only [Bool.and_eq_true, decide_eq_true_eq] at h
      obtain ⟨rfl, h1⟩ := h
      exact .plain (case_tup (sEs es g h1)) rfl
    · cases h
  | .lst es, X, Γ, g, e, κ, h => by
    simp only [ckE] at h
    split at h
    · simp only [Bool.and_eq_true] at h
      exact .plain (case_lst h.1 (sEs es g h.2)) rfl
    · cases h
  | .and a b, X, Γ, g, e, κ, h => by
    simp only [ckE] at h
    split at h
    · simp only [Bool.and_eq_true, decide_eq_true_eq] at h
      obtain ⟨⟨rfl, h1⟩, h2⟩ := h
      have q1 := sE a g h1
      have q2 := sE b g h2
      have w := case_andW (pos := ‹_›) (q1.pt rfl) (e := ‹_›) (rest := []) (pw_and1 (q2.pt rfl))
      exact ⟨case_and q1.pe (pe_one q2.pe), fun _ => w.pt, fun _ => w⟩
    · simp only [Bool.and_eq_true, decide_eq_true_eq] at h
      obtain ⟨⟨⟨rfl, h1⟩, h3⟩, h2⟩ := h
      have q1 := sE a g h1
      have q2 := sE b g h2
      have w := case_andW (q1.pt rfl) (e := ‹_›) (q2.pw rfl)
      exact ⟨case_and q1.pe q2.pe, fun _ => w.pt, fun _ => w⟩
    · cases h
  | .or a b, X, Γ, g, e, κ, h => by
    simp only [ckE] at h
    split at h
    · simp only [Bool.and_eq_true, decide_eq_true_eq] at h
      obtain ⟨⟨rfl, h1⟩, h2⟩ := h
      have q1 := sE a g h1
      have q2 := sE b g h2
      have w := case_orW (pos := ‹_›) (q1.pt rfl) (rest := []) (pw_or1 (q2.pt rfl))
      exact ⟨case_or q1.pe (pe_one q2.pe), fun _ => w.pt, fun _ => w⟩
    · simp only [Bool.and_eq_true, decide_eq_true_eq] at h
      obtain ⟨⟨⟨rfl, h1⟩, h3⟩, h2⟩ := h
      have q1 := sE a g h1
      have q2 := sE b g h2
      have w := case_orW (q1.pt rfl) (q2.pw rfl)
      exact ⟨case_or q1.pe q2.pe, fun _ => w.pt, fun _ => w⟩
    · cases h
  | .not a, X, Γ, g, e, κ, h => by
    simp only [ckE] at h
    split at h
    · simp only [Bool.and_eq_true, decide_eq_true_eq] at h
      obtain ⟨rfl, h1⟩ := h
      exact .test (case_not (sE a g h1).pe) (case_notT ((sE a g h1).pt rfl)) rfl
    · cases h
  | .ite c a b, X, Γ, g, e, κ, h => by
    simp only [ckE] at h
    split at h
    · simp only [Bool.and_eq_true, decide_eq_true_eq] at h
      obtain ⟨⟨⟨rfl, h1⟩, h2⟩, h3⟩ := h
      have q1 := sE c g h1
      have q2 := sE a g h2
      have q3 := sE b g h3
      exact .test (case_ite (q1.pt rfl) q2.pe q3.pe) (case_iteT (q1.pt rfl) (q2.pt rfl) (q3.pt rfl)) rfl
    · cases h
  | .ch o1 o2 a b c, X, Γ, g, e, κ, h => by
    simp only [ckE] at h
    split at h
    · simp only [Bool.and_eq_true, decide_eq_true_eq, Bool.not_eq_true'] at h
      obtain ⟨⟨⟨⟨⟨⟨rfl, h1⟩, h2⟩, h3⟩, h4⟩, h5⟩, h6⟩ := h
      have q := case_ch (pos := ‹_›) g h1 h2 h3 (sE a g h4).pe (sE b g h5).pe (sE c g h6).pe
      exact .test q.1 q.2 rfl
    · cases h
  | .call f as, X, Γ, g, e, κ, h => by
    simp only [ckE] at h
    split at h
    · simp only [Bool.and_eq_true] at h
      obtain ⟨h1, h⟩ := h
      split at h
      · rename_i sg hf
        simp only [Bool.and_eq_true, Bool.or_eq_true, decide_eq_true_eq] at h
        obtain ⟨⟨⟨⟨⟨⟨h2, h3⟩, h4⟩, h5⟩, h6⟩, h7⟩, h8⟩ := h
        have q := sAs as g h6
        exact .plain (case_call g hf h2 h1 h3 h4 q.len q.pos q.arg h7 h8) rfl
      · cases h
    · cases h
  | .comp tg it ifs elt, X, Γ, g, e, κ, h => by
    simp only [ckE] at h
    split at h
    · rename_i x t i cs scope p
      simp only [Bool.and_eq_true] at h
      obtain ⟨⟨⟨⟨⟨⟨⟨⟨h1, h2⟩, h3⟩, h4⟩, h5⟩, h6⟩, h7⟩, h8⟩, h9⟩ := h
      have ok := blkOk_by h4
      refine .plain (peImp (pe_fz (case_comp (elt := elt) (ifs := ifs) g h1 (sIt it g h2 h9) h3 h4 h5 (fun s H C cl fp => sIf ifs (good_blk g ok) h6) (fun s H C cl fp => (sE elt (good_blk g ok) h7).pe))) fun σ H Q ⟨G, fx, env, As, d, env', S, e, k⟩ => comp_end g h1 h4 h5 S e k) rfl
    · cases h
  | .pop i a, X, Γ, g, e, κ, h => by
    simp only [ckE] at h
    split at h
    · simp only [Bool.and_eq_true, decide_eq_true_eq] at h
      obtain ⟨⟨⟨⟨⟨⟨rfl, h1⟩, rfl⟩, h2⟩, h3⟩, h4⟩, h5⟩ := h
      split at h3
      · rename_i m hm
        exact .plain (case_pop g h1 h2 hm (by simpa using h3) h4 (sE a g h5).pe) rfl
      · cases h3
    · cases h
  | .dget i a, X, Γ, g, e, κ, h => by
    simp only [ckE] at h
    split at h
    · simp only [Bool.and_eq_true, decide_eq_true_eq] at h
      obtain ⟨⟨⟨⟨rfl, h1⟩, h2⟩, h3⟩, h4⟩ := h
      split at h2
      · exact .plain (case_dget g h1 ‹_› h3 (sE a g h4).pe) rfl
      · cases h2
    · cases h
  | .dct a, X, Γ, g, e, κ, h => by
    simp only [ckE] at h
    split at h
    · simp only [Bool.and_eq_true, decide_eq_true_eq] at h
      obtain ⟨⟨⟨⟨rfl, h1⟩, h2⟩, h3⟩, h4⟩ := h
      exact .plain (case_dct g h1 h2 h3 (sE a g h4).pe) rfl
    · cases h
  | .dcm tg it ifs k v, X, Γ, g, e, κ, h => by
    simp only [ckE] at h
    split at h
    · rename_i kx vx t i cs scope p
      simp only [Bool.and_eq_true, decide_eq_true_eq] at h
      obtain ⟨⟨⟨⟨⟨⟨⟨⟨⟨rfl, h2⟩, h3⟩, h4⟩, h5⟩, h6⟩, h7⟩, h7v⟩, h8⟩, h9⟩ := h
      have ok := blkOk_by h4
      refine .plain (peImp (pe_fzD (case_dcm (k := k) (v := v) (ifs := ifs) g (sIt it g h2 h9) h3 h4 h5 (fun s H C cl fp => sIf ifs (good_blk g ok) h6) (fun s H C cl fp => (sE k (good_blk g ok) h7).pe) (fun s H C cl fp => (sE v (good_blk g ok) h7v).pe))) fun σ H Q ⟨G, fx, env, As, d, env', S, e, q⟩ => dcm_end g h4 h5 S e q) rfl
    · cases h
  | .pd a b, X, Γ, g, e, κ, h => by
    simp only [ckE] at h
    split at h
    · simp only [Bool.and_eq_true, decide_eq_true_eq] at h
      obtain ⟨⟨⟨⟨rfl, h1⟩, h2⟩, h3⟩, h4⟩ := h
      exact .plain (case_pd h1 h2 (sE a g h3).pe (sE b g h4).pe) rfl
    · cases h
  | .kcall f ns pm as, X, Γ, g, e, κ, h => by
    simp only [ckE] at h
    split at h
    · simp only [Bool.and_eq_true] at h
      obtain ⟨h1, h⟩ := h
      split at h
      · rename_i sg hf
        simp only [Bool.and_eq_true, decide_eq_true_eq, List.all_eq_true] at h
        obtain ⟨⟨⟨⟨⟨⟨⟨h2, rfl⟩, h4⟩, h5⟩, h6⟩, h7⟩, rfl⟩, h9⟩ := h
        exact .plain (case_kcall g hf h2 h1 h4 h5 h6 (by simpa using h7) (sKs as g h9)) rfl
      · cases h
    · cases h
theorem sKs : ∀ (as : List Dv.E) {X : Cx} {Γ : Gam} (g : Good X Γ cal) {ns : List Str} {ks : List Keyword}, ckKs Γ ns as ks = true → PKs X Γ cal ns as ks
  | [], X, Γ, g, ns, ks, h => by
    unfold ckKs at h
    split at h
    · exact .nil
    · rename_i z; cases z
    · cases h
  | a :: as, X, Γ, g, ns, ks, h => by
    unfold ckKs at h
    split at h
    · rename_i z; cases z
    · rename_i z
      cases z
      simp only [Bool.and_eq_true, decide_eq_true_eq] at h
      obtain ⟨⟨rfl, h1⟩, h2⟩ := h
      exact .cons (sE a g h1).pe (sKs as g h2)
    · cases h
theorem sOs : ∀ (as : List Dv.E) {X : Cx} {Γ : Gam} (g : Good X Γ cal) {es : List Expr}, ckOs Γ as es = true → POs X Γ cal as es
  | [], X, Γ, g, es, h => by
    cases es with
    | nil => exact .nil
    | cons _ _ => simp only [ckOs] at h; cases h
  | a :: as, X, Γ, g, es, h => by
    cases es with
    | nil => cases a <;> simp only [ckOs] at h <;> cases h
    | cons e es =>
      cases hb : bOf a with
      | some i =>
        have := bOf_some hb
        subst this
        simp only [ckOs, Bool.and_eq_true] at h
        exact .cons (slotE g h.1) (sOs as g h.2)
      | none =>
        have hn := bOf_none hb
        have h' : (ckE Γ a e .sh && ckOs Γ as es) = true := by cases a <;> first | exact h | exact absurd rfl (hn _)
        rw [Bool.and_eq_true] at h'
        exact .cons (by rw [tO_ne hn]; exact (sE a g h'.1).pe) (sOs as g h'.2)
theorem sEs : ∀ (as : List Dv.E) {X : Cx} {Γ : Gam} (g : Good X Γ cal) {es : List Expr}, ckEs Γ as es = true → PEs X Γ cal as es
  | [], X, Γ, g, es, h => by
    cases es with
    | nil => exact .nil
    | cons _ _ => simp only [ckEs] at h; cases h
  | a :: as, X, Γ, g, es, h => by
    cases es with
    | nil => simp only [ckEs] at h; cases h
    | cons e es =>
      simp only [ckEs, Bool.and_eq_true] at h
      exact .cons h.1.1 (sE a g h.1.2).pe (sEs as g h.2)
theorem sAs : ∀ (as : List Dv.E) {X : Cx} {Γ : Gam} (g : Good X Γ cal) {es : List Expr} {ts : List Ty}, ckAs Γ as es ts = true → AsOk X Γ cal as es ts
  | [], X, Γ, g, es, ts, h => by
    cases es with
    | nil => cases ts with
      | nil => exact ⟨.nil, rfl, fun j a τ q => by simp at q⟩
      | cons _ _ => simp only [ckAs] at h; cases h
    | cons _ _ => simp only [ckAs] at h; cases h
  | a :: as, X, Γ, g, es, ts, h => by
    cases es with
    | nil => cases a <;> simp only [ckAs] at h <;> cases h
    | cons e es =>
      cases ts with
      | nil => cases a <;> simp only [ckAs] at h <;> cases h
      | cons τ ts =>
        cases hb : bOf a with
        | some i =>
          have := bOf_some hb
          subst this
          simp only [ckAs, Bool.and_eq_true] at h
          exact .cons (slotE g h.1.1) h.1.2 (sAs as g h.2)
        | none =>
          have hn := bOf_none hb
          have h' : (argB a τ Γ.ty && ckE Γ a e .sh && ckAs Γ as es ts) = true := by cases a <;> first | exact h | exact absurd rfl (hn _)
          simp only [Bool.and_eq_true] at h'
          exact .cons (by rw [tO_ne hn]; exact (sE a g h'.1.2).pe) h'.1.1 (sAs as g h'.2)
theorem sP : ∀ (o : Option Dv.E) {X : Cx} {Γ : Gam} (g : Good X Γ cal) {oe : Option Expr}, ckP Γ o oe = true → PO X oe (TDp X.K Γ.ty cal o)
  | none, X, Γ, g, oe, h => by
    cases oe with
    | none => exact case_p0
    | some _ => simp only [ckP] at h; cases h
  | some a, X, Γ, g, oe, h => by
    cases oe with
    | none => simp only [ckP] at h; cases h
    | some e => simp only [ckP] at h; exact case_p1 (sE a g h).pe
theorem sIf : ∀ (o : Option Dv.E) {X : Cx} {Γ : Gam} (g : Good X Γ cal) {es : List Expr}, ckIf Γ o es = true → PTs X es (TDf X.K Γ.ty (evIf cal o))
  | none, X, Γ, g, es, h => by
    cases es with
    | nil => exact tfNone
    | cons _ _ => simp only [ckIf] at h; cases h
  | some a, X, Γ, g, es, h => by
    cases es with
    | nil => simp only [ckIf] at h; cases h
    | cons e es => cases es with
      | cons _ _ => simp only [ckIf] at h; cases h
      | nil =>
        simp only [ckIf] at h
        exact tfSome ((sE a g h).pt rfl)
theorem sIt : ∀ (it : Dv.It) {X : Cx} {Γ : Gam} (g : Good X Γ cal) {tg e : Expr}, ckIt Γ it e = true → itTg it tg = true → PI X tg e (TDi X.K Γ.ty (lockTy Γ.ty it) (evIt cal it))
  | .seq a, X, Γ, g, tg, e, h, _ => by
    cases hb : bOf a with
    | some i =>
      have := bOf_some hb
      subst this
      simp only [ckIt] at h
      split at h
      · rw [Bool.and_eq_true] at h
        obtain ⟨h1, h2⟩ := h
        split at h2
        · rename_i m hm
          exact it_slot g h1 hm
        · cases h2
      · cases h
    | none =>
      have hn := bOf_none hb
      have h' : ckE Γ a e .sh = true := by cases a <;> first | exact h | exact absurd rfl (hn _)
      have hl : lockTy Γ.ty (.seq a) = Γ.ty := by cases a <;> first | rfl | exact absurd rfl (hn _)
      rw [hl]
      exact it_seq hn (sE a g h').pe
  | .rng as, X, Γ, g, tg, e, h, _ => by
    simp only [ckIt] at h
    split at h
    · simp only [Bool.and_eq_true, Bool.or_eq_true, decide_eq_true_eq] at h
      obtain ⟨⟨⟨h1, h2⟩, h3⟩, h4⟩ := h
      exact it_rng g h1 h2 (sEs as g h3) h4
    · cases h
  | .enm as, X, Γ, g, tg, e, h, ht => by
    simp only [ckIt] at h
    split at h
    · simp only [Bool.and_eq_true, decide_eq_true_eq] at h
      obtain ⟨⟨⟨h1, h2⟩, h3⟩, h4⟩ := h
      exact it_enm g h1 h2 (sEs as g h3) h4 ht
    · cases h
  | .zip as, X, Γ, g, tg, e, h, ht => by
    simp only [ckIt] at h
    split at h
    · simp only [Bool.and_eq_true, decide_eq_true_eq] at h
      obtain ⟨⟨⟨h1, h2⟩, h3⟩, h4⟩ := h
      exact it_zip g h1 h2 (sEs as g h3) h4 ht
    · cases h
end
end
end Dv
end
section
namespace Dv
open PySem PySem.Spec PyProof.Rows L2

/-! ### statements, evaluated -/
def Res.sres {α : Type} (r : Res α) (f : α → Env → SRes) : SRes := match r with
  | .ok a env => f a env
  | .ex x env => .ex x env
  | .bad => .bad
def SRes.seq (r : SRes) (f : Env → SRes) : SRes := match r with
  | .nx env => f env
  | r => r
section
variable (cal : Nat → List PyData → CRes) (fuel : Nat)
mutual
def evS : S → Env → SRes
  | .set i e, env => (evE cal e env).sres fun d env => .nx (env.set i (some d))
  | .unp is e, env => (evE cal e env).sres fun d env => match setTg (.tup is) d env with | some env => .nx env | none => .bad
  | .par is es, env => (evEs cal es env).sres fun ds env => match is, ds with
    | [i, j], [a, b] => .nx ((env.set i (some a)).set j (some b))
    | _, _ => .bad
  | .setix i k e, env => (evE cal e env).sres fun d env => match fetch env i with
    | none => .bad
    | some _ => (evE cal k env).sres fun kd env => match fetch env i, kd with
      | some (.list xs), .int j => match ixN xs.length j with
        | some n => .nx (env.set i (some (.list (xs.set n d))))
        | none => .bad
      | _, _ => .bad
  | .setk i k e, env => (evE cal e env).sres fun d env => match fetch env i with
    | none => .bad
    | some _ => (evE cal k env).sres fun kd env => match fetch env i, kd with
      | some (.dict ds), .str x => if ds.length < sizeLine then .nx (env.set i (some (.dict (dPut ds x d)))) else .bad
      | _, _ => .bad
  | .unp2 i j e, env => (evE cal e env).sres fun d env => match d with
    | .dict [(x, .dict ds)] => .nx ((env.set i (some x)).set j (some (.dict ds)))
    | _ => .bad
  | .par3 i j l a b c, env => (evEs cal [a, b, c] env).sres fun ds env => match ds with
    | [x, y, z] => .nx (((env.set i (some x)).set j (some y)).set l (some z))
    | _ => .bad
  | .app i e, env => match fetch env i with
    | none => .bad
    | some _ => (evE cal e env).sres fun d env => match fetch env i with
      | some (.list xs) => if xs.length < sizeLine then .nx (env.set i (some (.list (xs ++ [d])))) else .bad
      | _ => .bad
  | .ins i k e, env => match fetch env i with
    | none => .bad
    | some _ => (evE cal k env).sres fun kd env => (evE cal e env).sres fun d env => match fetch env i, kd with
      | some (.list xs), .int j => if xs.length < sizeLine ∧ 0 ≤ j ∧ j < 2 ^ 62 then .nx (env.set i (some (.list (xs.take j.toNat ++ [d] ++ xs.drop j.toNat)))) else .bad
      | _, _ => .bad
  | .ite c a b, env => (evIf cal (some c) env).sres fun t env => if t then evSs a env else evSs b env
  | .for tg it body, env => (evIt cal it env).sres fun xs env => forL (fun x e => match setTg tg x e with
    | none => .bad
    | some e => evSs body e) xs env
  | .whl c body, env => whileL (evIf cal (some c)) (evSs body) fuel env
  | .ret e, env => (evE cal e env).sres fun d env => .ret d env
  | .retN, env => .ret .none env
  | .ex e, env => (evE cal e env).sres fun _ env => .nx env
  | .pass, env => .nx env
  | .brk, env => .bk env
  | .cont, env => .ct env
  | .nev, _ => .bad
def evSs : List S → Env → SRes
  | [], env => .nx env
  | s :: r, env => (evS s env).seq (evSs r)
end
end

/-! ### statements, checked -/
def notCmp : Expr → Bool
  | .ListComp _ _ _ _ => false
  | .SetComp _ _ _ _ => false
  | .DictComp _ _ _ _ _ => false
  | _ => true
/-- the name is stored in the comprehension's own turn -/
def swC (Γ : Gam) (y : Str) (py : Pos) : Expr → Bool
  | .ListComp _ _ sc p => decide (Γ.sc.names.lookup y = some .local) && (py.line == p.line) && !(sc.names.any fun (n, k) => n == y && (k == .local || k == .cell))
  | _ => false
def isFun : ScopeKind → Bool
  | .function => true
  | _ => false
def docB : Expr → Bool
  | .Constant (.str _) _ _ => true
  | _ => false
/-- one of the names is no plain local: a tuple is made and taken apart -/
def apartB (Γ : Gam) : Expr → Expr → Bool
  | .Tuple ts _ _, .Tuple _ _ _ => ts.any fun t => match t with | .Name x _ => !decide (Γ.sc.names.lookup x = some .local) | _ => false
  | _, .Tuple _ _ _ => false
  | _, _ => true
mutual
def ckS (Γ : Gam) (ρ : Ty) : S → Stmt → Bool
  | .set i e, st => match st with
    | .Assign [.Name x py] v p => isFun Γ.sc.kind && (match v with | .ListComp _ _ _ _ => true | .DictComp _ _ _ _ _ => true | _ => notCmp v) && storB Γ i x && (match Γ.ty[i]? with | some τ => ckE Γ e v τ | none => false)
    | _ => false
  | .unp is e, st => match st with
    | .Assign [tg] v p => (match tg with | .Tuple _ _ _ => true | _ => false) && apartB Γ tg v && notCmp v && ckTg Γ (.tup is) tg && ckE Γ e v .sh
    | _ => false
  | .par is es, st => match is, st with
    | [i, j], .Assign [.Tuple [.Name x px, .Name y py] _ _] (.Tuple [a, b] _ _) p => isFun Γ.sc.kind && storB Γ i x && storB Γ j y && decide (Γ.sc.names.lookup x = some .local) && decide (Γ.sc.names.lookup y = some .local) && !decide (i = j) && !decide (x = y) && (px.line == py.line) && !([a, b].all (foldedForSure 8)) && !([a, b].all (constantsAlone 8)) && (match es, Γ.ty[i]?, Γ.ty[j]? with | [e1, e2], some τ1, some τ2 => notStar a && notStar b && ckE Γ e1 a τ1 && ckE Γ e2 b τ2 | _, _, _ => false)
    | _, _ => false
  | .setix i k e, st => match st with
    | .Assign [.Subscript (.Name x p1) ix p2] v p => notCmp v && notSl ix && slotB Γ i x && (match Γ.ty[i]? with | some (.lst m) => !decide (m = .bor) | _ => false) && ckE Γ k ix .sh && ckE Γ e v .sh
    | _ => false
  | .setk i k e, st => match st with
    | .Assign [.Subscript (.Name x p1) ix p2] v p => notCmp v && notSl ix && slotB Γ i x && (match Γ.ty[i]? with | some (.dic m) => !decide (m = .bor) | _ => false) && ckE Γ k ix .sh && ckE Γ e v .sh
    | _ => false
  | .unp2 i j e, st => match st with
    | .Assign [.Tuple [.Name x px, .Name y py] _ _] v p => (match v with | .Tuple _ _ _ => false | _ => true) && notCmp v && storB Γ i x && storB Γ j y && decide (Γ.ty[i]? = some .sh) && decide (Γ.ty[j]? = some (.dic .own)) && !decide (i = j) && ckE Γ e v .pd
    | _ => false
  | .par3 i j l e1 e2 e3, st => match st with
    | .Assign [.Tuple [.Name x px, .Name y py, .Name z pz] _ _] (.Tuple [a, b, c] _ _) p => isFun Γ.sc.kind && (storB Γ i x && storB Γ j y && storB Γ l z) && (decide (Γ.sc.names.lookup x = some .local) && decide (Γ.sc.names.lookup y = some .local) && decide (Γ.sc.names.lookup z = some .local)) && (!decide (i = j) && !decide (i = l) && !decide (j = l)) && (!decide (x = y) && !decide (x = z) && !decide (y = z)) && ((px.line == py.line) && (px.line == pz.line)) && !([a, b, c].all (foldedForSure 8)) && !([a, b, c].all (constantsAlone 8)) && (match Γ.ty[i]?, Γ.ty[j]?, Γ.ty[l]? with | some τ1, some τ2, some τ3 => notStar a && notStar b && notStar c && ckE Γ e1 a τ1 && ckE Γ e2 b τ2 && ckE Γ e3 c τ3 | _, _, _ => false)
    | _ => false
  | .app i e, st => match st with
    | .Expr (.Call (.Attribute (.Name x _) m ap) [y] [] cp) _ => (ap.endLine == cp.line) && decide (m = "append") && slotB Γ i x && (match Γ.ty[i]? with | some (.lst m) => !decide (m = .bor) | _ => false) && notStar y && ckE Γ e y .sh
    | _ => false
  | .ins i k e, st => match st with
    | .Expr (.Call (.Attribute (.Name x _) m ap) [z, y] [] cp) _ => (ap.endLine == cp.line) && decide (m = "insert") && slotB Γ i x && (match Γ.ty[i]? with | some (.lst m) => !decide (m = .bor) | _ => false) && notStar y && notStar z && ckE Γ k z .sh && ckE Γ e y .sh
    | _ => false
  | .ite c a b, st => match st with
    | .If t x y _ => ckE Γ c t .sh && ckSs Γ ρ a x && ckSs Γ ρ b y
    | _ => false
  | .for tg it body, st => match st with
    | .For te ie bs [] _ => notSet ie && ckIt Γ it ie && ckTg { Γ with ty := lockTy Γ.ty it } tg te && ckSs { Γ with ty := lockTy Γ.ty it } ρ body bs && itTg it te
    | _ => false
  | .whl c body, st => match st with
    | .While t bs [] _ => ckE Γ c t .sh && ckSs Γ ρ body bs
    | _ => false
  | .ret e, st => match st with
    | .Return (some v) _ => ckE Γ e v ρ
    | _ => false
  | .retN, st => match st with
    | .Return none _ => decide (ρ = .sh)
    | _ => false
  | .ex e, st => match st with
    | .Expr v _ => notCmp v && ckE Γ e v .sh
    | _ => false
  | .pass, st => match st with
    | .Pass _ => true
    | .Expr (.Constant (.str _) _ _) _ => true
    | _ => false
  | .brk, st => match st with
    | .Break _ => true
    | _ => false
  | .cont, st => match st with
    | .Continue _ => true
    | _ => false
  | .nev, _ => true
def ckSs (Γ : Gam) (ρ : Ty) : List S → List Stmt → Bool
  | [], [] => true
  | s :: r, st :: sts => ckS Γ ρ s st && ckSs Γ ρ r sts
  | _, _ => false
end

/-! ### what is wanted behind a statement -/
def SPost (K : PySem.W.Frag) (ty : List Ty) (ρ : Ty) (G : Addr → Prop) (fx : Nat → Option V) (H : Hp) (D : Ends) : SRes → Prop
  | .nx e => ∀ σ' H' As', SR K ty G fx H' σ' e As' → Fr G H H' → Ext H H' → D.nx σ' H'
  | .bk e => ∀ σ' H' As', SR K ty G fx H' σ' e As' → Fr G H H' → Ext H H' → D.bk σ' H'
  | .ct e => ∀ σ' H' As', SR K ty G fx H' σ' e As' → Fr G H H' → Ext H H' → D.ct σ' H'
  | .ret d e => ∀ v σ' H' As' A, SR K ty G fx H' σ' e As' → Rep K G H' ρ v d A → (∀ a ∈ A, ¬ G a ∧ H' a ≠ none ∧ ∀ i, a ∉ As' i) → Fr G H H' → Ext H H' → D.rt v H'
  | .ex _ _ => False
  | .bad => False
def TSd (K : PySem.W.Frag) (ty : List Ty) (ρ : Ty) (ev : Env → SRes) : TS := fun D σ H => ∃ G fx env As, SR K ty G fx H σ env As ∧ SPost K ty ρ G fx H D (ev env)
section
variable {K : PySem.W.Frag} {ty : List Ty} {ρ : Ty} {G : Addr → Prop} {fx : Nat → Option V} {H H' : Hp} {D : Ends}
theorem SPost.later {r : SRes} (h : SPost K ty ρ G fx H D r) (f : Fr G H H') (x : Ext H H') : SPost K ty ρ G fx H' D r := by
  cases r with
  | nx e => exact fun σ' H2 As' S f2 x2 => h σ' H2 As' S (f.trans f2) (x.trans x2)
  | bk e => exact fun σ' H2 As' S f2 x2 => h σ' H2 As' S (f.trans f2) (x.trans x2)
  | ct e => exact fun σ' H2 As' S f2 x2 => h σ' H2 As' S (f.trans f2) (x.trans x2)
  | ret d e => exact fun v σ' H2 As' A S r o f2 x2 => h v σ' H2 As' A S r o (f.trans f2) (x.trans x2)
  | ex _ _ => exact h
  | bad => exact h
end
theorem psImp {X : Cx} {e : Stmt} {t t' : TS} (h : PS X e t) (i : ∀ D σ H, t' D σ H → t D σ H) : PS X e t' := ⟨fun pins s σ H D I q => h.run pins s σ H D I (i D σ H q)⟩
theorem pssImp {X : Cx} {e : List Stmt} {t t' : TS} (h : PSs X e t) (i : ∀ D σ H, t' D σ H → t D σ H) : PSs X e t' := ⟨fun pins s σ H D I q => h.run pins s σ H D I (i D σ H q)⟩
/-- .. an expression first -/
theorem sp_sres {K : PySem.W.Frag} {ty : List Ty} {ρ : Ty} {G : Addr → Prop} {fx : Nat → Option V} {H : Hp} {D : Ends} {α : Type} {r : Res α} {f : α → Env → SRes} (h : SPost K ty ρ G fx H D (r.sres f)) : ∃ a env, r = .ok a env ∧ SPost K ty ρ G fx H D (f a env) := by
  cases r with
  | ok a e => exact ⟨a, e, rfl, h⟩
  | ex x e => exact h.elim
  | bad => exact h.elim
section
variable {X : Cx} {Γ : Gam} {cal : Nat → List PyData → CRes} {fuel : Nat} {ρ : Ty}
theorem pss_seq {st : Stmt} {sts : List Stmt} {s : S} {r : List S} (h1 : PS X st (TSd X.K Γ.ty ρ (evS cal fuel s))) (h2 : PSs X sts (TSd X.K Γ.ty ρ (evSs cal fuel r))) : PSs X (st :: sts) (TSd X.K Γ.ty ρ (evSs cal fuel (s :: r))) := by
  refine pssImp (pss_cons h1 h2) fun D σ H ⟨G, fx, env, As, S, p⟩ => ⟨G, fx, env, As, S, ?_⟩
  simp only [evSs] at p
  cases q : evS cal fuel s env with
  | nx e =>
    rw [q] at p
    exact fun σ' H' As' S' f x => ⟨G, fx, e, As', S', p.later f x⟩
  | bk e => rw [q] at p; exact p
  | ct e => rw [q] at p; exact p
  | ret d e => rw [q] at p; exact p
  | ex _ _ => rw [q] at p; exact p
  | bad => rw [q] at p; exact p
theorem pss_none : PSs X [] (TSd X.K Γ.ty ρ (evSs cal fuel [])) := pssImp pss_nil fun D σ H ⟨G, fx, env, As, S, p⟩ => by
  simp only [evSs] at p
  exact p σ H As S (Fr.refl _ _) (Ext.refl _)
end
end Dv
end
section
namespace Dv
open PySem PySem.Spec PyProof.Rows L2

def tFzS (t : TS) : TS := fun D σ H => t { D with nx := fun σ' H' => D.nx σ' H' ∨ ∃ p vs, H' p = some (.lst vs) ∧ ∀ o, D.nx σ' (upd H' p (.frz o (.lst vs))) } σ H
theorem ps_fz {X : Cx} {st : Stmt} {t : TS} (h : PS X st t) : PS X st (tFzS t) := by
  refine ⟨fun pins s σ H D I q => thn (h.run pins s σ H _ I q) fun f s1 z => ?_⟩
  cases f with
  | next =>
    obtain ⟨σ', H', I', z⟩ := z
    rcases z with z | ⟨p, vs, hp, z⟩
    · exact ⟨σ', H', I', z⟩
    · obtain ⟨o, I2⟩ := I'.lock hp True.intro
      exact ⟨σ', _, I2, z o⟩
  | brk => exact z
  | cont => exact z
  | ret v => exact z
theorem tLc_mono {K : PySem.W.Frag} {ty lk : List Ty} {ev : Env → Res (List PyData)} {g : TG} {tt : TT} {te : TE} {vs : List Nat} {σ : L2.St} {H : Hp} {Q Q' : VK} (m : ∀ v H, Q v H → Q' v H) (h : tLc (TDi K ty lk ev) g tt te vs σ H Q) : tLc (TDi K ty lk ev) g tt te vs σ H Q' := by
  obtain ⟨G, fx, env, As, ds, env', S, e, k⟩ := h
  refine ⟨G, fx, env, As, ds, env', S, e, fun J H' G' fx' As' Gst a1 a2 a3 a4 a5 a6 a7 a8 D hD => ?_⟩
  obtain ⟨W, w0, w⟩ := k J H' G' fx' As' Gst a1 a2 a3 a4 a5 a6 a7 a8 D hD
  exact ⟨W, w0, fun i n H hw => (w i n H hw).imp (fun q => ⟨q.1, m _ _ q.2⟩) id⟩
theorem notCmp_sw {v : Expr} (h : notCmp v = true) (t : Option Expr) (l : Nat) (env : PySem.Env) : swapsWith v t l env = pure false := by
  cases v <;> first | rfl | cases h
theorem sw_sole {t v : Expr} (h : notCmp v = true) (l : Nat) (env : PySem.Env) : swapsWithSole [t] v l env = pure false := by
  show swapsWith v (some t) l env = pure false
  exact notCmp_sw h _ _ _
theorem sw_stores {env : PySem.Env} {x y : Str} {px py pt pt2 : Pos} {a b : Expr} {kt k2 : Nat} (hb : env.blockKind = .function) (kx : env.kindOf x = some .local) (ky : env.kindOf y = some .local) (hxy : x ≠ y) (hl : (px.line == py.line) = true) (na : notStar a = true) (nb : notStar b = true) (hf : [a, b].all (foldedForSure 8) = false) (hc : [a, b].all (constantsAlone 8) = false) :
    swappedStores [.Tuple [.Name x px, .Name y py] kt pt] (.Tuple [a, b] k2 pt2) env = pure (some [x, y]) := by
  have e : [x, y].eraseDups = [x, y] := by
    simp [List.eraseDups_cons, Ne.symm hxy]
  have l' : (py.line == px.line) = true := beq_iff_eq.mpr (beq_iff_eq.mp hl).symm
  have sa : ([a, b].any fun | .Starred .. => true | _ => false) = false := by
    have h1 : ∀ {c : Expr}, notStar c = true → (match c with | .Starred .. => true | _ => false) = false := fun {c} h => by cases c <;> first | rfl | cases h
    simp only [List.any_cons, List.any_nil, h1 na, h1 nb, Bool.or_false]
  unfold swappedStores
  simp only [List.length_cons, List.length_nil, hb]
  have k1 : (env.kindOf x == some NameKind.local) = true := by rw [kx]; rfl
  have k2 : (env.kindOf y == some NameKind.local) = true := by rw [ky]; rfl
  have l0 : (px.line == px.line) = true := beq_self_eq_true _
  simp only [List.filterMap_cons, List.filterMap_nil, k1, k2, l', l0, Bool.true_and, Bool.and_true, List.head?_cons, Option.map_some, Option.getD_some, Expr.pos, if_true, e, hf, hc]
  refine (if_neg (by decide)).trans ?_
  refine (if_neg (by rw [Bool.not_eq_true]; exact sa)).trans ?_
  rfl
theorem sw_stores3 {env : PySem.Env} {x y z : Str} {px py pz pt pt2 : Pos} {a b c : Expr} {kt k2 : Nat} (hb : env.blockKind = .function) (kx : env.kindOf x = some .local) (ky : env.kindOf y = some .local) (kz : env.kindOf z = some .local) (hxy : x ≠ y) (hxz : x ≠ z) (hyz : y ≠ z) (hl : (px.line == py.line) = true) (hl2 : (px.line == pz.line) = true) (na : notStar a = true) (nb : notStar b = true) (nc : notStar c = true) (hf : [a, b, c].all (foldedForSure 8) = false) (hc : [a, b, c].all (constantsAlone 8) = false) :
    swappedStores [.Tuple [.Name x px, .Name y py, .Name z pz] kt pt] (.Tuple [a, b, c] k2 pt2) env = pure (some [x, y, z]) := by
  have e : [x, y, z].eraseDups = [x, y, z] := by
    simp [List.eraseDups_cons, Ne.symm hxy, Ne.symm hxz, Ne.symm hyz]
  have l' : (py.line == px.line) = true := beq_iff_eq.mpr (beq_iff_eq.mp hl).symm
  have l2 : (pz.line == px.line) = true := beq_iff_eq.mpr (beq_iff_eq.mp hl2).symm
  have sa : ([a, b, c].any fun | .Starred .. => true | _ => false) = false := by
    have h1 : ∀ {c : Expr}, notStar c = true → (match c with | .Starred .. => true | _ => false) = false := fun {c} h => by cases c <;> first | rfl | cases h
    simp only [List.any_cons, List.any_nil, h1 na, h1 nb, h1 nc, Bool.or_false]
  unfold swappedStores
  simp only [List.length_cons, List.length_nil, hb]
  have k1 : (env.kindOf x == some NameKind.local) = true := by rw [kx]; rfl
  have k2 : (env.kindOf y == some NameKind.local) = true := by rw [ky]; rfl
  have k3 : (env.kindOf z == some NameKind.local) = true := by rw [kz]; rfl
  have l0 : (px.line == px.line) = true := beq_self_eq_true _
  simp only [List.filterMap_cons, List.filterMap_nil, k1, k2, k3, l', l2, l0, Bool.true_and, Bool.and_true, List.head?_cons, Option.map_some, Option.getD_some, Expr.pos, if_true, e, hf, hc]
  refine (if_neg (by decide)).trans ?_
  refine (if_neg (by rw [Bool.not_eq_true]; exact sa)).trans ?_
  rfl
theorem sw_lc {elt : Expr} {gs : List Comprehension} {scope : Scope} {pos py : Pos} {y : Str} {l : Nat} {env : PySem.Env} (hk : env.scope.kind = .function) :
    swapsWith (.ListComp elt gs scope pos) (some (.Name y py)) l env = pure ((env.kindOf y == some .local && py.line == pos.line) && !(scope.names.any fun (n, k) => n == y && (k == .local || k == .cell))) := by
  have hb : env.blockKind = .function := by unfold Env.blockKind; rw [hk]; rfl
  unfold swapsWith
  simp only [hb, Expr.pos]
  rfl
theorem sw_dc {kx vx : Expr} {gs : List Comprehension} {scope : Scope} {pos py : Pos} {y : Str} {l : Nat} {env : PySem.Env} (hk : env.scope.kind = .function) :
    swapsWith (.DictComp kx vx gs scope pos) (some (.Name y py)) l env = pure ((env.kindOf y == some .local && py.line == pos.line) && !(scope.names.any fun (n, k) => n == y && (k == .local || k == .cell))) := by
  have hb : env.blockKind = .function := by unfold Env.blockKind; rw [hk]; rfl
  unfold swapsWith
  simp only [hb, Expr.pos]
  rfl
theorem ck_dc {Γ : Gam} {e : Dv.E} {kx vx : Expr} {gs : List Comprehension} {sc : Scope} {p : Pos} {κ : Ty} (h : ckE Γ e (.DictComp kx vx gs sc p) κ = true) : ∃ tg it ifs k v, e = .dcm tg it ifs k v := by
  cases e with
  | dcm tg it ifs k v => exact ⟨_, _, _, _, _, rfl⟩
  | sl a lo hi => cases a <;> simp [ckE] at h
  | isa a ts => cases a <;> simp [ckE] at h
  | k c => simp only [ckE, Bool.and_eq_true] at h; cases c <;> simp [ckK] at h
  | _ => simp [ckE] at h
/-- y = {k: v for ..}: the last turn's value stored in the comprehension's own turn -/
theorem ps_setDc {X : Cx} {i : Nat} {y : Str} {py : Pos} {kx vx tg iter : Expr} {ifs : List Expr} {scope : Scope} {own : List (Str × Nat)} {pos spos : Pos} {wi : TI} {g : TG} {tt : TT} {tk tv : TE} (hc : X.calm = true) (nd : X.N.Nodup) (yi : X.N[i]? = some y) (yl : X.env.scope.names.lookup y = some .local)
    (sw : swapsWith (.DictComp kx vx [⟨tg, iter, ifs, 0⟩] scope pos) (some (.Name y py)) spos.line X.env = pure true) (hi : PI X tg iter wi) (ok : BlkOk X.N X.env.scope scope own)
    (hg : ∀ (s : Shared) (H : Hp) (C : Addr) (cl : List (Str × Addr)) (fp : List Addr), PG (X.blk s H scope (compEnvC scope cl C X.env) fp) tg g) (ht : ∀ (s : Shared) (H : Hp) (C : Addr) (cl : List (Str × Addr)) (fp : List Addr), PTs (X.blk s H scope (compEnvC scope cl C X.env) fp) ifs tt)
    (hk : ∀ (s : Shared) (H : Hp) (C : Addr) (cl : List (Str × Addr)) (fp : List Addr), PE (X.blk s H scope (compEnvC scope cl C X.env) fp) kx tk) (hv : ∀ (s : Shared) (H : Hp) (C : Addr) (cl : List (Str × Addr)) (fp : List Addr), PE (X.blk s H scope (compEnvC scope cl C X.env) fp) vx tv)
    (hs : ∀ x, foldedSetIterable iter X.env x = pure x) : PS X (.Assign [.Name y py] (.DictComp kx vx [⟨tg, iter, ifs, 0⟩] scope pos) spos) (tAsg (tDc wi g tt tk tv (own.map (·.2))) (gName i)) := by
  refine ⟨fun pins s σ H D I h => ?_⟩
  rw [exec_Assign_Name_used _ _ _ _ sw]
  refine wpAny_bind (wpAny_standAt ?_); refine wpAny_bind ?_
  show wpAny _ X.A (do let _ ← comprehension (.DictComp kx vx [⟨tg, iter, ifs, 0⟩] scope pos) scope X.env (firstIterPos [⟨tg, iter, ifs, 0⟩] pos) newDict false (eval iter X.env) (some (assign (.Name y py) X.env))) _ _ s
  have h2 : tDc wi g tt tk tv (own.map (·.2)) σ H (fun x H1 => gName i x σ H1 D.nx) := h
  refine wpAny_bind (thn (dc_core (Qf := fun _ s' => SP X pins D .next s') hc nd I hi ok hg ht hk hv hs h2 fun Dd C s' m H' I' q hn f => ?_) fun _ s' q => wpAny_pure (wpAny_pure q))
  show wpAny _ _ (assign (.Name y py) X.env (.ref Dd)) _ _ _
  refine wpAny_assign_Name (store_ok2 (v := V.ref Dd) I' nd yi (.inl yl) rfl (fun s2 I2 z => ?_) (.inr yl)); obtain ⟨a, sb, ha⟩ := z
  obtain ⟨f0, f1, f2, f3, f4, f5⟩ := f
  have off : C ≠ a := by
    rcases ha with rfl | z
    · exact f1
    · exact fun e => (f4 y a z) e.symm
  exact ⟨m, hn.sameBut sb off, fun h3 sb3 => ⟨_, H', I2.turned (t' := s2.toks) (fun b o hb e => ((sb3.2 b hb).trans e)) f0 f1 f3 f4 f5, q⟩⟩
theorem tDc_mono {K : PySem.W.Frag} {ty lk : List Ty} {ev : Env → Res (List PyData)} {g : TG} {tt : TT} {tk tv : TE} {vs : List Nat} {σ : L2.St} {H : Hp} {Q Q' : VK} (m : ∀ v H, Q v H → Q' v H) (h : tDc (TDi K ty lk ev) g tt tk tv vs σ H Q) : tDc (TDi K ty lk ev) g tt tk tv vs σ H Q' := by
  obtain ⟨G, fx, env, As, ds, env', S, e, k⟩ := h
  refine ⟨G, fx, env, As, ds, env', S, e, fun J H' G' fx' As' Gst a1 a2 a3 a4 a5 a6 a7 a8 D hD => ?_⟩
  obtain ⟨W, w0, w⟩ := k J H' G' fx' As' Gst a1 a2 a3 a4 a5 a6 a7 a8 D hD
  exact ⟨W, w0, fun i n H hw => (w i n H hw).imp (fun q => ⟨q.1, m _ _ q.2⟩) id⟩
theorem fold_ns {e : Expr} (h : notSet e = true) (env : PySem.Env) : ∀ x, foldedSetIterable e env x = pure x := fun _ => by
  cases e <;> first | rfl | cases h
theorem ck_lc {Γ : Gam} {e : Dv.E} {elt : Expr} {gs : List Comprehension} {sc : Scope} {p : Pos} {κ : Ty} (h : ckE Γ e (.ListComp elt gs sc p) κ = true) : ∃ tg it ifs ee, e = .comp tg it ifs ee := by
  cases e with
  | comp tg it ifs ee => exact ⟨_, _, _, _, rfl⟩
  | sl a lo hi => cases a <;> simp [ckE] at h
  | isa a ts => cases a <;> simp [ckE] at h
  | k c => simp only [ckE, Bool.and_eq_true] at h; cases c <;> simp [ckK] at h
  | _ => simp [ckE] at h
section
variable {X : Cx} {Γ : Gam} {cal : Nat → List PyData → CRes} {fuel : Nat} {ρ : Ty} {x y v z : Expr} {pos p p1 p2 ap : Pos}
theorem free_ty {i : Nat} {nx : Str} (h : storB Γ i nx = true) : ∃ τ, Γ.ty[i]? = some τ ∧ setB τ = true := by
  unfold storB freeB at h
  simp only [Bool.and_eq_true] at h
  have h2 := h.2
  split at h2
  · exact ⟨_, ‹_›, h2⟩
  · cases h2
theorem sp_set {K : PySem.W.Frag} {ty : List Ty} {G : Addr → Prop} {fx : Nat → Option V} {H : Hp} {D : Ends} {i : Nat} {τ : Ty} {d : PyData} {env1 : Env} {σ : L2.St} (hi : ty[i]? = some τ) (hs : setB τ = true) (p : SPost K ty ρ G fx H D (.nx (env1.set i (some d)))) :
    ∀ v H' As' A, SR K ty G fx H' σ env1 As' → Rep K G H' τ v d A → (∀ a ∈ A, ¬ G a ∧ H' a ≠ none ∧ ∀ i, a ∉ As' i) → Fr G H H' → Ext H H' → D.nx (σ.set i (some v)) H' :=
  fun v H' As' A S' r o f x => p _ H' _ (S'.put hi r (fun a ha => ⟨(o a ha).1, (o a ha).2.1, fun j _ => (o a ha).2.2 j⟩) hs) f x
theorem case_set {i : Nat} {e : Dv.E} {nx : Str} {py : Pos} {τ : Ty} (g : Good X Γ cal) (hk : isFun Γ.sc.kind = true) (hc : (match v with | .ListComp _ _ _ _ => true | .DictComp _ _ _ _ _ => true | _ => notCmp v) = true) (hx : storB Γ i nx = true) (hi : Γ.ty[i]? = some τ) (h : ckE Γ e v τ = true) :
    PS X (.Assign [.Name nx py] v p) (TSd X.K Γ.ty ρ (evS cal fuel (.set i e))) := by
  obtain ⟨n1, n2, n3⟩ := stor_ok g hx
  obtain ⟨τ', q1, hs⟩ := free_ty hx
  rw [hi] at q1; cases q1
  have hN : X.N.Nodup := by rw [g.hN]; exact g.nd
  have fin : swapsWith v (some (.Name nx py)) p.line X.env = pure false → PS X (.Assign [.Name nx py] v p) (TSd X.K Γ.ty ρ (evS cal fuel (.set i e))) := fun sw =>
    psImp (ps_set hN n1 n2 (sE e g h).pe sw n3) fun D σ H ⟨G, fx, env, As, S, q⟩ => by
      simp only [evS] at q
      obtain ⟨d, env1, e1, q⟩ := sp_sres q
      exact ⟨G, fx, env, As, d, env1, S, e1, sp_set hi hs q⟩
  have kf : X.env.scope.kind = .function := by
    rw [g.hsc]
    unfold isFun at hk
    split at hk
    · assumption
    · cases hk
  split at hc
  · rename_i elt gs scope lp
    cases hsw : ((X.env.kindOf nx == some .local && py.line == lp.line) && !(scope.names.any fun (n, k) => n == nx && (k == .local || k == .cell))) with
    | false => exact fin (by rw [sw_lc kf, hsw])
    | true =>
      have sw := sw_lc (elt := elt) (gs := gs) (scope := scope) (pos := lp) (py := py) (y := nx) (l := p.line) kf
      rw [hsw] at sw
      have loc : X.env.scope.names.lookup nx = some .local := by
        simp only [Bool.and_eq_true, beq_iff_eq] at hsw
        exact hsw.1.1
      obtain ⟨tg, it, ifs, ee, rfl⟩ := ck_lc h
      simp only [ckE] at h
      split at h
      · rename_i heq
        cases heq
        simp only [Bool.and_eq_true] at h
        obtain ⟨⟨⟨⟨⟨⟨⟨⟨h1, h2⟩, h3⟩, h4⟩, h5⟩, h6⟩, h7⟩, h8⟩, h9⟩ := h
        have ok := blkOk_by h4
        have key := ps_setLc (X := X) (spos := p) (g := tgT X.K tg) (tt := TDf X.K (lockTy Γ.ty it) (evIf cal ifs)) (te := TDe X.K (lockTy Γ.ty it) (evE cal ee) .sh) g.calm hN n1 loc sw (sIt it g h2 h9) (by rw [g.hN, g.hsc]; exact ok) (fun s H C cl fp => (tg_ok (good_blk (it := it) g ok (s := s) (H := H) (C := C) (cl := cl) (fp := fp)) h5).1) (fun s H C cl fp => sIf ifs (good_blk (it := it) g ok (s := s) (H := H) (C := C) (cl := cl) (fp := fp)) h6) (fun s H C cl fp => (sE ee (good_blk (it := it) g ok (s := s) (H := H) (C := C) (cl := cl) (fp := fp)) h7).pe) (fold_ns h3 _)
        rw [slots_own] at key
        refine psImp (ps_fz key) fun D σ H ⟨G, fx, env, As, S, q⟩ => ?_
        simp only [evS] at q
        obtain ⟨d, env1, e1, q⟩ := sp_sres q
        show tLc (TDi X.K Γ.ty (lockTy Γ.ty it) (evIt cal it)) (tgT X.K tg) (TDf X.K (lockTy Γ.ty it) (evIf cal ifs)) (TDe X.K (lockTy Γ.ty it) (evE cal ee) .sh) (tgSlots tg) σ H fun x H1 => D.nx (σ.set i (some x)) H1 ∨ ∃ p vs, H1 p = some (.lst vs) ∧ ∀ o, D.nx (σ.set i (some x)) (upd H1 p (.frz o (.lst vs)))
        refine tLc_mono ?_ (comp_end (Q := fun v H => D.nx (σ.set _ (some v)) H) g h1 h4 h5 S e1 (sp_set hi hs q))
        rintro v H' (z | ⟨q, vs, rfl, hp, z⟩)
        · exact .inl z
        · exact .inr ⟨q, vs, hp, z⟩
      · cases h
  · rename_i kx vx gs scope lp
    cases hsw : ((X.env.kindOf nx == some .local && py.line == lp.line) && !(scope.names.any fun (n, k) => n == nx && (k == .local || k == .cell))) with
    | false => exact fin (by rw [sw_dc kf, hsw])
    | true =>
      have sw := sw_dc (kx := kx) (vx := vx) (gs := gs) (scope := scope) (pos := lp) (py := py) (y := nx) (l := p.line) kf
      rw [hsw] at sw
      have loc : X.env.scope.names.lookup nx = some .local := by
        simp only [Bool.and_eq_true, beq_iff_eq] at hsw
        exact hsw.1.1
      obtain ⟨tg, it, ifs, ek, ev, rfl⟩ := ck_dc h
      simp only [ckE] at h
      split at h
      · rename_i heq
        cases heq
        simp only [Bool.and_eq_true, decide_eq_true_eq] at h
        obtain ⟨⟨⟨⟨⟨⟨⟨⟨⟨rfl, h2⟩, h3⟩, h4⟩, h5⟩, h6⟩, h7⟩, h7v⟩, h8⟩, h9⟩ := h
        have ok := blkOk_by h4
        have key := ps_setDc (X := X) (spos := p) (g := tgT X.K tg) (tt := TDf X.K (lockTy Γ.ty it) (evIf cal ifs)) (tk := TDe X.K (lockTy Γ.ty it) (evE cal ek) .sh) (tv := TDe X.K (lockTy Γ.ty it) (evE cal ev) .sh) g.calm hN n1 loc sw (sIt it g h2 h9) (by rw [g.hN, g.hsc]; exact ok) (fun s H C cl fp => (tg_ok (good_blk (it := it) g ok (s := s) (H := H) (C := C) (cl := cl) (fp := fp)) h5).1) (fun s H C cl fp => sIf ifs (good_blk g ok) h6) (fun s H C cl fp => (sE ek (good_blk g ok) h7).pe) (fun s H C cl fp => (sE ev (good_blk g ok) h7v).pe) (fold_ns h3 _)
        rw [slots_own] at key
        refine psImp (ps_fzD key) fun D σ H ⟨G, fx, env, As, S, q⟩ => ?_
        simp only [evS] at q
        obtain ⟨d, env1, e1, q⟩ := sp_sres q
        show tDc (TDi X.K Γ.ty (lockTy Γ.ty it) (evIt cal it)) (tgT X.K tg) (TDf X.K (lockTy Γ.ty it) (evIf cal ifs)) (TDe X.K (lockTy Γ.ty it) (evE cal ek) .sh) (TDe X.K (lockTy Γ.ty it) (evE cal ev) .sh) (tgSlots tg) σ H fun x H1 => ∃ p kvs, H1 p = some (.dK kvs) ∧ ∀ o, D.nx (σ.set i (some x)) (upd H1 p (.frz o (.dK kvs)))
        refine tDc_mono ?_ (dcm_end (Q := fun v H => D.nx (σ.set _ (some v)) H) g h4 h5 S e1 (sp_set hi hs q))
        rintro v H' ⟨q, vs, rfl, hp, z⟩
        exact ⟨q, vs, hp, z⟩
      · cases h
  · exact fin (notCmp_sw hc _ _ _)
theorem filt_lt {α β : Type} {f : α → Option β} : ∀ {l : List α} {a : α}, a ∈ l → f a = none → (l.filterMap f).length < l.length
  | b :: l, a, h, q => by
    rcases List.mem_cons.mp h with rfl | h
    · rw [List.filterMap_cons, q]
      exact Nat.lt_succ_of_le (List.length_filterMap_le _ _)
    · have ih := filt_lt h q
      rw [List.filterMap_cons]
      cases f b with
      | none => exact Nat.lt_succ_of_lt ih
      | some c => simp only [List.length_cons]; omega
theorem sw_apart {tg v : Expr} {env : PySem.Env} (hs : env.scope = Γ.sc) (h : apartB Γ tg v = true) : swappedStores [tg] v env = pure none := by
  cases v with
  | Tuple vs k2 p2 =>
    cases tg with
    | Tuple ts kt pt =>
      simp only [apartB] at h
      obtain ⟨t, ht, q⟩ := List.any_eq_true.mp h
      unfold swappedStores
      simp only
      have key : (ts.filterMap fun | .Name id pos => if env.kindOf id == some NameKind.local && pos.line == ((ts.head?.map (·.pos.line)).getD 0) then some id else none | _ => none).length < ts.length := by
        refine filt_lt ht ?_
        cases t with
        | Name x px =>
          simp only [Bool.not_eq_true', decide_eq_false_iff_not] at q
          have : (env.kindOf x == some NameKind.local) = false := by
            show (env.scope.names.lookup x == some NameKind.local) = false
            rw [hs]
            exact beq_eq_false_iff_ne.mpr q
          simp only [this, Bool.false_and]
          rfl
        | _ => rfl
      split
      · rfl
      · split
        · rfl
        · rw [if_pos]
          simp only [Bool.or_eq_true, bne_iff_ne, ne_eq]
          exact .inl (Nat.ne_of_lt key)
    | _ => cases h
  | _ => cases tg <;> rfl
theorem case_unp {is : List Nat} {e : Dv.E} {tg : Expr} (g : Good X Γ cal) (ht : (match tg with | .Tuple _ _ _ => true | _ => false) = true) (hv : apartB Γ tg v = true) (hc : notCmp v = true) (hg : ckTg Γ (.tup is) tg = true) (h : ckE Γ e v .sh = true) :
    PS X (.Assign [tg] v p) (TSd X.K Γ.ty ρ (evS cal fuel (.unp is e))) := by
  obtain ⟨t1, t2⟩ := tg_ok g hg
  refine psImp (ps_asg (sE e g h).pe t1 (by cases tg <;> first | (cases ht; done) | exact sw_sole hc _ _) (sw_apart g.hsc hv) (by cases tg <;> first | (cases ht; done) | rfl)) fun D σ H ⟨G, fx, env, As, S, q⟩ => ?_
  simp only [evS] at q
  obtain ⟨d, env1, e1, q⟩ := sp_sres q
  refine ⟨G, fx, env, As, d, env1, S, e1, fun x H1 As1 A1 S1 r1 _ f1 x1 => ?_⟩
  split at q
  · rename_i e2 hs
    exact t2 x d σ H1 G fx env1 e2 As1 _ S1 r1.sh_inv.1 hs fun σ' As' S' _ => q σ' H1 As' S' f1 x1
  · exact q.elim
theorem case_setix {i : Nat} {k e : Dv.E} {nx : Str} {m : Md} (g : Good X Γ cal) (hc : notCmp v = true) (ns : notSl x = true) (hx : slotB Γ i nx = true) (hi : Γ.ty[i]? = some (.lst m)) (hm : m ≠ .bor) (h1 : ckE Γ k x .sh = true) (h2 : ckE Γ e v .sh = true) :
    PS X (.Assign [.Subscript (.Name nx p1) x p2] v p) (TSd X.K Γ.ty ρ (evS cal fuel (.setix i k e))) := by
  obtain ⟨s1, s2, s3, s4⟩ := slot_ok g hx
  refine psImp (ps_asg (sE e g h2).pe (pg_sub (pe_var s1 s2 s3 s4) (sE k g h1).pe set_list (fun _ => by cases x <;> first | rfl | cases ns)) (sw_sole hc _ _) (by cases v <;> rfl)) fun D σ H ⟨G, fx, env, As, S, q⟩ => ?_
  simp only [evS] at q
  obtain ⟨d, env1, e1, q⟩ := sp_sres q
  refine ⟨G, fx, env, As, d, env1, S, e1, fun x H1 As1 A1 S1 r1 _ f1 x1 => ?_⟩
  obtain ⟨hv, _⟩ := r1.sh_inv
  split at q
  · exact q.elim
  · rename_i d0 hf0
    obtain ⟨kd, env2, e2, q⟩ := sp_sres q
    obtain ⟨a0, ws0, ds0, hσ, _, hH, _, _, _⟩ := S1.wr hi hm hf0
    refine ⟨_, hσ, G, fx, env1, As1, kd, env2, S1, e2, fun y H2 As2 A2 S2 r2 _ f2 x2 => ?_⟩
    obtain ⟨hk, _⟩ := r2.sh_inv
    split at q
    · rename_i xs j hf1
      cases hk
      split at q
      · rename_i n hn
        obtain ⟨a1, ws, ds, hσ1, hd, hH1, sa, _, w⟩ := S2.wr hi hm hf1
        rw [hσ] at hσ1; cases hσ1
        cases hd
        obtain ⟨S3, f3, x3⟩ := w (ws.set n x) (xs.set n d) (sa.set (hv.ext x2) n)
        exact ⟨a0, ws, j, n, rfl, rfl, hH1, by rw [sa.length]; exact hn, q σ _ As2 S3 ((f1.trans f2).trans f3) ((x1.trans x2).trans x3)⟩
      · exact q.elim
    · exact q.elim
theorem case_setk {i : Nat} {k e : Dv.E} {nx : Str} {m : Md} (g : Good X Γ cal) (hc : notCmp v = true) (ns : notSl x = true) (hx : slotB Γ i nx = true) (hi : Γ.ty[i]? = some (.dic m)) (hm : m ≠ .bor) (h1 : ckE Γ k x .sh = true) (h2 : ckE Γ e v .sh = true) :
    PS X (.Assign [.Subscript (.Name nx p1) x p2] v p) (TSd X.K Γ.ty ρ (evS cal fuel (.setk i k e))) := by
  obtain ⟨s1, s2, s3, s4⟩ := slot_ok g hx
  refine psImp (ps_dput (by have := g.un; omega) (pe_var s1 s2 s3 s4) (sE k g h1).pe (sE e g h2).pe (notCmp_sw hc _ _ _)) fun D σ H ⟨G, fx, env, As, S, q⟩ => ?_
  simp only [evS] at q
  obtain ⟨d, env1, e1, q⟩ := sp_sres q
  refine ⟨G, fx, env, As, d, env1, S, e1, fun x H1 As1 A1 S1 r1 _ f1 x1 => ?_⟩
  obtain ⟨hv, _⟩ := r1.sh_inv
  split at q
  · exact q.elim
  · rename_i d0 hf0
    obtain ⟨kd, env2, e2, q⟩ := sp_sres q
    obtain ⟨a0, ws0, ds0, hσ, _, hH, _, _, _⟩ := S1.wrD hi hm hf0
    refine ⟨_, hσ, G, fx, env1, As1, kd, env2, S1, e2, fun y H2 As2 A2 S2 r2 _ f2 x2 => ?_⟩
    obtain ⟨hk, _⟩ := r2.sh_inv
    split at q
    · rename_i ds z hf1
      cases hk
      split at q
      · rename_i hn
        obtain ⟨a1, ws, ds, hσ1, hd, hH1, sa, _, w⟩ := S2.wrD hi hm hf1
        rw [hσ] at hσ1; cases hσ1
        cases hd
        obtain ⟨S3, f3, x3⟩ := w (putK ws (Sum.inr z) x) (dPut ds z d) (shk_put (hv.ext x2) sa)
        exact ⟨a0, _, rfl, .inl ⟨ws, Sum.inr z, hH1, rfl, by rw [shk_len sa]; exact hn, rfl⟩, q σ _ As2 S3 ((f1.trans f2).trans f3) ((x1.trans x2).trans x3)⟩
      · exact q.elim
    · exact q.elim
theorem case_unp2 {i j : Nat} {e : Dv.E} {nx ny : Str} {px py pt : Pos} {kt : Nat} (g : Good X Γ cal) (hv : (match v with | .Tuple _ _ _ => false | _ => true) = true) (hc : notCmp v = true) (hx : storB Γ i nx = true) (hy : storB Γ j ny = true)
    (ti : Γ.ty[i]? = some .sh) (tj : Γ.ty[j]? = some (.dic .own)) (hij : i ≠ j) (h : ckE Γ e v .pd = true) :
    PS X (.Assign [.Tuple [.Name nx px, .Name ny py] kt pt] v p) (TSd X.K Γ.ty ρ (evS cal fuel (.unp2 i j e))) := by
  obtain ⟨n1, n2, n3⟩ := stor_ok g hx
  obtain ⟨m1, m2, m3⟩ := stor_ok g hy
  have hN : X.N.Nodup := by rw [g.hN]; exact g.nd
  have t1 : PG X (.Tuple [.Name nx px, .Name ny py] kt pt) (gTup X.K 2 (gCons (gName i) (gCons (gName j) gNil))) := pg_tup g.calm (pgs_cons (pg_name hN n1 n2 n3) (pgs_cons (pg_name hN m1 m2 m3) pgs_nil rfl) rfl)
  refine psImp (ps_asg (sE e g h).pe t1 (sw_sole hc _ _) (by cases v <;> first | (cases hv; done) | rfl) rfl) fun D σ H ⟨G, fx, env, As, S, q⟩ => ?_
  simp only [evS] at q
  obtain ⟨d, env1, e1, q⟩ := sp_sres q
  refine ⟨G, fx, env, As, d, env1, S, e1, fun x H1 As1 A1 S1 r1 o1 f1 x1 => ?_⟩
  obtain ⟨a, t, x0, kvs, d1, ds, rfl, rfl, hh, sk, rfl, hq, hs⟩ := r1
  simp only at q
  obtain ⟨z1, z2, z3⟩ := o1 a (List.mem_singleton_self _)
  have S2 := S1.put (A := []) ti ⟨hs, rfl⟩ (fun a h => by cases h) rfl
  have S3 := S2.put (A := [a]) (τ := .dic .own) (v := .ref a) (d := .dict ds) tj ⟨a, kvs, ds, rfl, rfl, hh, sk, rfl⟩ (fun b hb => by
    rw [List.mem_singleton.mp hb]
    refine ⟨z1, z2, fun k _ hk => ?_⟩
    by_cases hki : k = i
    · rw [if_pos hki] at hk; cases hk
    · rw [if_neg hki] at hk; exact z3 k hk) rfl
  exact ⟨t, _, rfl, hq, rfl, x0, _, rfl, .ref a, _, rfl, rfl, q _ H1 _ S3 f1 x1⟩
theorem case_app {i : Nat} {e : Dv.E} {nx : Str} {m : Md} (g : Good X Γ cal) (hl : (ap.endLine == p2.line) = true) (hx : slotB Γ i nx = true) (hi : Γ.ty[i]? = some (.lst m)) (hm : m ≠ .bor) (ns : notStar y = true) (h : ckE Γ e y .sh = true) :
    PS X (.Expr (.Call (.Attribute (.Name nx p1) "append" ap) [y] [] p2) p) (TSd X.K Γ.ty ρ (evS cal fuel (.app i e))) := by
  obtain ⟨s1, s2, s3, s4⟩ := slot_ok g hx
  refine psImp (ps_expr (pe_bm PySem.F.plainAttrs_list PySem.F.slot_list_append PySem.F.type_list_append mt_append (pe_var s1 s2 s3 s4) (pa_cons (sE e g h).pe pa_nil (star_ns ns)) rfl (by rw [star_ns ns]; rfl) hl (star_ns ns) rfl) rfl) fun D σ H ⟨G, fx, env, As, S, q⟩ => ?_
  simp only [evS] at q
  split at q
  · exact q.elim
  · rename_i d0 hf0
    obtain ⟨d, env1, e1, q⟩ := sp_sres q
    obtain ⟨a0, ws0, ds0, hσ, _, hH, _, _, _⟩ := S.wr hi hm hf0
    refine ⟨_, hσ, .inl ⟨rfl, _, SqL.of hH⟩, ?_⟩
    refine ⟨G, fx, env, As, d, env1, S, e1, fun v H1 As1 A1 S1 r1 _ f1 x1 => ?_⟩
    obtain ⟨hv, _⟩ := r1.sh_inv
    split at q
    · rename_i xs hf1
      split at q
      · rename_i hz
        obtain ⟨a1, ws, ds, hσ1, hd, hH1, sa, _, w⟩ := S1.wr hi hm hf1
        rw [hσ] at hσ1; cases hσ1
        cases hd
        obtain ⟨S3, f3, x3⟩ := w (ws ++ [v]) (xs ++ [d]) (sa.append (.cons hv .nil))
        exact ⟨a0, ws, v, rfl, rfl, hH1, by rw [sa.length]; exact hz, q σ _ As1 S3 (f1.trans f3) (x1.trans x3)⟩
      · exact q.elim
    · exact q.elim
theorem case_ins {i : Nat} {k e : Dv.E} {nx : Str} {m : Md} (g : Good X Γ cal) (hl : (ap.endLine == p2.line) = true) (hx : slotB Γ i nx = true) (hi : Γ.ty[i]? = some (.lst m)) (hm : m ≠ .bor) (ns : notStar y = true) (nz : notStar z = true) (hk : ckE Γ k z .sh = true) (h : ckE Γ e y .sh = true) :
    PS X (.Expr (.Call (.Attribute (.Name nx p1) "insert" ap) [z, y] [] p2) p) (TSd X.K Γ.ty ρ (evS cal fuel (.ins i k e))) := by
  obtain ⟨s1, s2, s3, s4⟩ := slot_ok g hx
  refine psImp (ps_expr (pe_bm PySem.F.plainAttrs_list PySem.F.slot_list_insert PySem.F.type_list_insert mt_insert (pe_var s1 s2 s3 s4) (pa_cons (sE k g hk).pe (pa_cons (sE e g h).pe pa_nil (star_ns ns)) (star_ns nz)) rfl (by rw [star_ns nz, star_ns ns]; rfl) hl (star_ns nz) (by rw [star_ns ns]; rfl)) rfl) fun D σ H ⟨G, fx, env, As, S, q⟩ => ?_
  simp only [evS] at q
  split at q
  · exact q.elim
  · rename_i d0 hf0
    obtain ⟨kd, env1, e1, q1⟩ := sp_sres q
    obtain ⟨d, env2, e2, q2⟩ := sp_sres q1
    clear q1 q
    have q := q2
    clear q2
    obtain ⟨a0, ws0, ds0, hσ, _, hH, _, _, _⟩ := S.wr hi hm hf0
    refine ⟨_, hσ, .inl ⟨rfl, _, SqL.of hH⟩, ?_⟩
    refine ⟨G, fx, env, As, kd, env1, S, e1, fun u H1 As1 A1 S1 r1 _ f1 x1 => ?_⟩
    refine ⟨G, fx, env1, As1, d, env2, S1, e2, fun v H2 As2 A2 S2 r2 _ f2 x2 => ?_⟩
    obtain ⟨hu, _⟩ := r1.sh_inv
    obtain ⟨hv, _⟩ := r2.sh_inv
    split at q
    · rename_i xs j hf1
      cases hu
      split at q
      · rename_i hz
        obtain ⟨a1, ws, ds, hσ1, hd, hH1, sa, _, w⟩ := S2.wr hi hm hf1
        rw [hσ] at hσ1; cases hσ1
        cases hd
        obtain ⟨S3, f3, x3⟩ := w (ws.take j.toNat ++ [v] ++ ws.drop j.toNat) (xs.take j.toNat ++ [d] ++ xs.drop j.toNat) (((sa.take _).append (.cons hv .nil)).append (sa.drop _))
        exact ⟨a0, ws, j, v, rfl, rfl, hH1, by rw [sa.length]; exact hz.1, hz.2.1, by have := hz.2.2; omega, q σ _ As2 S3 ((f1.trans f2).trans f3) ((x1.trans x2).trans x3)⟩
      · exact q.elim
    · exact q.elim
theorem case_par {i j : Nat} {e1 e2 : Dv.E} {nx ny : Str} {px py pt pt2 : Pos} {a b : Expr} {kt k2 : Nat} {τ1 τ2 : Ty} (g : Good X Γ cal) (hk : isFun Γ.sc.kind = true) (hx : storB Γ i nx = true) (hy : storB Γ j ny = true) (ti : Γ.ty[i]? = some τ1) (tj : Γ.ty[j]? = some τ2)
    (lx : Γ.sc.names.lookup nx = some .local) (ly : Γ.sc.names.lookup ny = some .local) (hij : i ≠ j) (hxy : nx ≠ ny) (hl : (px.line == py.line) = true) (hf : [a, b].all (foldedForSure 8) = false) (hc : [a, b].all (constantsAlone 8) = false) (ha : notStar a = true) (hb : notStar b = true)
    (h1 : PE X a (TDe X.K Γ.ty (evE cal e1) τ1)) (h2 : PE X b (TDe X.K Γ.ty (evE cal e2) τ2)) :
    PS X (.Assign [.Tuple [.Name nx px, .Name ny py] kt pt] (.Tuple [a, b] k2 pt2) p) (TSd X.K Γ.ty ρ (evS cal fuel (.par [i, j] [e1, e2]))) := by
  obtain ⟨n1, n2, n3⟩ := stor_ok g hx
  obtain ⟨m1, m2, m3⟩ := stor_ok g hy
  have s1 : setB τ1 = true := by
    unfold storB freeB at hx
    simp only [Bool.and_eq_true, ti] at hx
    exact hx.2
  have s2 : setB τ2 = true := by
    unfold storB freeB at hy
    simp only [Bool.and_eq_true, tj] at hy
    exact hy.2
  have hN : X.N.Nodup := by rw [g.hN]; exact g.nd
  rw [← g.hsc] at lx ly
  refine psImp (ps_par g.calm hN n1 m1 hij lx ly (pa_cons h1 (pa_cons h2 pa_nil (star_ns hb)) (star_ns ha)) ?_) fun D σ H ⟨G, fx, env, As, S, q⟩ => ?_
  · have kf : X.env.scope.kind = .function := by
      rw [g.hsc]
      unfold isFun at hk
      split at hk
      · assumption
      · cases hk
    have hbk : X.env.blockKind = .function := by unfold Env.blockKind; rw [kf]; rfl
    have kx : X.env.kindOf nx = some .local := lx
    have ky : X.env.kindOf ny = some .local := ly
    exact sw_stores hbk kx ky hxy hl ha hb hf hc
  · simp only [evS] at q
    obtain ⟨ds, env2, e0, q⟩ := sp_sres q
    simp only [evEs] at e0
    obtain ⟨d1, env1, q1, e0⟩ := bind_ok e0
    obtain ⟨ds2, env3, e3, e0⟩ := bind_ok e0
    obtain ⟨d2, env4, q2, e3⟩ := bind_ok e3
    cases e0
    cases e3
    refine ⟨G, fx, env, As, d1, env1, S, q1, fun v H1 As1 A1 S1 r1 o1 f1 x1 => ?_⟩
    have Se := S1.enter (P := fun a => a ∈ A1) fun a h => ⟨(o1 a h).2.1, (o1 a h).2.2⟩
    refine ⟨_, _, env1, As1, d2, env2, Se, q2, fun w H2 As2 A2 S2 r2 o2 f2 x2 => ⟨v, w, rfl, ?_⟩⟩
    have S3 := S1.leave S2 x2
    have fG : Fr G H1 H2 := fun a ga => f2 a (.inl ga)
    have r1' := r1.stay x2 fG fun a h => f2 a (.inr h)
    have r2' : Rep X.K G H2 τ2 w d2 A2 := setB_own s2 r2
    have S4 := S3.put ti r1' (fun a h => ⟨(o1 a h).1, by rw [f2 a (.inr h)]; exact (o1 a h).2.1, fun k _ hk => (S2.off k a hk).1 (.inr h)⟩) s1
    have S5 := S4.put tj r2' (fun a h => ⟨fun ga => (o2 a h).1 (.inl ga), (o2 a h).2.1, fun k _ hk => ?_⟩) s2
    · exact q _ H2 _ S5 (f1.trans fG) (x1.trans x2)
    · by_cases hki : k = i
      · rw [if_pos hki] at hk; exact (o2 a h).1 (.inr hk)
      · rw [if_neg hki] at hk; exact (o2 a h).2.2 k hk
theorem stor_setB {i : Nat} {nx : Str} {τ : Ty} (hx : storB Γ i nx = true) (ti : Γ.ty[i]? = some τ) : setB τ = true := by
  unfold storB freeB at hx
  simp only [Bool.and_eq_true, ti] at hx
  exact hx.2
theorem case_par3 {i j l : Nat} {e1 e2 e3 : Dv.E} {nx ny nz : Str} {px py pz pt pt2 : Pos} {a b c : Expr} {kt k2 : Nat} {τ1 τ2 τ3 : Ty} (g : Good X Γ cal) (hk : isFun Γ.sc.kind = true) (hx : storB Γ i nx = true) (hy : storB Γ j ny = true) (hz : storB Γ l nz = true) (ti : Γ.ty[i]? = some τ1) (tj : Γ.ty[j]? = some τ2) (tl : Γ.ty[l]? = some τ3)
    (lx : Γ.sc.names.lookup nx = some .local) (ly : Γ.sc.names.lookup ny = some .local) (lz : Γ.sc.names.lookup nz = some .local) (hij : i ≠ j) (hil : i ≠ l) (hjl : j ≠ l) (hxy : nx ≠ ny) (hxz : nx ≠ nz) (hyz : ny ≠ nz) (hl : (px.line == py.line) = true) (hl2 : (px.line == pz.line) = true) (hf : [a, b, c].all (foldedForSure 8) = false) (hc : [a, b, c].all (constantsAlone 8) = false) (ha : notStar a = true) (hb : notStar b = true) (hcs : notStar c = true)
    (h1 : PE X a (TDe X.K Γ.ty (evE cal e1) τ1)) (h2 : PE X b (TDe X.K Γ.ty (evE cal e2) τ2)) (h3 : PE X c (TDe X.K Γ.ty (evE cal e3) τ3)) :
    PS X (.Assign [.Tuple [.Name nx px, .Name ny py, .Name nz pz] kt pt] (.Tuple [a, b, c] k2 pt2) p) (TSd X.K Γ.ty ρ (evS cal fuel (.par3 i j l e1 e2 e3))) := by
  obtain ⟨n1, n2, n3⟩ := stor_ok g hx
  obtain ⟨m1, m2, m3⟩ := stor_ok g hy
  obtain ⟨o1, o2, o3⟩ := stor_ok g hz
  have s1 := stor_setB hx ti
  have s2 := stor_setB hy tj
  have s3 := stor_setB hz tl
  have hN : X.N.Nodup := by rw [g.hN]; exact g.nd
  rw [← g.hsc] at lx ly lz
  refine psImp (ps_par3 g.calm hN n1 m1 o1 hij hil hjl lx ly lz (pa_cons h1 (pa_cons h2 (pa_cons h3 pa_nil (star_ns hcs)) (star_ns hb)) (star_ns ha)) ?_) fun D σ H ⟨G, fx, env, As, S, q⟩ => ?_
  · have kf : X.env.scope.kind = .function := by
      rw [g.hsc]
      unfold isFun at hk
      split at hk
      · assumption
      · cases hk
    have hbk : X.env.blockKind = .function := by unfold Env.blockKind; rw [kf]; rfl
    have kx : X.env.kindOf nx = some .local := lx
    have ky : X.env.kindOf ny = some .local := ly
    have kz : X.env.kindOf nz = some .local := lz
    exact sw_stores3 hbk kx ky kz hxy hxz hyz hl hl2 ha hb hcs hf hc
  · simp only [evS] at q
    obtain ⟨ds, env2, e0, q⟩ := sp_sres q
    simp only [evEs] at e0
    obtain ⟨d1, env1, q1, e0⟩ := bind_ok e0
    obtain ⟨ds2, env3, e3', e0⟩ := bind_ok e0
    obtain ⟨d2, env4, q2, e3'⟩ := bind_ok e3'
    obtain ⟨ds3, env5, e4, e3'⟩ := bind_ok e3'
    obtain ⟨d3, env6, q3, e4⟩ := bind_ok e4
    cases e4
    cases e3'
    cases e0
    refine ⟨G, fx, env, As, d1, env1, S, q1, fun v H1 As1 A1 S1 r1 o1 f1 x1 => ?_⟩
    have Se := S1.enter (P := fun a => a ∈ A1) fun a h => ⟨(o1 a h).2.1, (o1 a h).2.2⟩
    refine ⟨_, _, env1, As1, d2, env4, Se, q2, fun w H2 As2 A2 S2 r2 o2 f2 x2 => ?_⟩
    have Sf := S2.enter (P := fun a => a ∈ A2) fun a h => ⟨(o2 a h).2.1, (o2 a h).2.2⟩
    refine ⟨_, _, env4, As2, d3, _, Sf, q3, fun u H3 As3 A3 S3 r3 o3 f3 x3 => ⟨v, w, u, rfl, ?_⟩⟩
    have T2 := S2.leave S3 x3
    have T3 := S1.leave T2 (x2.trans x3)
    have fG : Fr G H1 H2 := fun a ga => f2 a (.inl ga)
    have fG3 : Fr G H2 H3 := fun a ga => f3 a (.inl (.inl ga))
    have k1 : ∀ a ∈ A1, H3 a = H1 a := fun a h => (f3 a (.inl (.inr h))).trans (f2 a (.inr h))
    have k2 : ∀ a ∈ A2, H3 a = H2 a := fun a h => f3 a (.inr h)
    have r1' := r1.stay (x2.trans x3) (fG.trans fG3) k1
    have r2' : Rep X.K G H3 τ2 w d2 A2 := (setB_own s2 r2 : Rep X.K G H2 τ2 w d2 A2).stay x3 fG3 k2
    have r3' : Rep X.K G H3 τ3 u d3 A3 := setB_own s3 r3
    have S4 := T3.put ti r1' (fun a h => ⟨(o1 a h).1, by rw [k1 a h]; exact (o1 a h).2.1, fun k _ hk => (S3.off k a hk).1 (.inl (.inr h))⟩) s1
    have S5 := S4.put tj r2' (fun a h => ⟨fun ga => (o2 a h).1 (.inl ga), by rw [k2 a h]; exact (o2 a h).2.1, fun k _ hk => by
      by_cases hki : k = i
      · rw [if_pos hki] at hk; exact (o2 a h).1 (.inr hk)
      · rw [if_neg hki] at hk; exact (S3.off k a hk).1 (.inr h)⟩) s2
    have S6 := S5.put tl r3' (fun a h => ⟨fun ga => (o3 a h).1 (.inl (.inl ga)), (o3 a h).2.1, fun k _ hk => by
      by_cases hkj : k = j
      · rw [if_pos hkj] at hk; exact (o3 a h).1 (.inr hk)
      · rw [if_neg hkj] at hk
        by_cases hki : k = i
        · rw [if_pos hki] at hk; exact (o3 a h).1 (.inl (.inr hk))
        · rw [if_neg hki] at hk; exact (o3 a h).2.2 k hk⟩) s3
    exact q _ H3 _ S6 ((f1.trans fG).trans fG3) ((x1.trans x2).trans x3)
end
end Dv
end
section
namespace Dv
open PySem PySem.Spec PyProof.Rows L2

theorem Good.lock {X : Cx} {Γ : Gam} {cal : Nat → List PyData → CRes} (g : Good X Γ cal) (t : List Ty) : Good X { Γ with ty := t } cal := ⟨g.hN, g.nd, g.hsc, g.calm, g.gd, g.un, g.cel, g.blt, g.fns, g.chk⟩
section
variable {X : Cx} {Γ : Gam} {cal : Nat → List PyData → CRes} {fuel : Nat} {ρ : Ty} {te ie c : Expr} {pos : Pos} {bs : List Stmt}
theorem ptF {a : Dv.E} {e : Expr} (h : PT X e (TDt X.K Γ.ty (evE cal a))) : PT X e (TDf X.K Γ.ty (evIf cal (some a))) := ptImp h fun σ H Q ⟨G, fx, env, As, b, env', S, e, k⟩ => by
  simp only [evIf] at e
  obtain ⟨d, env1, e1, e2⟩ := bind_ok e
  split at e2
  · cases e2
    exact ⟨G, fx, env, As, _, env', S, e1, k⟩
  · cases e2
theorem case_for {tg : Tg} {it : Dv.It} {body : List S} (g : Good X Γ cal) (hp : PassesOwn (model X.prog X.w) X.A X.env X.xe) (hρ : setB ρ = true) (ns : notSet ie = true) (h1 : ckIt Γ it ie = true) (h9 : itTg it te = true) (h2 : ckTg { Γ with ty := lockTy Γ.ty it } tg te = true)
    (hb : PSs X bs (TSd X.K (lockTy Γ.ty it) ρ (evSs cal fuel body))) : PS X (.For te ie bs [] pos) (TSd X.K Γ.ty ρ (evS cal fuel (.for tg it body))) := by
  obtain ⟨t1, t2⟩ := tg_ok (g.lock (lockTy Γ.ty it)) h2
  refine psImp (ps_for hp g.calm (sIt it g h1 h9) t1 hb (fold_ns ns _)) fun D σ0 H ⟨G, fx, env, As, S, q⟩ => ?_
  simp only [evS] at q
  obtain ⟨xs, env1, e1, q⟩ := sp_sres q
  let f : PyData → Env → SRes := fun x e => match setTg tg x e with
    | none => .bad
    | some e => evSs cal fuel body e
  generalize hr : forL (fun x e => match setTg tg x e with
    | none => .bad
    | some e => evSs cal fuel body e) xs env1 = r at q
  refine ⟨G, fx, env, As, xs, env1, S, e1, fun J H1 G' fx' As1 Gst S1 gg f1 x1 g0 gst wk un => ?_⟩
  let Pv : Nat → L2.St → Hp → Prop := fun i σ H2 => ∃ e As2, SR X.K (lockTy Γ.ty it) G' fx' H2 σ e As2 ∧ Gst H2 ∧ Fr G' H1 H2 ∧ Ext H1 H2 ∧ forL f (xs.drop i) e = r
  have frG : ∀ {H2 : Hp}, Fr G' H1 H2 → Fr G H H2 := fun f2 => f1.trans fun a g => f2 a (gg a g)
  refine for_it wk Pv ⟨env1, As1, S1, g0, Fr.refl _ _, Ext.refl _, hr⟩ (fun i σ H hi ⟨e, As, _, q, _⟩ => q) ?_ ?_
  · rintro i x σ H2 H3 hi ⟨e, As2, S2, gs, f2, x2, ec⟩ ⟨sm, d, hd, hx⟩
    rw [List.drop_eq_getElem_cons hi] at ec
    rw [List.getElem?_eq_getElem hi] at hd
    cases hd
    have S3 := S2.same sm
    have f3 := f2.trans (S2.fr sm)
    have x3 := x2.trans (Ext.of_same sm)
    have gs3 := gst _ _ gs (S2.fr sm) (Ext.of_same sm)
    simp only [forL, f] at ec
    cases hset : setTg tg xs[i] e with
    | none =>
      rw [hset] at ec
      subst ec
      exact q.elim
    | some e2 =>
      rw [hset] at ec
      refine t2 x _ σ H3 G' fx' e e2 As2 _ S3 hx hset fun σ4 As4 S4 _ => ⟨G', fx', e2, As4, S4, ?_⟩
      simp only at ec
      cases hs : evSs cal fuel body e2 with
      | nx e3 =>
        rw [hs] at ec
        exact fun σ5 H5 As5 S5 f5 x5 => ⟨e3, As5, S5, gst _ _ gs3 f5 x5, f3.trans f5, x3.trans x5, ec⟩
      | ct e3 =>
        rw [hs] at ec
        exact fun σ5 H5 As5 S5 f5 x5 => ⟨e3, As5, S5, gst _ _ gs3 f5 x5, f3.trans f5, x3.trans x5, ec⟩
      | bk e3 =>
        rw [hs] at ec
        simp only at ec
        subst ec
        intro σ5 H5 As5 S5 f5 x5
        obtain ⟨As6, S6, _⟩ := un H5 σ5 e3 As5 S5 (f3.trans f5) (x3.trans x5)
        exact q σ5 H5 As6 S6 (frG (f3.trans f5)) ((x1.trans x3).trans x5)
      | ret d e3 =>
        rw [hs] at ec
        simp only at ec
        subst ec
        intro v σ5 H5 As5 A S5 rp oA f5 x5
        obtain ⟨As6, S6, sub⟩ := un H5 σ5 e3 As5 S5 (f3.trans f5) (x3.trans x5)
        refine q v σ5 H5 As6 A S6 (setB_own hρ rp) (fun a ha => ?_) (frG (f3.trans f5)) ((x1.trans x3).trans x5)
        obtain ⟨z1, z2, z3⟩ := oA a ha
        exact ⟨fun w => z1 (gg a w), z2, fun j hj => (sub j a hj).elim (z3 j) z1⟩
      | ex _ _ =>
        rw [hs] at ec
        simp only at ec
        subst ec
        exact q.elim
      | bad =>
        rw [hs] at ec
        simp only at ec
        subst ec
        exact q.elim
  · rintro σ H2 ⟨e, As2, S2, gs, f2, x2, ec⟩
    rw [List.drop_length] at ec
    simp only [forL] at ec
    subst ec
    obtain ⟨As6, S6, _⟩ := un H2 σ e As2 S2 f2 x2
    exact q σ H2 As6 S6 (frG f2) (x1.trans x2)
theorem case_whl {a : Dv.E} {body : List S} (g : Good X Γ cal) (hp : PassesOwn (model X.prog X.w) X.A X.env X.xe) (h1 : ckE Γ a c .sh = true)
    (hb : PSs X bs (TSd X.K Γ.ty ρ (evSs cal fuel body))) : PS X (.While c bs [] pos) (TSd X.K Γ.ty ρ (evS cal fuel (.whl a body))) := by
  refine psImp (ps_while hp (ptF ((sE a g h1).pt rfl)) hb) fun D σ0 H ⟨G, fx, env, As, S, q⟩ => ?_
  simp only [evS] at q
  generalize hr : whileL (evIf cal (some a)) (evSs cal fuel body) fuel env = r at q
  refine ⟨fun m σ H2 => ∃ e As2, SR X.K Γ.ty G fx H2 σ e As2 ∧ Fr G H H2 ∧ Ext H H2 ∧ whileL (evIf cal (some a)) (evSs cal fuel body) m e = r, ⟨fuel, env, As, S, Fr.refl _ _, Ext.refl _, hr⟩, ?_⟩
  rintro m σ H2 ⟨e, As2, S2, f2, x2, ec⟩
  cases m with
  | zero => simp only [whileL] at ec; subst ec; exact q.elim
  | succ m =>
    simp only [whileL] at ec
    cases hc : evIf cal (some a) e with
    | bad => rw [hc] at ec; simp only at ec; subst ec; exact q.elim
    | ex _ _ => rw [hc] at ec; simp only at ec; subst ec; exact q.elim
    | ok b e1 =>
      rw [hc] at ec
      simp only at ec
      refine ⟨G, fx, e, As2, b, e1, S2, hc, fun H3 As3 S3 f3 x3 => ?_⟩
      cases b with
      | false =>
        simp only [Bool.false_eq_true, if_false] at ec ⊢
        subst ec
        exact q σ H3 As3 S3 (f2.trans f3) (x2.trans x3)
      | true =>
        simp only [if_true] at ec ⊢
        refine ⟨fun σ H4 => ∃ e As2, SR X.K Γ.ty G fx H4 σ e As2 ∧ Fr G H H4 ∧ Ext H H4 ∧ whileL (evIf cal (some a)) (evSs cal fuel body) m e = r, fun σ' H' h => ⟨m, Nat.lt_succ_self m, h⟩, G, fx, e1, As3, S3, ?_⟩
        cases hs : evSs cal fuel body e1 with
        | nx e3 =>
          rw [hs] at ec
          exact fun σ5 H5 As5 S5 f5 x5 => ⟨e3, As5, S5, (f2.trans f3).trans f5, (x2.trans x3).trans x5, ec⟩
        | ct e3 =>
          rw [hs] at ec
          exact fun σ5 H5 As5 S5 f5 x5 => ⟨e3, As5, S5, (f2.trans f3).trans f5, (x2.trans x3).trans x5, ec⟩
        | bk e3 =>
          rw [hs] at ec
          simp only at ec
          subst ec
          exact fun σ5 H5 As5 S5 f5 x5 => q σ5 H5 As5 S5 ((f2.trans f3).trans f5) ((x2.trans x3).trans x5)
        | ret d e3 =>
          rw [hs] at ec
          simp only at ec
          subst ec
          exact fun v σ5 H5 As5 A S5 rp oA f5 x5 => q v σ5 H5 As5 A S5 rp oA ((f2.trans f3).trans f5) ((x2.trans x3).trans x5)
        | ex _ _ => rw [hs] at ec; simp only at ec; subst ec; exact q.elim
        | bad => rw [hs] at ec; simp only at ec; subst ec; exact q.elim
end
section
variable {cal : Nat → List PyData → CRes} {fuel : Nat} {ρ : Ty}
mutual
theorem sS (hρ : setB ρ = true) : ∀ (s : S) {X : Cx} {Γ : Gam} (g : Good X Γ cal) (hp : PassesOwn (model X.prog X.w) X.A X.env X.xe) {st : Stmt}, ckS Γ ρ s st = true → PS X st (TSd X.K Γ.ty ρ (evS cal fuel s))
  | .set i e, X, Γ, g, hp, st, h => by
    simp only [ckS] at h
    split at h
    · simp only [Bool.and_eq_true] at h
      obtain ⟨⟨⟨h1, h2⟩, h3⟩, h4⟩ := h
      split at h4
      · exact case_set g h1 h2 h3 ‹_› h4
      · cases h4
    · cases h
  | .unp is e, X, Γ, g, hp, st, h => by
    simp only [ckS] at h
    split at h
    · simp only [Bool.and_eq_true] at h
      exact case_unp g h.1.1.1.1 h.1.1.1.2 h.1.1.2 h.1.2 h.2
    · cases h
  | .par is es, X, Γ, g, hp, st, h => by
    simp only [ckS] at h
    split at h
    · simp only [Bool.and_eq_true, decide_eq_true_eq, Bool.not_eq_true', decide_eq_false_iff_not] at h
      obtain ⟨⟨⟨⟨⟨⟨⟨⟨⟨⟨h1, h2⟩, h3⟩, h6⟩, h7⟩, h8⟩, h9⟩, h10⟩, h11⟩, h12⟩, h13⟩ := h
      split at h13
      · rename_i hti htj
        simp only [Bool.and_eq_true] at h13
        exact case_par g h1 h2 h3 hti htj h6 h7 h8 h9 h10 h11 h12 h13.1.1.1 h13.1.1.2 (sE _ g h13.1.2).pe (sE _ g h13.2).pe
      · cases h13
    · cases h
  | .setix i k e, X, Γ, g, hp, st, h => by
    simp only [ckS] at h
    split at h
    · simp only [Bool.and_eq_true] at h
      obtain ⟨⟨⟨⟨⟨h1, h2⟩, h3⟩, h4⟩, h5⟩, h6⟩ := h
      split at h4
      · exact case_setix g h1 h2 h3 ‹_› (by simpa using h4) h5 h6
      · cases h4
    · cases h
  | .setk i k e, X, Γ, g, hp, st, h => by
    simp only [ckS] at h
    split at h
    · simp only [Bool.and_eq_true] at h
      obtain ⟨⟨⟨⟨⟨h1, h2⟩, h3⟩, h4⟩, h5⟩, h6⟩ := h
      split at h4
      · exact case_setk g h1 h2 h3 ‹_› (by simpa using h4) h5 h6
      · cases h4
    · cases h
  | .unp2 i j e, X, Γ, g, hp, st, h => by
    simp only [ckS] at h
    split at h
    · simp only [Bool.and_eq_true, decide_eq_true_eq, Bool.not_eq_true', decide_eq_false_iff_not] at h
      obtain ⟨⟨⟨⟨⟨⟨⟨h1, h2⟩, h3⟩, h4⟩, h5⟩, h6⟩, h7⟩, h8⟩ := h
      exact case_unp2 g h1 h2 h3 h4 h5 h6 h7 h8
    · cases h
  | .par3 i j l e1 e2 e3, X, Γ, g, hp, st, h => by
    simp only [ckS] at h
    split at h
    · simp only [Bool.and_eq_true, decide_eq_true_eq, Bool.not_eq_true', decide_eq_false_iff_not] at h
      obtain ⟨⟨⟨⟨⟨⟨⟨⟨h1, ⟨h2, h3⟩, h4⟩, ⟨h5, h6⟩, h7⟩, ⟨h8, h9⟩, h10⟩, ⟨h11, h12⟩, h13⟩, h14, h15⟩, h16⟩, h17⟩, h18⟩ := h
      split at h18
      · rename_i t1 t2 t3
        simp only [Bool.and_eq_true] at h18
        obtain ⟨⟨⟨⟨⟨y1, y2⟩, y3⟩, y4⟩, y5⟩, y6⟩ := h18
        exact case_par3 g h1 h2 h3 h4 t1 t2 t3 h5 h6 h7 h8 h9 h10 h11 h12 h13 h14 h15 h16 h17 y1 y2 y3 (sE _ g y4).pe (sE _ g y5).pe (sE _ g y6).pe
      · cases h18
    · cases h
  | .app i e, X, Γ, g, hp, st, h => by
    simp only [ckS] at h
    split at h
    · simp only [Bool.and_eq_true, decide_eq_true_eq] at h
      obtain ⟨⟨⟨⟨⟨h1, rfl⟩, h3⟩, h4⟩, h5⟩, h6⟩ := h
      split at h4
      · exact case_app g h1 h3 ‹_› (by simpa using h4) h5 h6
      · cases h4
    · cases h
  | .ins i k e, X, Γ, g, hp, st, h => by
    simp only [ckS] at h
    split at h
    · simp only [Bool.and_eq_true, decide_eq_true_eq] at h
      obtain ⟨⟨⟨⟨⟨⟨⟨h1, rfl⟩, h3⟩, h4⟩, h5⟩, h6⟩, h7⟩, h8⟩ := h
      split at h4
      · exact case_ins g h1 h3 ‹_› (by simpa using h4) h5 h6 h7 h8
      · cases h4
    · cases h
  | .ite c a b, X, Γ, g, hp, st, h => by
    simp only [ckS] at h
    split at h
    · simp only [Bool.and_eq_true] at h
      refine psImp (ps_if (ptF ((sE c g h.1.1).pt rfl)) (sSs hρ a g hp h.1.2) (sSs hρ b g hp h.2)) fun D σ H ⟨G, fx, env, As, S, q⟩ => ?_
      simp only [evS] at q
      obtain ⟨t, env1, e1, q⟩ := sp_sres q
      refine ⟨G, fx, env, As, t, env1, S, e1, fun H1 As1 S1 f1 x1 => ?_⟩
      cases t with
      | true => exact ⟨G, fx, env1, As1, S1, q.later f1 x1⟩
      | false => exact ⟨G, fx, env1, As1, S1, q.later f1 x1⟩
    · cases h
  | .for tg it body, X, Γ, g, hp, st, h => by
    simp only [ckS] at h
    split at h
    · simp only [Bool.and_eq_true] at h
      exact case_for g hp hρ h.1.1.1.1 h.1.1.1.2 h.2 h.1.1.2 (sSs hρ body (g.lock _) hp h.1.2)
    · cases h
  | .whl c body, X, Γ, g, hp, st, h => by
    simp only [ckS] at h
    split at h
    · simp only [Bool.and_eq_true] at h
      exact case_whl g hp h.1 (sSs hρ body g hp h.2)
    · cases h
  | .ret e, X, Γ, g, hp, st, h => by
    simp only [ckS] at h
    split at h
    · refine psImp (ps_ret (sE e g h).pe) fun D σ H ⟨G, fx, env, As, S, q⟩ => ?_
      simp only [evS] at q
      obtain ⟨d, env1, e1, q⟩ := sp_sres q
      exact ⟨G, fx, env, As, d, env1, S, e1, fun v H1 As1 A1 S1 r1 o1 f1 x1 => q v σ H1 As1 A1 S1 r1 o1 f1 x1⟩
    · cases h
  | .retN, X, Γ, g, hp, st, h => by
    simp only [ckS] at h
    split at h
    · rw [decide_eq_true_eq] at h
      refine psImp ps_retN fun D σ H ⟨G, fx, env, As, S, q⟩ => ?_
      simp only [evS] at q
      subst h
      exact q .non σ H As [] S ⟨.non, rfl⟩ (fun a h => by cases h) (Fr.refl _ _) (Ext.refl _)
    · cases h
  | .ex e, X, Γ, g, hp, st, h => by
    simp only [ckS] at h
    split at h
    · simp only [Bool.and_eq_true] at h
      refine psImp (ps_expr (sE e g h.2).pe (notCmp_sw h.1 _ _ _)) fun D σ H ⟨G, fx, env, As, S, q⟩ => ?_
      simp only [evS] at q
      obtain ⟨d, env1, e1, q⟩ := sp_sres q
      exact ⟨G, fx, env, As, d, env1, S, e1, fun v H1 As1 A1 S1 r1 o1 f1 x1 => q σ H1 As1 S1 f1 x1⟩
    · cases h
  | .pass, X, Γ, g, hp, st, h => by
    have fin : ∀ {D : Ends} {σ : L2.St} {H : Hp}, TSd X.K Γ.ty ρ (evS cal fuel .pass) D σ H → D.nx σ H := fun ⟨G, fx, env, As, S, q⟩ => by
      simp only [evS] at q
      exact q _ _ As S (Fr.refl _ _) (Ext.refl _)
    simp only [ckS] at h
    split at h
    · exact psImp ps_pass fun D σ H q => fin q
    · exact psImp ps_doc fun D σ H q => fin q
    · cases h
  | .brk, X, Γ, g, hp, st, h => by
    simp only [ckS] at h
    split at h
    · exact psImp ps_break fun D σ H ⟨G, fx, env, As, S, q⟩ => by
        simp only [evS] at q
        exact q _ _ As S (Fr.refl _ _) (Ext.refl _)
    · cases h
  | .cont, X, Γ, g, hp, st, h => by
    simp only [ckS] at h
    split at h
    · exact psImp ps_continue fun D σ H ⟨G, fx, env, As, S, q⟩ => by
        simp only [evS] at q
        exact q _ _ As S (Fr.refl _ _) (Ext.refl _)
    · cases h
  | .nev, X, Γ, g, hp, st, h => psImp ps_never fun D σ H ⟨G, fx, env, As, S, q⟩ => by
      simp only [evS] at q
      exact q.elim
theorem sSs (hρ : setB ρ = true) : ∀ (ss : List S) {X : Cx} {Γ : Gam} (g : Good X Γ cal) (hp : PassesOwn (model X.prog X.w) X.A X.env X.xe) {sts : List Stmt}, ckSs Γ ρ ss sts = true → PSs X sts (TSd X.K Γ.ty ρ (evSs cal fuel ss))
  | [], X, Γ, g, hp, sts, h => by
    cases sts with
    | nil => exact pss_none
    | cons _ _ => simp only [ckSs] at h; cases h
  | s :: r, X, Γ, g, hp, sts, h => by
    cases sts with
    | nil => simp only [ckSs] at h; cases h
    | cons st sts =>
      simp only [ckSs, Bool.and_eq_true] at h
      exact pss_seq (sS hρ s g hp h.1) (sSs hρ r g hp h.2)
end
end
end Dv
end
section
namespace Dv
open PySem PySem.Spec PyProof.Rows L2

/-! ### defs -/
structure FD where
  sig : Fsig
  N : List Str
  ty : List Ty
  body : List S
def outsOf : List Ty → Env → Option Env
  | [], _ => some []
  | τ :: ts, o :: env => if isOwn τ = true then (match o with
      | some d => (outsOf ts env).map (some d :: ·)
      | none => none)
    else (outsOf ts env).map (none :: ·)
  | _ :: _, [] => none
def env0 (fd : FD) (ds : List PyData) : Env := ds.map some ++ List.replicate (fd.N.length - ds.length) none
/-- what a def gives, calls nested at most k deep -/
def callK (fs : List FD) (fuel : Nat) : Nat → Nat → List PyData → CRes
  | 0, _, _ => .bad
  | k + 1, f, ds => match fs[f]? with
    | none => .bad
    | some fd => if tyOks fd.sig.tys ds = true then (match evSs (callK fs fuel k) fuel fd.body (env0 fd ds) with
        | .ret d env => (match outsOf fd.sig.tys env with
          | some outs => .ok d outs
          | none => .bad)
        | .nx env => if fd.sig.ret = .sh then (match outsOf fd.sig.tys env with
          | some outs => .ok .none outs
          | none => .bad) else .bad
        | .ex x env => (match outsOf fd.sig.tys env with
          | some outs => .ex x outs
          | none => .bad)
        | _ => .bad)
      else .bad
def gamF (fs : List FD) (fd : FD) (sc : Scope) : Gam := ⟨fd.N, sc, fd.N, fd.ty, fs.map (·.sig)⟩
def parOk : Ty → Bool
  | .lst .own => false
  | .dic .own => false
  | _ => true
def ckF (fs : List FD) (fd : FD) (sc : Scope) (body : List Stmt) : Bool :=
  decide (fd.ty.length = fd.N.length) && decide (fd.ty.take fd.sig.ps.length = fd.sig.tys) && (fd.ty.drop fd.sig.ps.length).all setB && decide (fd.sig.ps.length = fd.sig.tys.length) && C8.scC fd.N fd.sig.ps sc && setB fd.sig.ret && fd.sig.tys.all parOk && ckSs (gamF fs fd sc) fd.sig.ret fd.body body
theorem outs_ok : ∀ {ts : List Ty} {env outs : Env}, outsOf ts env = some outs → outsOk ts outs = true ∧ ∀ (i : Nat) τ, ts[i]? = some τ → isOwn τ = true → ∃ d, env[i]? = some (some d) ∧ outs[i]? = some (some d)
  | [], env, outs, h => by simp only [outsOf] at h; cases h; exact ⟨rfl, fun i τ q => by simp at q⟩
  | τ :: ts, [], outs, h => by simp only [outsOf] at h; cases h
  | τ :: ts, o :: env, outs, h => by
    simp only [outsOf] at h
    split at h
    · rename_i ho
      split at h
      · rename_i d
        cases e : outsOf ts env with
        | none => rw [e] at h; cases h
        | some os =>
          rw [e] at h; cases h
          obtain ⟨q1, q2⟩ := outs_ok e
          refine ⟨by simp [outsOk, ho, q1], fun i σ z1 z2 => ?_⟩
          cases i with
          | zero => exact ⟨d, rfl, rfl⟩
          | succ i =>
            obtain ⟨d', w1, w2⟩ := q2 i σ (by simpa using z1) z2
            exact ⟨d', by simpa using w1, by simpa using w2⟩
      · cases h
    · rename_i ho
      cases e : outsOf ts env with
      | none => rw [e] at h; cases h
      | some os =>
        rw [e] at h; cases h
        obtain ⟨q1, q2⟩ := outs_ok e
        refine ⟨by simp [outsOk, ho, q1], fun i σ z1 z2 => ?_⟩
        cases i with
        | zero => simp at z1; subst z1; exact absurd z2 ho
        | succ i =>
          obtain ⟨d', w1, w2⟩ := q2 i σ (by simpa using z1) z2
          exact ⟨d', by simpa using w1, by simpa using w2⟩
theorem callK_ok {fs : List FD} {fuel k f : Nat} {ds : List PyData} {d : PyData} {outs : Env} (h : callK fs fuel k f ds = .ok d outs) : ∃ k' fd env, k = k' + 1 ∧ fs[f]? = some fd ∧ tyOks fd.sig.tys ds = true ∧ outsOf fd.sig.tys env = some outs ∧
    (evSs (callK fs fuel k') fuel fd.body (env0 fd ds) = .ret d env ∨ (d = .none ∧ fd.sig.ret = .sh ∧ evSs (callK fs fuel k') fuel fd.body (env0 fd ds) = .nx env)) := by
  cases k with
  | zero => simp only [callK] at h; cases h
  | succ k =>
    simp only [callK] at h
    split at h
    · cases h
    · rename_i fd hf
      split at h
      · rename_i ht
        split at h
        · rename_i d' env he
          split at h
          · rename_i os ho
            cases h
            exact ⟨k, fd, env, rfl, hf, ht, ho, .inl he⟩
          · cases h
        · rename_i env he
          split at h
          · rename_i hr
            split at h
            · rename_i os ho
              cases h
              exact ⟨k, fd, env, rfl, hf, ht, ho, .inr ⟨rfl, hr, he⟩⟩
            · cases h
          · cases h
        · split at h <;> cases h
        · cases h
      · cases h
section
variable {P : Program} {w : World} {K : PySem.W.Frag} {mg : Str → Option Value} {base : Heap}
/-- the module's defs, as they stand behind the top -/
structure FW (K : PySem.W.Frag) (mg : Str → Option Value) (fs : List FD) : Prop where
  fn : ∀ (f : Nat) fd, fs[f]? = some fd → ∃ fa fdt params body sc, mg fd.sig.name = some (.ref fa) ∧ FunD K fd.sig.name fd.sig.name params body sc [] [] fa fdt ∧ (Binds K fdt fd.sig.ps [] ∧ ∀ ns ∈ fd.sig.kws, KwB K fdt fd.sig.ps ns) ∧ ckF fs fd sc body = true
  blt : ∀ x ∈ bltNames, mg x = none
theorem start_get {N : List Str} {vs : List V} {i : Nat} {v : V} (h : vs[i]? = some v) : (L2.start N vs)[i]? = some (some v) := by
  unfold L2.start
  have hi := (List.getElem?_eq_some_iff.mp h).1
  rw [List.getElem?_append_left (by simpa using hi), List.getElem?_map, h]
  rfl
theorem fn_ok {fs : List FD} {fuel : Nat} (W : FW K mg fs) : ∀ (k f : Nat) (fd : FD) (fa : Addr) (fdt : FuncData) (params : Arguments) (body : List Stmt) (sc : Scope), fs[f]? = some fd → FunD K fd.sig.name fd.sig.name params body sc [] [] fa fdt → ckF fs fd sc body = true →
    FnG P w K mg base CX0 k fa fdt fd.sig.ps (spD K fd.sig (callK fs fuel k f))
  | 0, f, fd, fa, fdt, params, body, sc, hf, F, ck => by
    refine ⟨fun vs H Q E ⟨G, ds, As, d, outs, p, h, _⟩ => ?_, fun A out s H ar us vs Q E _ _ _ _ _ ⟨G, ds, As, d, outs, p, h, _⟩ => ?_⟩
    · simp only [callK] at h; cases h
    · simp only [callK] at h; cases h
  | k + 1, f, fd, fa, fdt, params, body, sc, hf, F, ck => by
    unfold ckF at ck
    simp only [Bool.and_eq_true, decide_eq_true_eq] at ck
    obtain ⟨⟨⟨⟨⟨⟨⟨c1, c2⟩, c3⟩, c4⟩, c5⟩, c6⟩, c7⟩, c8⟩ := ck
    have Sc := C8.fnScope_by c5
    obtain ⟨oc, od, dV, kV, doc, pm, an, cdv, ct, osl, rfl, lk, hcd, _, _⟩ := F.ex
    refine fng_of lk hcd Sc (fun vs H Q E ⟨G, ds, As, d, outs, p, h, _⟩ => by rw [p.lv, c4]) fun A out s H vs Q E hr hgd ⟨G, ds, As, d, outs, p, h, cont⟩ => ?_
    obtain ⟨k', fd', env, e1, e2, ht, ho, hres⟩ := callK_ok h
    cases e1
    rw [hf] at e2; cases e2
    have good : Good (cxOf CX0 P w K mg base fd.N fd.sig.name sc fa cdv A out s H E).nox (gamF fs fd sc) (callK fs fuel k) := by
      refine ⟨rfl, Sc.nd, rfl, rfl, hgd, by have := hr.un; show (A.deeper _).units + 200 < cLine; omega, fun _ _ => rfl, W.blt, fun g sg hg => ?_, fun g sg ds d outs hg hc => ?_⟩
      · have hg' : (fs.map (·.sig))[g]? = some sg := hg
        rw [List.getElem?_map] at hg'
        cases e : fs[g]? with
        | none => rw [e] at hg'; cases hg'
        | some fg =>
          rw [e] at hg'; cases hg'
          obtain ⟨fa', fdt', params', body', sc', q1, q2, q3, q4⟩ := W.fn g fg e
          exact ⟨fa', fdt', k, q1, q2.kp, fn_ok W k g fg fa' fdt' params' body' sc' e q2 q4, hr, q3⟩
      · have hg' : (fs.map (·.sig))[g]? = some sg := hg
        rw [List.getElem?_map] at hg'
        cases e : fs[g]? with
        | none => rw [e] at hg'; cases hg'
        | some fg =>
          rw [e] at hg'; cases hg'
          obtain ⟨_, fg', _, _, z1, z2, z3, _⟩ := callK_ok hc
          rw [e] at z1; cases z1
          exact ⟨z2, (outs_ok z3).1⟩
    refine ⟨TSd K fd.ty fd.sig.ret (evSs (callK fs fuel k) fuel fd.body), PSs.nox (sSs c6 fd.body good PassesOwn.never c8), ?_⟩
    -- the entry
    have hlv : vs.length ≤ fd.N.length := by
      have := congrArg List.length c2
      rw [List.length_take] at this
      have := p.lv
      omega
    have tyi : ∀ {i : Nat} {τ : Ty}, i < vs.length → fd.ty[i]? = some τ → fd.sig.tys[i]? = some τ := fun {i τ} hi q => by
      rw [← c2, List.getElem?_take_of_lt (by have := p.lv; omega)]; exact q
    have tyr : ∀ {i : Nat} {τ : Ty}, fd.sig.tys[i]? = some τ → fd.ty[i]? = some τ := fun {i τ} q => by
      have hi := (List.getElem?_eq_some_iff.mp q).1
      rw [← c2, List.getElem?_take_of_lt (by omega)] at q; exact q
    have late : ∀ {i : Nat} {τ : Ty}, vs.length ≤ i → fd.ty[i]? = some τ → setB τ = true := fun {i τ} hi q => by
      have h1 : (fd.ty.drop fd.sig.ps.length)[i - fd.sig.ps.length]? = some τ := by
        rw [List.getElem?_drop, ← q]; congr 1; have := p.lv; omega
      exact List.all_eq_true.mp c3 τ (List.mem_of_getElem? h1)
    have hdl : ds.length = vs.length := by rw [p.ld, p.lv]
    have e0 : ∀ {i : Nat} {d : PyData}, (env0 fd ds)[i]? = some (some d) → ds[i]? = some d := fun {i d} q => by
      unfold env0 at q
      by_cases hi : i < ds.length
      · rw [List.getElem?_append_left (by simpa using hi), List.getElem?_map] at q
        cases z : ds[i]? with
        | none => rw [z] at q; cases q
        | some d' => rw [z] at q; cases q; rfl
      · rw [List.getElem?_append_right (by simpa using hi), List.getElem?_replicate] at q
        split at q <;> cases q
    have e0r : ∀ {i : Nat} {d : PyData}, ds[i]? = some d → (env0 fd ds)[i]? = some (some d) := fun {i d} q => by
      unfold env0
      have hi := (List.getElem?_eq_some_iff.mp q).1
      rw [List.getElem?_append_left (by simpa using hi), List.getElem?_map, q]; rfl
    have getv : ∀ {i : Nat}, i < vs.length → ∃ v, vs[i]? = some v := fun {i} hi => ⟨_, List.getElem?_eq_getElem hi⟩
    have getd : ∀ {i : Nat}, i < vs.length → ∃ d, ds[i]? = some d := fun {i} hi => ⟨_, List.getElem?_eq_getElem (by omega)⟩
    have hal : ∀ (i : Nat) τ, fd.ty[i]? = some τ → setB τ = false → i < vs.length := fun i τ q1 q2 => by
      by_cases hi : i < vs.length
      · exact hi
      · have := late (by omega) q1
        rw [q2] at this; cases this
    have S0 : SR K fd.ty G (fxAll fd.ty (L2.start fd.N vs) (env0 fd ds)) H (L2.start fd.N vs) (env0 fd ds) As := by
      refine ⟨?_, ?_, fun i τ d q1 q2 => ?_, fun i v q => ⟨(fxAll_some q).1, (fxAll_some q).2.1⟩, fun i v q => (fxAll_some q).2.2, p.dj, p.off, p.gk, fun i τ q1 q2 => ?_⟩
      · unfold L2.start; rw [List.length_append, List.length_map, List.length_replicate]; omega
      · unfold env0; rw [List.length_append, List.length_map, List.length_replicate]; omega
      · have z := e0 q2
        have hi : i < vs.length := by rw [← hdl]; exact (List.getElem?_eq_some_iff.mp z).1
        obtain ⟨v, hv⟩ := getv hi
        exact ⟨v, start_get hv, p.at_ i τ v d (tyi hi q1) hv z⟩
      · have hi := hal i τ q1 q2
        obtain ⟨d, hd⟩ := getd hi
        exact ⟨d, e0r hd⟩
    refine ⟨G, _, env0 fd ds, As, S0, ?_⟩
    -- the end
    have fin : ∀ (v : V) (σ' : L2.St) (H' : Hp) (As' : Fp) (A : List Addr), SR K fd.ty G (fxAll fd.ty (L2.start fd.N vs) (env0 fd ds)) H' σ' env As' → Rep K G H' fd.sig.ret v d A → (∀ a ∈ A, ¬ G a ∧ H' a ≠ none ∧ ∀ i, a ∉ As' i) → Fr G H H' → Ext H H' → Q v H' := by
      intro v σ' H' As' A S' r oA fr x
      obtain ⟨ok1, ok2⟩ := outs_ok ho
      refine cont v H' As' A r (fun i τ u e q1 q2 q3 q4 => ?_) (fun i τ q1 q2 => ?_) S'.dj S'.off oA fr x
      · obtain ⟨d', z1, z2⟩ := ok2 i τ q1 q2
        rw [z2] at q4; cases q4
        obtain ⟨u', y1, y2⟩ := S'.sl i τ e (tyr q1) z1
        have hs : setB τ = false := by
          have := List.all_eq_true.mp c7 τ (List.mem_of_getElem? q1)
          cases τ with
          | sh => cases q2
          | pd => cases q2
          | lst m => cases m <;> first | rfl | cases this
          | dic m => cases m <;> first | rfl | cases this
        have hi : i < vs.length := (List.getElem?_eq_some_iff.mp q3).1
        obtain ⟨dd, hd⟩ := getd hi
        obtain ⟨y3, _⟩ := S'.fix i u (fxAll_of (tyr q1) hs (e0r hd) (start_get q3))
        rw [y1] at y3; cases y3
        exact y2
      · obtain ⟨d', z1, z2⟩ := ok2 i τ q1 q2
        exact ⟨d', z2⟩
    rcases hres with he | ⟨rfl, hret, he⟩
    · rw [he]
      exact fun v σ' H' As' A S' r oA fr x => fin v σ' H' As' A S' r oA fr x
    · rw [he]
      exact fun σ' H' As' S' fr x => fin .non σ' H' As' [] S' (by rw [hret]; exact ⟨.non, rfl⟩) (fun a h => by cases h) fr x
end
end Dv
end
section
namespace Dv
open PySem PySem.Spec PyProof.Rows L2

/-! ### the module's own objects, without one -/
def dropK (K : PySem.W.Frag) (a : Addr) : PySem.W.Frag := K.filter fun p => !(p.1 == a)
theorem dropK_get {K : PySem.W.Frag} {a b : Addr} (h : b ≠ a) : (dropK K a).lookup b = K.lookup b := by
  induction K with
  | nil => rfl
  | cons p r ih =>
    unfold dropK at ih ⊢
    rw [List.filter_cons]
    obtain ⟨c, o⟩ := p
    by_cases hc : c = a
    · subst hc
      simp only [beq_self_eq_true, Bool.not_true, Bool.false_eq_true, if_false]
      rw [ih, List.lookup_cons]
      have : (b == c) = false := by simpa using h
      rw [this]
    · have : (!(c == a)) = true := by simpa using hc
      simp only [this, if_true]
      rw [List.lookup_cons, List.lookup_cons, ih]
theorem dropK_self {K : PySem.W.Frag} {a : Addr} : (dropK K a).lookup a = none := by
  induction K with
  | nil => rfl
  | cons p r ih =>
    unfold dropK at ih ⊢
    rw [List.filter_cons]
    obtain ⟨c, o⟩ := p
    by_cases hc : c = a
    · subst hc
      simp only [beq_self_eq_true, Bool.not_true, Bool.false_eq_true, if_false]
      exact ih
    · have : (!(c == a)) = true := by simpa using hc
      simp only [this, if_true]
      rw [List.lookup_cons, ih]
      have : (a == c) = false := by simpa using Ne.symm hc
      rw [this]
theorem dropK_in {K : PySem.W.Frag} {a : Addr} {h : Heap} (x : K.In h) : (dropK K a).In h := fun b o e => by
  by_cases hb : b = a
  · subst hb; rw [dropK_self] at e; cases e
  · rw [dropK_get hb] at e; exact x b o e
section
variable {K : PySem.W.Frag} {a : Addr}
theorem ne_of_seq (hs : ∀ o, K.lookup a = some o → ∃ its n, o.data = .seq its n) {b : Addr} {o : Obj} (h : K.lookup b = some o) (hd : ∀ its n, o.data ≠ .seq its n) : b ≠ a := fun e => by
  subst e
  obtain ⟨its, n, q⟩ := hs o h
  exact hd _ _ q
theorem codeIn_drop (hs : ∀ o, K.lookup a = some o → ∃ its n, o.data = .seq its n) {cd : Value} {q : Str} (h : PySem.W.codeIn K cd q = true) : PySem.W.codeIn (dropK K a) cd q = true := by
  cases cd with
  | ref c =>
    unfold PySem.W.codeIn at h ⊢
    simp only at h ⊢
    cases e : K.lookup c with
    | none => rw [e] at h; cases h
    | some o =>
      by_cases hc : c = a
      · subst hc
        obtain ⟨its, n, q⟩ := hs o e
        rw [e] at h
        obtain ⟨o1, o2, o3, o4⟩ := o
        simp only at q
        subst q
        cases h
      · rw [dropK_get hc]; exact h
  | _ => exact h
theorem keepIn_drop (hs : ∀ o, K.lookup a = some o → ∃ its n, o.data = .seq its n) {f : Addr} {oc : Value} {od : Option Addr} {fd : FuncData} {osl : Array (Option Value)} (h : K.lookup f = some ⟨oc, od, .func fd, osl⟩) : PySem.W.keepIn (dropK K a) (.ref f) = true := by
  have hf := ne_of_seq hs h fun its n q => by cases q
  unfold PySem.W.keepIn
  simp only
  rw [dropK_get hf, h]
theorem funD_drop {x qual : Str} {params : Arguments} {body : List Stmt} {scope : Scope} {f : Addr} {fd : FuncData} (hs : ∀ o, K.lookup a = some o → ∃ its n, o.data = .seq its n) (F : FunD K x qual params body scope [] [] f fd) : FunD (dropK K a) x qual params body scope [] [] f fd := by
  obtain ⟨oc, od, dV, kV, doc, pm, an, cdv, ct, osl, rfl, lk, hcd, hD, hK⟩ := F.ex
  have hf := ne_of_seq hs lk fun its n q => by cases q
  refine ⟨⟨oc, od, dV, kV, doc, pm, an, cdv, ct, osl, rfl, (dropK_get hf).trans lk, codeIn_drop hs hcd, ?_, .inl rfl⟩, keepIn_drop hs lk⟩
  rcases hD with ⟨_, rfl⟩ | ⟨e, _⟩
  · exact .inl ⟨rfl, rfl⟩
  · exact absurd rfl e
end

/-! ### a law -/
structure FS where
  fd : FD
  params : Arguments
  body : List Stmt
  sc : Scope
def FS.pos (s : FS) : Prop := ∀ (kV doc pm : Value) (an : Option Addr) (cdv ct : Value) (us : List Value), us.length = s.fd.sig.ps.length → bindArgs (PySem.W.fnOf s.fd.sig.name s.fd.sig.name s.params s.body s.sc .none kV doc pm an cdv ct) ⟨us, []⟩ = pure (s.fd.sig.ps.zip us)
def FS.kwd (s : FS) (ns : List Str) : Prop := ∀ (kV doc pm : Value) (an : Option Addr) (cdv ct : Value) (ws : List Value), ws.length = ns.length → bindArgs (PySem.W.fnOf s.fd.sig.name s.fd.sig.name s.params s.body s.sc .none kV doc pm an cdv ct) ⟨[], ns.zip ws⟩ = pure (s.fd.sig.ps.zip (permV (pmOf s.fd.sig.ps ns) ws))
def FS.bnd (s : FS) : Prop := s.pos ∧ ∀ ns ∈ s.fd.sig.kws, s.kwd ns
theorem FunD.kwB {K : PySem.W.Frag} {s : FS} {f : Addr} {fd : FuncData} {ns : List Str} (F : FunD K s.fd.sig.name s.fd.sig.name s.params s.body s.sc [] [] f fd) (h : s.kwd ns) : KwB K fd s.fd.sig.ps ns := by
  obtain ⟨oc, od, dV, kV, doc, pm, an, cdv, ct, osl, rfl, lk, hcd, hD, hK⟩ := F.ex
  rcases hD with ⟨_, rfl⟩ | ⟨e, _⟩
  · exact fun s ws _ hl => .of_eq (h kV doc pm an cdv ct ws hl)
  · exact absurd rfl e
/-- the written part, as it stands at a heap -/
def FnsAt (K : PySem.W.Frag) (mg : Str → Option Value) (fss : List FS) : Prop := (∀ s ∈ fss, ∃ fa fdt, mg s.fd.sig.name = some (.ref fa) ∧ FunD K s.fd.sig.name s.fd.sig.name s.params s.body s.sc [] [] fa fdt) ∧ ∀ x ∈ bltNames, mg x = none
theorem sha_ints {K : PySem.W.Frag} {H : Hp} : ∀ ns : List Int, ShA K H (ns.map V.int) (ns.map PyData.int)
  | [] => .nil
  | n :: ns => .cons (.int n) (sha_ints ns)
theorem law_of {l : PySem.W.OpenLaw} {n k L fuel : Nat} {q : Program} {loose : List Str} {XP : (Str → Option Value) → Heap → Prop} {YP : World → Heap → Prop} {d : DefRec} {fss : List FS} {sl : FS}
    (hn : l.most = some n) (hn2 : n ≤ sizeLine) (hdf : d.params.defaults = []) (hr : Room k callerA) (hL : fss[L]? = some sl) (hnm : sl.fd.sig.name = d.name) (hty : sl.fd.sig.tys = [.sh]) (hret : sl.fd.sig.ret = .sh)
    (hck : fss.all (fun s => ckF (fss.map (·.fd)) s.fd s.sc s.body) = true) (hb : ∀ s ∈ fss, s.bnd)
    (F : ∀ (w : World) (mg : Str → Option Value) (h : Heap), YP w h → h.Ns mainGlobals mg → ∃ K : PySem.W.Frag, K.In h ∧ FnsAt K mg fss)
    (pure_ : ∀ ns : List Int, ns.length ≤ n → (∀ z ∈ ns, Builtin.Int.intBits z ≤ 1048576) → ∃ outs, callK (fss.map (·.fd)) fuel k L [.list (ns.map .int)] = .ok (.bool true) outs) :
    PySem.W.WalkO q loose XP YP l.row.toRowW d [] (fun f vs => PySem.call f vs) := by
  refine Att.attach_callB hn hdf fun w s₀ s₁ mg mb fa o pm cd doc a vs ns G Y ho hd hcd hmg hobj hints hlen hbits hg => ?_
  obtain ⟨K0, KX0, hfn, hblt⟩ := F w mg _ Y G.T.g
  -- the script is not among what is held fixed
  have hs : ∀ o, K0.lookup a = some o → ∃ its n, o.data = .seq its n := fun o e => by
    have := KX0 a o e
    rw [hobj] at this; cases this
    exact ⟨_, _, rfl⟩
  let K := dropK K0 a
  have KX : K.In s₁.heap := dropK_in KX0
  have hKa : K.lookup a = none := dropK_self
  have W : FW K mg (fss.map (·.fd)) := by
    refine ⟨fun f fd hf => ?_, hblt⟩
    rw [List.getElem?_map] at hf
    cases e : fss[f]? with
    | none => rw [e] at hf; cases hf
    | some s =>
      rw [e] at hf; cases hf
      have hm := List.mem_of_getElem? e
      obtain ⟨fa', fdt, q1, q2⟩ := hfn s hm
      have q3 := funD_drop hs q2
      exact ⟨fa', fdt, s.params, s.body, s.sc, q1, q3, ⟨q3.bindsN (hb s hm).1, fun ns hns => FunD.kwB q3 ((hb s hm).2 ns hns)⟩, List.all_eq_true.mp hck s hm⟩
  have rv := vals_ints hints
  have lenV := hints.length
  let H : Hp := fun b => if b = a then some (.frz { cls := .type "list", data := .seq vs.toArray } (.lst (ns.map V.int))) else none
  have Ha : H a = some (.frz { cls := .type "list", data := .seq vs.toArray } (.lst (ns.map V.int))) := if_pos rfl
  have Hn : ∀ {b}, b ≠ a → H b = none := fun hb => if_neg hb
  have hok : HOk l.prog w H s₁.heap := fun b u z => by
    by_cases hb : b = a
    · subst hb
      rw [Ha] at z; cases z
      exact ⟨hobj, by rw [List.length_map]; exact Nat.le_trans hlen hn2, vs, _, rv, hobj⟩
    · rw [Hn hb] at z; cases z
  have base_of : ∀ {b : Addr} {o : Obj}, s₁.heap.get? b = some o → H b = none → (hidT s₁.heap H).get? b = some o := fun e n => hidT_get e n
  have noA : ∀ {b : Addr} {o : Obj} {es : Array DictEntry} {ep : Nat}, s₁.heap.get? b = some o → o.data = .dict es ep → H b = none := fun {b o es ep} e d => by
    by_cases hb : b = a
    · subst hb
      rw [hobj] at e; cases e
      have d' : Data.seq vs.toArray _ = Data.dict es ep := d
      cases d'
    · exact Hn hb
  have nsK : ∀ {b : Addr} {m : Str → Option Value}, s₁.heap.Ns b m → (hidT s₁.heap H).Ns b m := fun {b m} ⟨o, es, ep, e, d, r⟩ => ⟨o, es, ep, base_of e (noA e d), d, r⟩
  have hKb : K.In (hidT s₁.heap H) := fun b o e => base_of (KX b o e) (Hn fun z => by subst z; rw [hKa] at e; cases e)
  have hM : Mod K mg (hidT s₁.heap H) := ⟨hKb, nsK G.T.g, ⟨mb, nsK G.T.b, G.T.builtins⟩, let ⟨mc, h1, h2⟩ := G.T.nolimit; ⟨mc, nsK h1, h2⟩⟩
  have e0 : Env0 l.prog w K mg (hidT s₁.heap H) callerA [] s₁ H := ⟨rfl, hM, fun b o e => of_hidT e, Nat.le_of_eq (hidT_size _ _), trivial, fun b hb => absurd (show b ∈ ([] : List Addr) from hb) (by simp), hok, .of_eq hg⟩
  obtain ⟨fa', fdt, params, body, sc, q1, q2, q3, q4⟩ := W.fn L sl.fd (by rw [List.getElem?_map, hL]; rfl)
  rw [hnm] at q1
  rw [hmg] at q1
  cases q1
  have Fn := fn_ok (P := l.prog) (w := w) (base := hidT s₁.heap H) (fuel := fuel) W k L sl.fd fa fdt params body sc (by rw [List.getElem?_map, hL]; rfl) q2 q4
  obtain ⟨outs, hp⟩ := pure_ ns hlen hbits
  have lp : sl.fd.sig.ps.length = 1 := by
    unfold ckF at q4
    simp only [Bool.and_eq_true, decide_eq_true_eq] at q4
    rw [q4.1.1.1.1.2, hty]; rfl
  have hsp : spD K sl.fd.sig (callK (fss.map (·.fd)) fuel k L) [.ref a] H (fun v _ => v = .bl true) (fun _ _ _ => False) := by
    refine ⟨fun _ => False, [.list (ns.map .int)], fun _ => [], _, outs, ⟨by rw [hty]; rfl, by rw [hty]; rfl, fun i τ v dd z1 z2 z3 => ?_, fun i j b h => (nomatch h), fun i b h => (nomatch h), fun b (h : False) => h.elim⟩, hp, fun v H' As' A r _ _ _ _ _ _ _ => ?_⟩
    · rw [hty] at z1
      cases i with
      | zero =>
        simp at z1 z2 z3
        subst z1 z2 z3
        exact ⟨.lst ⟨_, Ha⟩ (sha_ints ns), rfl⟩
      | succ i => simp at z1
    · rw [hret] at r
      obtain ⟨r, _⟩ := r
      cases r
      rfl
  have hbn : BindsTo s₁ fdt ⟨[.ref a], []⟩ (sl.fd.sig.ps.zip [.ref a]) := by
    have := q3.1 s₁ [.ref a] KX (by simp [lp])
    simpa using this
  refine codeAny_mono (Fn.runs callerA [] s₁ H ⟨[.ref a], []⟩ [.ref a] [.ref a] _ _ hr rfl e0 hbn (.cons rfl .nil) hsp) fun r s' h => ?_
  cases r with
  | error e => exact h.elim
  | ok fl =>
    cases fl with
    | next => exact False.elim h
    | brk => exact False.elim h
    | cont => exact False.elim h
    | ret u =>
      obtain ⟨v, H', os, bare, un, hok', r', q⟩ := h
      have q' : v = .bl true := q
      subst q'
      obtain rfl : u = Value.bool true := r'
      refine ⟨rfl, OldK.of_keep fun b o e => ?_, os, bare⟩
      by_cases hb : b = a
      · subst hb
        have z2 := un.frzs b _ _ Ha
        obtain ⟨e2, _⟩ := hok' b _ z2
        rw [hobj] at e; cases e
        exact e2
      · exact un.keep b o e (Hn hb) (by intro z; exact absurd (show b ∈ ([] : List Addr) from z) (by simp)) (by simp)
end Dv
end
section
namespace Dv
open PySem PySem.Spec PyProof.Rows L2

def FS.defD (s : FS) : He.DefD := ⟨(s.fd.sig.name, none), s.fd.sig.name, s.fd.sig.name, s.params, s.body, s.sc, [], []⟩
def faOf (fss : List FS) : List He.Fa := fss.map (fun s => He.Fa.glo s.fd.sig.name) ++ bltNames.map He.Fa.free
def fnOfs (fss : List FS) : List He.DefD := fss.map FS.defD
theorem fnsAt_of {K : PySem.W.Frag} {mg : Str → Option Value} {h : Heap} {fss : List FS} (X : K.In h) (G : h.Ns mainGlobals mg) (c : He.SaysD (faOf fss) (fnOfs fss) K) : FnsAt K mg fss := by
  refine ⟨fun s hs => ?_, fun x hx => ?_⟩
  · obtain ⟨fdt, F⟩ := c.defs (d := s.defD) (List.mem_map.mpr ⟨s, hs, rfl⟩)
    exact ⟨_, fdt, He.glo_ok X G (c.facts (f := .glo s.fd.sig.name) (List.mem_append_left _ (List.mem_map.mpr ⟨s, hs, rfl⟩))), F⟩
  · exact He.free_ok X G (c.facts (f := .free x) (List.mem_append_right _ (List.mem_map.mpr ⟨x, hx, rfl⟩)))
end Dv
end
section
namespace Dv
open PySem

/-! ### pure: a call, a comprehension, a loop -/
theorem callK_at {fs : List FD} {fuel k f : Nat} {fd : FD} {ds : List PyData} {d : PyData} {env outs : Dv.Env} (hf : fs[f]? = some fd) (ht : tyOks fd.sig.tys ds = true) (hr : evSs (callK fs fuel k) fuel fd.body (env0 fd ds) = .ret d env) (ho : outsOf fd.sig.tys env = some outs) : callK fs fuel (k + 1) f ds = .ok d outs := by
  simp only [callK, hf, ht, hr, ho, if_true]
theorem set2 {e : Dv.Env} {i : Nat} {a b : Option PyData} : (e.set i a).set i b = e.set i b := by rw [List.set_set]
section
variable {cal : Nat → List PyData → CRes} {fuel i : Nat} {it : Dv.It} {ifs : Option E} {elt : E} {env env1 : Dv.Env} {xs : List PyData}
def compF (cal : Nat → List PyData → CRes) (i : Nat) (ifs : Option E) (elt : E) : PyData → Dv.Env → Res (Option PyData) := fun x e => match setTg (.one i) x (wipeE (tgSlots (.one i)) e) with
      | none => .bad
      | some e => (evIf cal ifs e).bind fun b e => if b then (evE cal elt e).bind fun y e => .ok (some y) e else .ok none e
theorem ok_bind {α β : Type} {a : α} {e : Dv.Env} {f : α → Dv.Env → Res β} : (Res.ok a e).bind f = f a e := rfl
theorem compF_eq {x : PyData} {e : Dv.Env} : compF cal i ifs elt x e = (evIf cal ifs (e.set i (some x))).bind fun b e => if b then (evE cal elt e).bind fun y e => .ok (some y) e else .ok none e := by
  simp only [compF, setTg, tgSlots, wipeE, set2]
theorem compL_cons {f : PyData → Dv.Env → Res (Option PyData)} {x : PyData} {xs : List PyData} {e : Dv.Env} : compL f (x :: xs) e = (f x e).bind fun y env => (compL f xs env).bind fun ys env => .ok (match y with
    | some y => y :: ys
    | none => ys) env := rfl
theorem comp_of {ys : List PyData} {e' : Dv.Env} (hit : evIt cal it env = .ok xs env1) (h : compL (compF cal i ifs elt) xs env1 = .ok ys e') (hl : xs.length < sizeLine) : evE cal (.comp (.one i) it ifs elt) env = .ok (.list ys) (e'.set i (env1[i]?.join)) := by
  simp only [evE]
  rw [hit, ok_bind]
  show ((compL (compF cal i ifs elt) xs env1).bind fun ys e => if xs.length < sizeLine then Res.ok (PyData.list ys) (backE (tgSlots (.one i)) env1 e) else Res.bad) = _
  rw [h, ok_bind, if_pos hl]
  rfl
theorem comp_pure {p : PyData → Bool} {g : PyData → PyData} (hit : evIt cal it env = .ok xs env) (hi : i < env.length)
    (hx : ∀ x ∈ xs, evIf cal ifs (env.set i (some x)) = .ok (p x) (env.set i (some x))) (hy : ∀ x ∈ xs, p x = true → evE cal elt (env.set i (some x)) = .ok (g x) (env.set i (some x))) (hl : xs.length < sizeLine) :
    evE cal (.comp (.one i) it ifs elt) env = .ok (.list ((xs.filter p).map g)) env := by
  have key : ∀ (ys : List PyData) (o : Option PyData), (∀ x ∈ ys, x ∈ xs) → ∃ o', compL (compF cal i ifs elt) ys (env.set i o) = .ok ((ys.filter p).map g) (env.set i o') := by
    intro ys
    induction ys with
    | nil => intro o _; exact ⟨o, rfl⟩
    | cons x ys ih =>
      intro o hm
      have h1 := hx x (hm x List.mem_cons_self)
      obtain ⟨o', h3⟩ := ih (some x) fun y hy => hm y (List.mem_cons_of_mem _ hy)
      refine ⟨o', ?_⟩
      rw [compL_cons, compF_eq, set2, h1, ok_bind]
      cases hp : p x with
      | false =>
        rw [if_neg (by decide), ok_bind, h3, ok_bind, List.filter_cons, hp]
        rfl
      | true =>
        rw [if_pos rfl, hy x (hm x List.mem_cons_self) hp, ok_bind, ok_bind, h3, ok_bind, List.filter_cons, hp]
        rfl
  obtain ⟨o', h⟩ := key xs (env[i]?.join) fun x h => h
  have e0 : env.set i (env[i]?.join) = env := by
    rw [List.getElem?_eq_getElem hi]
    exact List.set_getElem_self hi
  rw [e0] at h
  rw [comp_of hit h hl, set2, e0]
theorem comp_inv (Inv : Nat → Dv.Env → Prop) (P : PyData → Prop) (hit : evIt cal it env = .ok xs env1) (h0 : Inv 0 env1) (hset : ∀ j e o, Inv j e → Inv j (e.set i o))
    (body : ∀ j x, xs[j]? = some x → ∀ e, Inv j e → ∃ b e2, evIf cal ifs (e.set i (some x)) = .ok b e2 ∧ (if b = true then ∃ y e3, evE cal elt e2 = .ok y e3 ∧ P y ∧ Inv (j + 1) e3 else Inv (j + 1) e2)) (hl : xs.length < sizeLine) :
    ∃ ys e', evE cal (.comp (.one i) it ifs elt) env = .ok (.list ys) e' ∧ (∀ y ∈ ys, P y) ∧ ys.length ≤ xs.length ∧ (ifs = none → ys.length = xs.length) ∧ Inv xs.length e' := by
  have key : ∀ (n j : Nat) (e : Dv.Env), n = xs.length - j → j ≤ xs.length → Inv j e → ∃ ys e', compL (compF cal i ifs elt) (xs.drop j) e = .ok ys e' ∧ (∀ y ∈ ys, P y) ∧ ys.length ≤ xs.length - j ∧ (ifs = none → ys.length = xs.length - j) ∧ Inv xs.length e' := by
    intro n
    induction n with
    | zero =>
      intro j e hn hj hI
      have : j = xs.length := by omega
      subst this
      refine ⟨[], e, by rw [List.drop_length]; rfl, by simp, by simp, by simp, hI⟩
    | succ n ih =>
      intro j e hn hj hI
      have hlt : j < xs.length := by omega
      rw [List.drop_eq_getElem_cons hlt]
      obtain ⟨b, e2, h1, h2⟩ := body j xs[j] (List.getElem?_eq_getElem hlt) e hI
      rw [compL_cons, compF_eq, h1, ok_bind]
      cases b with
      | false =>
        simp only [Bool.false_eq_true, if_false] at h2
        obtain ⟨ys, e', q1, q2, q3, q4, q5⟩ := ih (j + 1) e2 (by omega) hlt h2
        refine ⟨ys, e', ?_, q2, by omega, fun hn => ?_, q5⟩
        · rw [if_neg (by decide), ok_bind, q1, ok_bind]
        · subst hn; simp only [evIf] at h1; cases h1
      | true =>
        simp only [if_true] at h2
        obtain ⟨y, e3, h3, h4, h5⟩ := h2
        obtain ⟨ys, e', q1, q2, q3, q4, q5⟩ := ih (j + 1) e3 (by omega) hlt h5
        refine ⟨y :: ys, e', ?_, ?_, by simp only [List.length_cons]; omega, fun hn => by have := q4 hn; simp only [List.length_cons]; omega, q5⟩
        · rw [if_pos rfl, h3, ok_bind, ok_bind, q1, ok_bind]
        · intro z hz
          rcases List.mem_cons.mp hz with rfl | hz
          · exact h4
          · exact q2 z hz
  obtain ⟨ys, e', q1, q2, q3, q4, q5⟩ := key xs.length 0 env1 (by simp) (Nat.zero_le _) h0
  rw [List.drop_zero] at q1
  exact ⟨ys, _, comp_of hit q1 hl, q2, by simpa using q3, fun hn => by simpa using q4 hn, hset _ _ _ q5⟩
theorem for_inv {tg : Tg} {body : List S} (Inv : Nat → Dv.Env → Prop) (hit : evIt cal it env = .ok xs env1) (h0 : Inv 0 env1)
    (step : ∀ j x, xs[j]? = some x → ∀ e, Inv j e → ∃ e2 e3, setTg tg x e = some e2 ∧ (evSs cal fuel body e2 = .nx e3 ∨ evSs cal fuel body e2 = .ct e3) ∧ Inv (j + 1) e3) :
    ∃ e', evS cal fuel (.for tg it body) env = .nx e' ∧ Inv xs.length e' := by
  have key : ∀ (n j : Nat) (e : Dv.Env), n = xs.length - j → j ≤ xs.length → Inv j e → ∃ e', forL (fun x e => match setTg tg x e with
    | none => .bad
    | some e => evSs cal fuel body e) (xs.drop j) e = .nx e' ∧ Inv xs.length e' := by
    intro n
    induction n with
    | zero =>
      intro j e hn hj hI
      have : j = xs.length := by omega
      subst this
      exact ⟨e, by rw [List.drop_length]; rfl, hI⟩
    | succ n ih =>
      intro j e hn hj hI
      have hlt : j < xs.length := by omega
      rw [List.drop_eq_getElem_cons hlt]
      obtain ⟨e2, e3, h1, h2, h3⟩ := step j xs[j] (List.getElem?_eq_getElem hlt) e hI
      obtain ⟨e', q1, q2⟩ := ih (j + 1) e3 (by omega) hlt h3
      refine ⟨e', ?_, q2⟩
      simp only [forL, h1]
      rcases h2 with h2 | h2 <;> rw [h2] <;> exact q1
  obtain ⟨e', q1, q2⟩ := key xs.length 0 env1 (by simp) (Nat.zero_le _) h0
  rw [List.drop_zero] at q1
  refine ⟨e', ?_, q2⟩
  simp only [evS]
  rw [hit]
  exact q1
end
end Dv
end
section
namespace Dv
open PySem

/-! ### data that is small enough to be compared and shown -/
structure Ok (D W : Nat) (d : PyData) : Prop where
  lay : d.canLay0 = true
  shr : d.intsShort 62 = true
  sho : d.showable = true
  dep : d.depth ≤ D
  wt : d.weight ≤ W
theorem Ok.mono {D W D' W' : Nat} {d : PyData} (h : Ok D W d) (h1 : D ≤ D') (h2 : W ≤ W') : Ok D' W' d := ⟨h.lay, h.shr, h.sho, Nat.le_trans h.dep h1, Nat.le_trans h.wt h2⟩
theorem Ok.noDict {D W : Nat} {d : PyData} (h : Ok D W d) : d.hasDict = false := PyData.hasDict_of_canLay d h.lay
theorem Ok.shp {D W : Nat} {d : PyData} (h : Ok D W d) (hD : D ≤ 64) : shp d = true := by
  unfold Dv.shp SeqAt.shaped
  rw [h.lay, Bool.true_and]
  exact decide_eq_true (Nat.le_trans h.dep hD)
theorem Ok.repr {D W : Nat} {d : PyData} (h : Ok D W d) (hD : D ≤ 60) (hW : W ≤ 131072) : reprD d = some (.str d.shown) := by
  unfold reprD
  have h1 := PyData.shown_le 62 (by decide) d (PyData.leavesShort_of_canLay0 62 d h.lay h.shr)
  have h2 := h.wt
  have hs : sizeLine = 16777216 := by decide
  have h3 : d.shown.length ≤ sizeLine := by rw [hs]; omega
  rw [h.sho, h.noDict]
  simp only [Bool.not_false, Bool.and_true, Bool.true_and]
  rw [if_pos]
  simp only [Bool.and_eq_true, decide_eq_true_eq]
  exact ⟨Nat.le_trans h.dep hD, h3⟩
theorem layAll : ∀ {xs : List PyData}, PyData.canLayAll0 xs = true ↔ ∀ x ∈ xs, x.canLay0 = true
  | [] => by simp [PyData.canLayAll0]
  | x :: xs => by simp [PyData.canLayAll0, layAll (xs := xs)]
theorem intsAll : ∀ {xs : List PyData}, PyData.intsShortAll 62 xs = true ↔ ∀ x ∈ xs, x.intsShort 62 = true
  | [] => by simp [PyData.intsShortAll]
  | x :: xs => by simp [PyData.intsShortAll, intsAll (xs := xs)]
theorem shoAll : ∀ {xs : List PyData}, PyData.showableAll xs = true ↔ ∀ x ∈ xs, x.showable = true
  | [] => by simp [PyData.showableAll]
  | x :: xs => by simp [PyData.showableAll, shoAll (xs := xs)]
theorem depAll {D : Nat} : ∀ {xs : List PyData}, PyData.depthAll xs ≤ D ↔ ∀ x ∈ xs, x.depth ≤ D
  | [] => by simp [PyData.depthAll]
  | x :: xs => by simp [PyData.depthAll, Nat.max_le, depAll (xs := xs)]
theorem wtAll {w : Nat} : ∀ {xs : List PyData}, (∀ x ∈ xs, x.weight ≤ w) → PyData.weightAll xs ≤ xs.length * (w + 1)
  | [], _ => by simp [PyData.weightAll]
  | x :: xs, h => by
    have h1 := h x List.mem_cons_self
    have h2 := wtAll (xs := xs) (w := w) fun y hy => h y (List.mem_cons_of_mem _ hy)
    simp only [PyData.weightAll, List.length_cons]
    rw [Nat.add_mul, Nat.one_mul]
    omega
theorem wt_mem : ∀ {xs : List PyData} {x : PyData}, x ∈ xs → x.weight + 1 ≤ PyData.weightAll xs
  | y :: ys, x, h => by
    simp only [PyData.weightAll]
    rcases List.mem_cons.mp h with rfl | h
    · omega
    · have := wt_mem h
      omega
theorem wt_len : ∀ {xs : List PyData}, xs.length ≤ PyData.weightAll xs
  | [] => Nat.zero_le _
  | x :: xs => by
    have := wt_len (xs := xs)
    simp only [PyData.weightAll, List.length_cons]
    omega
theorem wt_append : ∀ {xs ys : List PyData}, PyData.weightAll (xs ++ ys) = PyData.weightAll xs + PyData.weightAll ys
  | [], ys => by simp [PyData.weightAll]
  | x :: xs, ys => by
    simp only [List.cons_append, PyData.weightAll, wt_append (xs := xs)]
    omega
/-- a list's items together -/
structure OkA (D W : Nat) (xs : List PyData) : Prop where
  lay : PyData.canLayAll0 xs = true
  shr : PyData.intsShortAll 62 xs = true
  sho : PyData.showableAll xs = true
  dep : PyData.depthAll xs ≤ D
  wt : PyData.weightAll xs ≤ W
theorem OkA.list {D W : Nat} {xs : List PyData} (h : OkA D W xs) : Ok (D + 1) W (.list xs) := ⟨by simpa [PyData.canLay0] using h.lay, by simpa [PyData.intsShort] using h.shr, by simpa [PyData.showable] using h.sho, by simpa [PyData.depth] using h.dep, by simpa [PyData.weight] using h.wt⟩
theorem OkA.tuple {D W : Nat} {xs : List PyData} (h : OkA D W xs) : Ok (D + 1) W (.tuple xs) := ⟨by simpa [PyData.canLay0] using h.lay, by simpa [PyData.intsShort] using h.shr, by simpa [PyData.showable] using h.sho, by simpa [PyData.depth] using h.dep, by simpa [PyData.weight] using h.wt⟩
theorem Ok.tupA {D W : Nat} {xs : List PyData} (h : Ok D W (.tuple xs)) : 1 ≤ D ∧ OkA (D - 1) W xs := by
  obtain ⟨h1, h2, h3, h4, h5⟩ := h
  simp only [PyData.canLay0, PyData.intsShort, PyData.showable, PyData.depth, PyData.weight] at h1 h2 h3 h4 h5
  exact ⟨by omega, h1, h2, h3, by omega, h5⟩
theorem Ok.lstA {D W : Nat} {xs : List PyData} (h : Ok D W (.list xs)) : 1 ≤ D ∧ OkA (D - 1) W xs := by
  obtain ⟨h1, h2, h3, h4, h5⟩ := h
  simp only [PyData.canLay0, PyData.intsShort, PyData.showable, PyData.depth, PyData.weight] at h1 h2 h3 h4 h5
  exact ⟨by omega, h1, h2, h3, by omega, h5⟩
theorem OkA.mem {D W : Nat} {xs : List PyData} (h : OkA D W xs) {x : PyData} (hx : x ∈ xs) : Ok D (W - 1) x :=
  ⟨layAll.mp h.lay x hx, intsAll.mp h.shr x hx, shoAll.mp h.sho x hx, depAll.mp h.dep x hx, by have := wt_mem hx; have := h.wt; omega⟩
theorem OkA.of {D w n : Nat} {xs : List PyData} (h : ∀ x ∈ xs, Ok D w x) (hn : xs.length ≤ n) : OkA D (n * (w + 1)) xs :=
  ⟨layAll.mpr fun x hx => (h x hx).lay, intsAll.mpr fun x hx => (h x hx).shr, shoAll.mpr fun x hx => (h x hx).sho, depAll.mpr fun x hx => (h x hx).dep, Nat.le_trans (wtAll fun x hx => (h x hx).wt) (Nat.mul_le_mul_right _ hn)⟩
theorem OkA.mono {D W D' W' : Nat} {xs : List PyData} (h : OkA D W xs) (h1 : D ≤ D') (h2 : W ≤ W') : OkA D' W' xs := ⟨h.lay, h.shr, h.sho, Nat.le_trans h.dep h1, Nat.le_trans h.wt h2⟩
theorem OkA.append {D W W' : Nat} {xs ys : List PyData} (h : OkA D W xs) (h' : OkA D W' ys) : OkA D (W + W') (xs ++ ys) :=
  ⟨layAll.mpr fun x hx => (List.mem_append.mp hx).elim (layAll.mp h.lay x) (layAll.mp h'.lay x), intsAll.mpr fun x hx => (List.mem_append.mp hx).elim (intsAll.mp h.shr x) (intsAll.mp h'.shr x),
    shoAll.mpr fun x hx => (List.mem_append.mp hx).elim (shoAll.mp h.sho x) (shoAll.mp h'.sho x), depAll.mpr fun x hx => (List.mem_append.mp hx).elim (depAll.mp h.dep x) (depAll.mp h'.dep x), by rw [wt_append]; have := h.wt; have := h'.wt; omega⟩
theorem wt_sub : ∀ {xs ys : List PyData}, xs.Sublist ys → PyData.weightAll xs ≤ PyData.weightAll ys
  | _, _, .slnil => Nat.le_refl _
  | _, _, .cons a h => by simp only [PyData.weightAll]; have := wt_sub h; omega
  | _, _, .cons₂ a h => by simp only [PyData.weightAll]; have := wt_sub h; omega
theorem OkA.sub {D W : Nat} {xs ys : List PyData} (h : OkA D W ys) (s : xs.Sublist ys) : OkA D W xs :=
  ⟨layAll.mpr fun x hx => layAll.mp h.lay x (s.subset hx), intsAll.mpr fun x hx => intsAll.mp h.shr x (s.subset hx), shoAll.mpr fun x hx => shoAll.mp h.sho x (s.subset hx), depAll.mpr fun x hx => depAll.mp h.dep x (s.subset hx), Nat.le_trans (wt_sub s) h.wt⟩
end Dv
namespace Dv
open PySem
theorem Ok.none : Ok 0 0 .none := ⟨rfl, rfl, rfl, Nat.le_refl _, Nat.le_refl _⟩
theorem Ok.bool {b : Bool} : Ok 0 0 (.bool b) := ⟨rfl, rfl, rfl, Nat.le_refl _, Nat.le_refl _⟩
theorem log_lt {n : Nat} (h : n < 2 ^ 204) : n.log2 < 204 := by
  by_cases h0 : n = 0
  · subst h0; decide
  · exact (Nat.log2_lt h0).mpr h
theorem Ok.int {i : Int} (h : i.natAbs < 10 ^ 61) : Ok 0 205 (.int i) := by
  have hl : i.natAbs.log2 < 204 := log_lt (Nat.lt_of_lt_of_le h (by decide))
  refine ⟨rfl, ?_, ?_, Nat.zero_le _, ?_⟩
  · simp only [PyData.intsShort, decide_eq_true_eq]
    have e := int_text_length_le10 (k := 61) (by decide) h
    show (Str.ofString (toString i)).length ≤ 62
    rw [ofString_length]; exact e
  · simp only [PyData.showable, decide_eq_true_eq]; omega
  · simp only [PyData.weight]
    split <;> omega
theorem Ok.str {x : Str} (h : PyData.strOk x = true) : Ok 0 x.cps.size (.str x) := ⟨by simpa [PyData.canLay0] using h, rfl, rfl, Nat.zero_le _, Nat.le_refl _⟩
theorem eqv_nil {xs : List PyData} : PyData.eqv (.list xs) (.list []) = xs.isEmpty := by
  cases xs <;> simp [PyData.eqv, PyData.eqvAll]
end Dv
end
section
namespace Dv
open PySem
section
variable {α β : Type} {cal : Nat → List PyData → CRes} {fuel i f : Nat} {env : Dv.Env} {a b c e : E} {as es : List E} {o o1 o2 : Op} {ts : List String} {d : PyData} {r : List E} {lo hi x : Option E}
@[simp] theorem bind_okS {a : α} {g : α → Dv.Env → Res β} : (Res.ok a env).bind g = g a env := rfl
@[simp] theorem sres_okS {a : α} {g : α → Dv.Env → SRes} : (Res.ok a env).sres g = g a env := rfl
@[simp] theorem seq_nxS {g : Dv.Env → SRes} : (SRes.nx env).seq g = g env := rfl
@[simp] theorem seq_retS {g : Dv.Env → SRes} : (SRes.ret d env).seq g = .ret d env := rfl
@[simp] theorem evE_kS : evE cal (.k d) env = .ok d env := by simp only [evE] <;> rfl
@[simp] theorem evE_vS : evE cal (.v i) env = match fetch env i with | some d => .ok d env | none => .bad := by simp only [evE] <;> rfl
@[simp] theorem evE_mvS : evE cal (.mv i) env = match fetch env i with | some d => .ok d (env.set i none) | none => .bad := by simp only [evE] <;> rfl
@[simp] theorem evE_opS : evE cal (.op o as) env = (evOs cal as env).bind fun ds env => match evOp o ds with | some d => .ok d env | none => .bad := by simp only [evE] <;> rfl
@[simp] theorem evE_tupS : evE cal (.tup es) env = (evEs cal es env).bind fun ds env => if ds.length ≤ sizeLine then .ok (.tuple ds) env else .bad := by simp only [evE] <;> rfl
@[simp] theorem evE_lstS : evE cal (.lst es) env = (evEs cal es env).bind fun ds env => if ds.length ≤ sizeLine then .ok (.list ds) env else .bad := by simp only [evE] <;> rfl
@[simp] theorem evE_andS : evE cal (.and a b) env = (evE cal a env).bind fun d env => match d with | .bool true => evE cal b env | .bool false => .ok (.bool false) env | _ => .bad := by simp only [evE] <;> rfl
@[simp] theorem evE_orS : evE cal (.or a b) env = (evE cal a env).bind fun d env => match d with | .bool true => .ok (.bool true) env | .bool false => evE cal b env | _ => .bad := by simp only [evE] <;> rfl
@[simp] theorem evE_notS : evE cal (.not a) env = (evE cal a env).bind fun d env => match d with | .bool x => .ok (.bool (!x)) env | _ => .bad := by simp only [evE] <;> rfl
@[simp] theorem evE_iteS : evE cal (.ite c a b) env = (evE cal c env).bind fun d env => match d with | .bool true => evE cal a env | .bool false => evE cal b env | _ => .bad := by simp only [evE] <;> rfl
@[simp] theorem evE_chS : evE cal (.ch o1 o2 a b c) env = (evE cal a env).bind fun x env => (evE cal b env).bind fun y env => match evOp o1 [x, y] with
    | some (.bool true) => (evE cal c env).bind fun z env => match evOp o2 [y, z] with | some d => .ok d env | none => .bad
    | some (.bool false) => .ok (.bool false) env
    | _ => .bad := by simp only [evE] <;> rfl
@[simp] theorem evE_callS : evE cal (.call f as) env = (evOs cal as env).bind fun ds env => match cal f ds with
    | .ok d outs => .ok d (wback as outs env)
    | .ex x outs => .ex x (wback as outs env)
    | .bad => .bad := by simp only [evE] <;> rfl
theorem evE_isaS (h : bOf a = none) : evE cal (.isa a ts) env = (evE cal a env).bind fun d env => match isaD ts d with | some b => .ok (.bool b) env | none => .bad := by
  cases a <;> first | (cases h; done) | (simp only [evE] <;> rfl)
@[simp] theorem evE_isabS : evE cal (.isa (.b i) ts) env = match fetch env i with
    | none => .bad
    | some d => match isaD ts d with | some b => .ok (.bool b) env | none => .bad := by simp only [evE] <;> rfl
theorem evE_slS (h : bOf a = none) : evE cal (.sl a lo hi) env = (evE cal a env).bind fun d env => (evOpt cal lo env).bind fun l env => (evOpt cal hi env).bind fun h env => match slD d l h with | some d => .ok d env | none => .bad := evE_sl (bOf_none h)
@[simp] theorem evE_slbS : evE cal (.sl (.b i) lo hi) env = match fetch env i with
    | none => .bad
    | some _ => (evOpt cal lo env).bind fun l env => (evOpt cal hi env).bind fun h env => match fetch env i with
      | none => .bad
      | some d => match slD d l h with | some d => .ok d env | none => .bad := by simp only [evE] <;> rfl
@[simp] theorem evOs_nilS : evOs cal [] env = .ok [] env := by simp only [evOs] <;> rfl
@[simp] theorem evOs_bS : evOs cal (.b i :: r) env = match fetch env i with
    | none => .bad
    | some _ => (evOs cal r env).bind fun ds env => match fetch env i with | some d => .ok (d :: ds) env | none => .bad := by simp only [evOs] <;> rfl
theorem evOs_eS (h : bOf e = none) : evOs cal (e :: r) env = (evE cal e env).bind fun d env => (evOs cal r env).bind fun ds env => .ok (d :: ds) env := evOs_ne (bOf_none h)
@[simp] theorem evOs_kS {d : PyData} : evOs cal (.k d :: r) env = (evE cal (.k d) env).bind fun d env => (evOs cal r env).bind fun ds env => .ok (d :: ds) env := evOs_ne (bOf_none rfl)
@[simp] theorem evE_isa_kS {d : PyData} {us : List String} : evE cal (.isa (.k d) us) env = (evE cal (.k d) env).bind fun d env => match isaD us d with | some b => .ok (.bool b) env | none => .bad := evE_isaS rfl
@[simp] theorem evE_sl_kS {d : PyData} {l1 l2 : Option E} : evE cal (.sl (.k d) l1 l2) env = (evE cal (.k d) env).bind fun d env => (evOpt cal l1 env).bind fun l env => (evOpt cal l2 env).bind fun h env => match slD d l h with | some d => .ok d env | none => .bad := evE_slS rfl
@[simp] theorem evOs_vS {i : Nat} : evOs cal (.v i :: r) env = (evE cal (.v i) env).bind fun d env => (evOs cal r env).bind fun ds env => .ok (d :: ds) env := evOs_ne (bOf_none rfl)
@[simp] theorem evE_isa_vS {i : Nat} {us : List String} : evE cal (.isa (.v i) us) env = (evE cal (.v i) env).bind fun d env => match isaD us d with | some b => .ok (.bool b) env | none => .bad := evE_isaS rfl
@[simp] theorem evE_sl_vS {i : Nat} {l1 l2 : Option E} : evE cal (.sl (.v i) l1 l2) env = (evE cal (.v i) env).bind fun d env => (evOpt cal l1 env).bind fun l env => (evOpt cal l2 env).bind fun h env => match slD d l h with | some d => .ok d env | none => .bad := evE_slS rfl
@[simp] theorem evOs_mvS {i : Nat} : evOs cal (.mv i :: r) env = (evE cal (.mv i) env).bind fun d env => (evOs cal r env).bind fun ds env => .ok (d :: ds) env := evOs_ne (bOf_none rfl)
@[simp] theorem evE_isa_mvS {i : Nat} {us : List String} : evE cal (.isa (.mv i) us) env = (evE cal (.mv i) env).bind fun d env => match isaD us d with | some b => .ok (.bool b) env | none => .bad := evE_isaS rfl
@[simp] theorem evE_sl_mvS {i : Nat} {l1 l2 : Option E} : evE cal (.sl (.mv i) l1 l2) env = (evE cal (.mv i) env).bind fun d env => (evOpt cal l1 env).bind fun l env => (evOpt cal l2 env).bind fun h env => match slD d l h with | some d => .ok d env | none => .bad := evE_slS rfl
@[simp] theorem evOs_opS {o : Op} {as : List E} : evOs cal (.op o as :: r) env = (evE cal (.op o as) env).bind fun d env => (evOs cal r env).bind fun ds env => .ok (d :: ds) env := evOs_ne (bOf_none rfl)
@[simp] theorem evE_isa_opS {o : Op} {as : List E} {us : List String} : evE cal (.isa (.op o as) us) env = (evE cal (.op o as) env).bind fun d env => match isaD us d with | some b => .ok (.bool b) env | none => .bad := evE_isaS rfl
@[simp] theorem evE_sl_opS {o : Op} {as : List E} {l1 l2 : Option E} : evE cal (.sl (.op o as) l1 l2) env = (evE cal (.op o as) env).bind fun d env => (evOpt cal l1 env).bind fun l env => (evOpt cal l2 env).bind fun h env => match slD d l h with | some d => .ok d env | none => .bad := evE_slS rfl
@[simp] theorem evOs_slS {a : E} {lo hi : Option E} : evOs cal (.sl a lo hi :: r) env = (evE cal (.sl a lo hi) env).bind fun d env => (evOs cal r env).bind fun ds env => .ok (d :: ds) env := evOs_ne (bOf_none rfl)
@[simp] theorem evE_isa_slS {a : E} {lo hi : Option E} {us : List String} : evE cal (.isa (.sl a lo hi) us) env = (evE cal (.sl a lo hi) env).bind fun d env => match isaD us d with | some b => .ok (.bool b) env | none => .bad := evE_isaS rfl
@[simp] theorem evE_sl_slS {a : E} {lo hi : Option E} {l1 l2 : Option E} : evE cal (.sl (.sl a lo hi) l1 l2) env = (evE cal (.sl a lo hi) env).bind fun d env => (evOpt cal l1 env).bind fun l env => (evOpt cal l2 env).bind fun h env => match slD d l h with | some d => .ok d env | none => .bad := evE_slS rfl
@[simp] theorem evOs_isaS {a : E} {ts : List String} : evOs cal (.isa a ts :: r) env = (evE cal (.isa a ts) env).bind fun d env => (evOs cal r env).bind fun ds env => .ok (d :: ds) env := evOs_ne (bOf_none rfl)
@[simp] theorem evE_isa_isaS {a : E} {ts : List String} {us : List String} : evE cal (.isa (.isa a ts) us) env = (evE cal (.isa a ts) env).bind fun d env => match isaD us d with | some b => .ok (.bool b) env | none => .bad := evE_isaS rfl
@[simp] theorem evE_sl_isaS {a : E} {ts : List String} {l1 l2 : Option E} : evE cal (.sl (.isa a ts) l1 l2) env = (evE cal (.isa a ts) env).bind fun d env => (evOpt cal l1 env).bind fun l env => (evOpt cal l2 env).bind fun h env => match slD d l h with | some d => .ok d env | none => .bad := evE_slS rfl
@[simp] theorem evOs_tupS {es : List E} : evOs cal (.tup es :: r) env = (evE cal (.tup es) env).bind fun d env => (evOs cal r env).bind fun ds env => .ok (d :: ds) env := evOs_ne (bOf_none rfl)
@[simp] theorem evE_isa_tupS {es : List E} {us : List String} : evE cal (.isa (.tup es) us) env = (evE cal (.tup es) env).bind fun d env => match isaD us d with | some b => .ok (.bool b) env | none => .bad := evE_isaS rfl
@[simp] theorem evE_sl_tupS {es : List E} {l1 l2 : Option E} : evE cal (.sl (.tup es) l1 l2) env = (evE cal (.tup es) env).bind fun d env => (evOpt cal l1 env).bind fun l env => (evOpt cal l2 env).bind fun h env => match slD d l h with | some d => .ok d env | none => .bad := evE_slS rfl
@[simp] theorem evOs_lstS {es : List E} : evOs cal (.lst es :: r) env = (evE cal (.lst es) env).bind fun d env => (evOs cal r env).bind fun ds env => .ok (d :: ds) env := evOs_ne (bOf_none rfl)
@[simp] theorem evE_isa_lstS {es : List E} {us : List String} : evE cal (.isa (.lst es) us) env = (evE cal (.lst es) env).bind fun d env => match isaD us d with | some b => .ok (.bool b) env | none => .bad := evE_isaS rfl
@[simp] theorem evE_sl_lstS {es : List E} {l1 l2 : Option E} : evE cal (.sl (.lst es) l1 l2) env = (evE cal (.lst es) env).bind fun d env => (evOpt cal l1 env).bind fun l env => (evOpt cal l2 env).bind fun h env => match slD d l h with | some d => .ok d env | none => .bad := evE_slS rfl
@[simp] theorem evOs_andS {a b : E} : evOs cal (.and a b :: r) env = (evE cal (.and a b) env).bind fun d env => (evOs cal r env).bind fun ds env => .ok (d :: ds) env := evOs_ne (bOf_none rfl)
@[simp] theorem evE_isa_andS {a b : E} {us : List String} : evE cal (.isa (.and a b) us) env = (evE cal (.and a b) env).bind fun d env => match isaD us d with | some b => .ok (.bool b) env | none => .bad := evE_isaS rfl
@[simp] theorem evE_sl_andS {a b : E} {l1 l2 : Option E} : evE cal (.sl (.and a b) l1 l2) env = (evE cal (.and a b) env).bind fun d env => (evOpt cal l1 env).bind fun l env => (evOpt cal l2 env).bind fun h env => match slD d l h with | some d => .ok d env | none => .bad := evE_slS rfl
@[simp] theorem evOs_orS {a b : E} : evOs cal (.or a b :: r) env = (evE cal (.or a b) env).bind fun d env => (evOs cal r env).bind fun ds env => .ok (d :: ds) env := evOs_ne (bOf_none rfl)
@[simp] theorem evE_isa_orS {a b : E} {us : List String} : evE cal (.isa (.or a b) us) env = (evE cal (.or a b) env).bind fun d env => match isaD us d with | some b => .ok (.bool b) env | none => .bad := evE_isaS rfl
@[simp] theorem evE_sl_orS {a b : E} {l1 l2 : Option E} : evE cal (.sl (.or a b) l1 l2) env = (evE cal (.or a b) env).bind fun d env => (evOpt cal l1 env).bind fun l env => (evOpt cal l2 env).bind fun h env => match slD d l h with | some d => .ok d env | none => .bad := evE_slS rfl
@[simp] theorem evOs_notS {a : E} : evOs cal (.not a :: r) env = (evE cal (.not a) env).bind fun d env => (evOs cal r env).bind fun ds env => .ok (d :: ds) env := evOs_ne (bOf_none rfl)
@[simp] theorem evE_isa_notS {a : E} {us : List String} : evE cal (.isa (.not a) us) env = (evE cal (.not a) env).bind fun d env => match isaD us d with | some b => .ok (.bool b) env | none => .bad := evE_isaS rfl
@[simp] theorem evE_sl_notS {a : E} {l1 l2 : Option E} : evE cal (.sl (.not a) l1 l2) env = (evE cal (.not a) env).bind fun d env => (evOpt cal l1 env).bind fun l env => (evOpt cal l2 env).bind fun h env => match slD d l h with | some d => .ok d env | none => .bad := evE_slS rfl
@[simp] theorem evOs_iteS {c a b : E} : evOs cal (.ite c a b :: r) env = (evE cal (.ite c a b) env).bind fun d env => (evOs cal r env).bind fun ds env => .ok (d :: ds) env := evOs_ne (bOf_none rfl)
@[simp] theorem evE_isa_iteS {c a b : E} {us : List String} : evE cal (.isa (.ite c a b) us) env = (evE cal (.ite c a b) env).bind fun d env => match isaD us d with | some b => .ok (.bool b) env | none => .bad := evE_isaS rfl
@[simp] theorem evE_sl_iteS {c a b : E} {l1 l2 : Option E} : evE cal (.sl (.ite c a b) l1 l2) env = (evE cal (.ite c a b) env).bind fun d env => (evOpt cal l1 env).bind fun l env => (evOpt cal l2 env).bind fun h env => match slD d l h with | some d => .ok d env | none => .bad := evE_slS rfl
@[simp] theorem evOs_chS {o1 o2 : Op} {a b c : E} : evOs cal (.ch o1 o2 a b c :: r) env = (evE cal (.ch o1 o2 a b c) env).bind fun d env => (evOs cal r env).bind fun ds env => .ok (d :: ds) env := evOs_ne (bOf_none rfl)
@[simp] theorem evE_isa_chS {o1 o2 : Op} {a b c : E} {us : List String} : evE cal (.isa (.ch o1 o2 a b c) us) env = (evE cal (.ch o1 o2 a b c) env).bind fun d env => match isaD us d with | some b => .ok (.bool b) env | none => .bad := evE_isaS rfl
@[simp] theorem evE_sl_chS {o1 o2 : Op} {a b c : E} {l1 l2 : Option E} : evE cal (.sl (.ch o1 o2 a b c) l1 l2) env = (evE cal (.ch o1 o2 a b c) env).bind fun d env => (evOpt cal l1 env).bind fun l env => (evOpt cal l2 env).bind fun h env => match slD d l h with | some d => .ok d env | none => .bad := evE_slS rfl
@[simp] theorem evOs_callS {f : Nat} {as : List E} : evOs cal (.call f as :: r) env = (evE cal (.call f as) env).bind fun d env => (evOs cal r env).bind fun ds env => .ok (d :: ds) env := evOs_ne (bOf_none rfl)
@[simp] theorem evE_isa_callS {f : Nat} {as : List E} {us : List String} : evE cal (.isa (.call f as) us) env = (evE cal (.call f as) env).bind fun d env => match isaD us d with | some b => .ok (.bool b) env | none => .bad := evE_isaS rfl
@[simp] theorem evE_sl_callS {f : Nat} {as : List E} {l1 l2 : Option E} : evE cal (.sl (.call f as) l1 l2) env = (evE cal (.call f as) env).bind fun d env => (evOpt cal l1 env).bind fun l env => (evOpt cal l2 env).bind fun h env => match slD d l h with | some d => .ok d env | none => .bad := evE_slS rfl
@[simp] theorem evOs_compS {tg : Tg} {it : Dv.It} {x : Option E} {e : E} : evOs cal (.comp tg it x e :: r) env = (evE cal (.comp tg it x e) env).bind fun d env => (evOs cal r env).bind fun ds env => .ok (d :: ds) env := evOs_ne (bOf_none rfl)
@[simp] theorem evE_isa_compS {tg : Tg} {it : Dv.It} {x : Option E} {e : E} {us : List String} : evE cal (.isa (.comp tg it x e) us) env = (evE cal (.comp tg it x e) env).bind fun d env => match isaD us d with | some b => .ok (.bool b) env | none => .bad := evE_isaS rfl
@[simp] theorem evE_sl_compS {tg : Tg} {it : Dv.It} {x : Option E} {e : E} {l1 l2 : Option E} : evE cal (.sl (.comp tg it x e) l1 l2) env = (evE cal (.comp tg it x e) env).bind fun d env => (evOpt cal l1 env).bind fun l env => (evOpt cal l2 env).bind fun h env => match slD d l h with | some d => .ok d env | none => .bad := evE_slS rfl
@[simp] theorem evOs_popS {i : Nat} {a : E} : evOs cal (.pop i a :: r) env = (evE cal (.pop i a) env).bind fun d env => (evOs cal r env).bind fun ds env => .ok (d :: ds) env := evOs_ne (bOf_none rfl)
@[simp] theorem evE_isa_popS {i : Nat} {a : E} {us : List String} : evE cal (.isa (.pop i a) us) env = (evE cal (.pop i a) env).bind fun d env => match isaD us d with | some b => .ok (.bool b) env | none => .bad := evE_isaS rfl
@[simp] theorem evE_sl_popS {i : Nat} {a : E} {l1 l2 : Option E} : evE cal (.sl (.pop i a) l1 l2) env = (evE cal (.pop i a) env).bind fun d env => (evOpt cal l1 env).bind fun l env => (evOpt cal l2 env).bind fun h env => match slD d l h with | some d => .ok d env | none => .bad := evE_slS rfl
@[simp] theorem evEs_nilS : evEs cal [] env = .ok [] env := by simp only [evEs] <;> rfl
@[simp] theorem evEs_consS : evEs cal (e :: r) env = (evE cal e env).bind fun d env => (evEs cal r env).bind fun ds env => .ok (d :: ds) env := by simp only [evEs] <;> rfl
@[simp] theorem evOpt_noneS : evOpt cal none env = .ok none env := by simp only [evOpt] <;> rfl
@[simp] theorem evOpt_someS : evOpt cal (some e) env = (evE cal e env).bind fun d env => .ok (some d) env := by simp only [evOpt] <;> rfl
@[simp] theorem evIf_noneS : evIf cal none env = .ok true env := by simp only [evIf] <;> rfl
@[simp] theorem evIf_someS : evIf cal (some e) env = (evE cal e env).bind fun d env => match d with | .bool b => .ok b env | _ => .bad := by simp only [evIf] <;> rfl
theorem evIt_rngS : evIt cal (.rng as) env = (evEs cal as env).bind fun ds env => match rngD ds with | some xs => .ok xs env | none => .bad := by simp only [evIt] <;> rfl
theorem evIt_rng_of {ds xs : List PyData} {env2 : Dv.Env} (h : evEs cal as env = .ok ds env2) (hr : rngD ds = some xs) : evIt cal (.rng as) env = .ok xs env2 := by rw [evIt_rngS, h, bind_okS, hr]
@[simp] theorem evSs_nilS : evSs cal fuel [] env = .nx env := by simp only [evSs] <;> rfl
@[simp] theorem evSs_consS {s : S} {r : List S} : evSs cal fuel (s :: r) env = (evS cal fuel s env).seq (evSs cal fuel r) := by simp only [evSs] <;> rfl
@[simp] theorem evS_setS : evS cal fuel (.set i e) env = (evE cal e env).sres fun d env => .nx (env.set i (some d)) := by simp only [evS] <;> rfl
@[simp] theorem evS_retS : evS cal fuel (.ret e) env = (evE cal e env).sres fun d env => .ret d env := by simp only [evS] <;> rfl
@[simp] theorem evS_exS : evS cal fuel (.ex e) env = (evE cal e env).sres fun _ env => .nx env := by simp only [evS] <;> rfl
@[simp] theorem evS_iteS {s t : List S} : evS cal fuel (.ite c s t) env = (evIf cal (some c) env).sres fun b env => if b then evSs cal fuel s env else evSs cal fuel t env := by simp only [evS] <;> rfl
@[simp] theorem evS_unpS {is : List Nat} : evS cal fuel (.unp is e) env = (evE cal e env).sres fun d env => match setTg (.tup is) d env with | some env => .nx env | none => .bad := by simp only [evS] <;> rfl
@[simp] theorem evS_parS {is : List Nat} : evS cal fuel (.par is es) env = (evEs cal es env).sres fun ds env => match is, ds with
    | [i, j], [a, b] => .nx ((env.set i (some a)).set j (some b))
    | _, _ => .bad := by simp only [evS] <;> rfl
end
end Dv
end
section
namespace Dv
open PySem
/-! ### rules that are put together by hand (big simp calls over a whole body may send the kernel into the deep: use these) -/
section
variable {cal : Nat → List PyData → CRes} {fuel i f : Nat} {env : Dv.Env} {a b c : E} {o o1 o2 : Op} {x y z d : PyData} {p q : Bool} {r : List S}
theorem v_ev (h : fetch env i = some d) : evE cal (.v i) env = .ok d env := by rw [evE_vS, h]
theorem k_ev : evE cal (.k d) env = .ok d env := evE_kS
theorem op1_ev (hb : bOf a = none) (h : evE cal a env = .ok x env) (ho : evOp o [x] = some d) : evE cal (.op o [a]) env = .ok d env := by
  rw [evE_opS, evOs_eS hb, h, bind_okS, evOs_nilS, bind_okS, bind_okS, ho]
theorem op2_ev (ha : bOf a = none) (hb : bOf b = none) (h1 : evE cal a env = .ok x env) (h2 : evE cal b env = .ok y env) (ho : evOp o [x, y] = some d) : evE cal (.op o [a, b]) env = .ok d env := by
  rw [evE_opS, evOs_eS ha, h1, bind_okS, evOs_eS hb, h2, bind_okS, evOs_nilS, bind_okS, bind_okS, bind_okS, ho]
theorem call1_ev (hb : bOf a = none) (h : evE cal a env = .ok x env) (hc : cal f [x] = .ok d [none]) : evE cal (.call f [a]) env = .ok d env := by
  rw [evE_callS, evOs_eS hb, h, bind_okS, evOs_nilS, bind_okS, bind_okS, hc]
  cases a <;> first | rfl | cases hb
theorem and_ev (h : evE cal a env = .ok (.bool p) env) (h2 : p = true → evE cal b env = .ok (.bool q) env) : evE cal (.and a b) env = .ok (.bool (p && q)) env := by
  rw [evE_andS, h, bind_okS]
  cases p with
  | true => exact h2 rfl
  | false => rfl
theorem or_ev (h : evE cal a env = .ok (.bool p) env) (h2 : p = false → evE cal b env = .ok (.bool q) env) : evE cal (.or a b) env = .ok (.bool (p || q)) env := by
  rw [evE_orS, h, bind_okS]
  cases p with
  | false => exact h2 rfl
  | true => rfl
theorem not_ev (h : evE cal a env = .ok (.bool p) env) : evE cal (.not a) env = .ok (.bool !p) env := by
  rw [evE_notS, h, bind_okS]
theorem ret_ev (h : evE cal a env = .ok d env) : evSs cal fuel (.ret a :: r) env = .ret d env := by
  rw [evSs_consS, evS_retS, h]
  rfl
/-- if c: return a, and go on -/
theorem ifret_ev (h : evE cal c env = .ok (.bool p) env) (h1 : p = true → evE cal a env = .ok d env) (h2 : p = false → evSs cal fuel r env = .ret d env) : evSs cal fuel (.ite c [.ret a] [] :: r) env = .ret d env := by
  rw [evSs_consS, evS_iteS, evIf_someS, h, bind_okS, sres_okS]
  cases p with
  | true =>
    show (evSs cal fuel [.ret a] env).seq _ = _
    rw [ret_ev (h1 rfl)]
    rfl
  | false =>
    show (evSs cal fuel [] env).seq _ = _
    rw [evSs_nilS, seq_nxS]
    exact h2 rfl
theorem ix_nat {xs : List PyData} {j : Nat} (h : xs[j]? = some d) : evOp .ix [.tuple xs, .int (j : Int)] = some d := by
  have hj := (List.getElem?_eq_some_iff.mp h).1
  show L2.atI xs (j : Int) = some d
  unfold L2.atI L2.ixN
  rw [if_pos (Int.natCast_nonneg j), if_pos (by omega)]
  exact h
def nth (xs : List PyData) (i : Nat) : PyData := (xs[i]?).getD .none
theorem nth_some {xs : List PyData} {i : Nat} (h : i < xs.length) : xs[i]? = some (nth xs i) := by
  unfold nth
  rw [List.getElem?_eq_getElem h]; rfl
theorem OkA.nth {D W : Nat} {xs : List PyData} (h : OkA D W xs) {i : Nat} (hi : i < xs.length) : Ok D (W - 1) (nth xs i) := h.mem (List.mem_of_getElem? (nth_some hi))
end
end Dv
end
section
namespace Dv
open PySem
section
variable {cal : Nat → List PyData → CRes} {fuel s f : Nat} {env : Dv.Env} {a b c e : E} {x y d : PyData} {xs : List PyData} {p : Bool} {r t : List S}
theorem ixb_ev {j : Nat} (he : fetch env s = some (.list xs)) (h : xs[j]? = some x) : evE cal (.op .ix [.b s, .k (.int (j : Int))]) env = .ok x env := by
  rw [evE_opS, evOs_bS, he]
  simp only
  rw [evOs_kS, evE_kS, bind_okS, evOs_nilS, bind_okS, bind_okS, he]
  simp only
  rw [bind_okS]
  have hj := (List.getElem?_eq_some_iff.mp h).1
  have : evOp .ix [.list xs, .int (j : Int)] = some x := by
    show L2.atI xs (j : Int) = some x
    unfold L2.atI L2.ixN
    rw [if_pos (Int.natCast_nonneg j), if_pos (by omega)]
    exact h
  rw [this]
theorem setix_ev {j : Nat} (hd : evE cal e env = .ok d env) (he : fetch env s = some (.list xs)) (h : j < xs.length) : evS cal fuel (.setix s (.k (.int (j : Int))) e) env = .nx (env.set s (some (.list (xs.set j d)))) := by
  simp only [evS]
  rw [hd, sres_okS, he]
  simp only
  rw [evE_kS, sres_okS, he]
  simp only
  have : L2.ixN xs.length (j : Int) = some j := by
    unfold L2.ixN
    rw [if_pos (Int.natCast_nonneg j), if_pos (by omega)]
    rfl
  rw [this]
theorem nx_ev {env2 : Dv.Env} {st : S} {q : SRes} (h : evS cal fuel st env = .nx env2) (h2 : evSs cal fuel r env2 = q) : evSs cal fuel (st :: r) env = q := by rw [evSs_consS, h, seq_nxS, h2]
theorem set_ev {i : Nat} (h : evE cal e env = .ok d env) : evS cal fuel (.set i e) env = .nx (env.set i (some d)) := by rw [evS_setS, h]; rfl
/-- if c: t (it returns), and go on -/
theorem ifgo_ev {q : SRes} (h : evE cal c env = .ok (.bool p) env) (h1 : p = true → (evSs cal fuel t env).seq (evSs cal fuel r) = q) (h2 : p = false → evSs cal fuel r env = q) : evSs cal fuel (.ite c t [] :: r) env = q := by
  rw [evSs_consS, evS_iteS, evIf_someS, h, bind_okS, sres_okS]
  cases p with
  | true => rw [if_pos rfl]; exact h1 rfl
  | false => rw [if_neg (by decide), evSs_nilS, seq_nxS]; exact h2 rfl
end
/-- a reader: at most m draws so far -/
def Rdr (m : Nat) (d : PyData) : Prop := ∃ (cells : List Int) (pos left cnt : Int), d = .list [.list (cells.map .int), .int pos, .int left, .int cnt] ∧ cells.length ≤ 63 ∧ 0 ≤ pos ∧ 0 ≤ left ∧ 0 ≤ cnt ∧ cnt ≤ (m : Int)
theorem Rdr.mono {m m' : Nat} {d : PyData} (h : Rdr m d) (hm : m ≤ m') : Rdr m' d := by
  obtain ⟨c, p, l, n, h1, h2, h3, h4, h5, h6⟩ := h
  exact ⟨c, p, l, n, h1, h2, h3, h4, h5, by omega⟩
theorem ints_shp (ns : List Int) : shp (.list (ns.map .int)) = true := by
  unfold shp SeqAt.shaped
  have h1 : PyData.canLay0 (.list (ns.map .int)) = true := by
    simp only [PyData.canLay0]
    exact layAll.mpr fun x hx => by obtain ⟨n, _, rfl⟩ := List.mem_map.mp hx; rfl
  have h2 : PyData.depth (.list (ns.map .int)) ≤ 64 := by
    simp only [PyData.depth]
    have := depAll (D := 0) (xs := ns.map .int) |>.mpr fun x hx => by obtain ⟨n, _, rfl⟩ := List.mem_map.mp hx; exact Nat.le_refl _
    omega
  rw [h1, Bool.true_and]
  exact decide_eq_true h2
end Dv
end
section
namespace Dv
open PySem
/-! ### what is wanted behind: rules to be used backwards -/
def WR {α : Type} (r : Res α) (Q : α → Dv.Env → Prop) : Prop := ∃ a e, r = .ok a e ∧ Q a e
def WC (r : CRes) (Q : PyData → Dv.Env → Prop) : Prop := ∃ d outs, r = .ok d outs ∧ Q d outs
structure Post where
  nx : Dv.Env → Prop
  rt : PyData → Dv.Env → Prop
  bk : Dv.Env → Prop
  ct : Dv.Env → Prop
def WS (r : SRes) (D : Post) : Prop := match r with
  | .nx e => D.nx e
  | .ret d e => D.rt d e
  | .bk e => D.bk e
  | .ct e => D.ct e
  | .ex _ _ => False
  | .bad => False
theorem WR.mono {α : Type} {r : Res α} {Q Q' : α → Dv.Env → Prop} (h : WR r Q) (i : ∀ a e, Q a e → Q' a e) : WR r Q' := by
  obtain ⟨a, e, h1, h2⟩ := h
  exact ⟨a, e, h1, i a e h2⟩
theorem WC.mono {r : CRes} {Q Q' : PyData → Dv.Env → Prop} (h : WC r Q) (i : ∀ a e, Q a e → Q' a e) : WC r Q' := by
  obtain ⟨a, e, h1, h2⟩ := h
  exact ⟨a, e, h1, i a e h2⟩
section
variable {cal : Nat → List PyData → CRes} {fuel i f : Nat} {env : Dv.Env} {a b c e : E} {as es : List E} {o o1 o2 : Op} {ts : List String} {d x : PyData} {lo hi : Option E} {Q : PyData → Dv.Env → Prop} {QL : List PyData → Dv.Env → Prop}
theorem w_k (h : Q d env) : WR (evE cal (.k d) env) Q := ⟨_, _, evE_kS, h⟩
theorem w_v (h0 : fetch env i = some d) (h : Q d env) : WR (evE cal (.v i) env) Q := ⟨d, env, by rw [evE_vS, h0], h⟩
theorem w_mv (h0 : fetch env i = some d) (h : Q d (env.set i none)) : WR (evE cal (.mv i) env) Q := ⟨d, env.set i none, by rw [evE_mvS, h0], h⟩
theorem wr_bind {α β : Type} {r : Res α} {g : α → Dv.Env → Res β} {Q : β → Dv.Env → Prop} (h : WR r fun a e => WR (g a e) Q) : WR (r.bind g) Q := by
  obtain ⟨a, e, h1, h2⟩ := h
  rw [h1]; exact h2
theorem wr_ok {α : Type} {a : α} {Q : α → Dv.Env → Prop} (h : Q a env) : WR (.ok a env) Q := ⟨a, env, rfl, h⟩
theorem w_op (h : WR (evOs cal as env) fun ds e => ∃ d, evOp o ds = some d ∧ Q d e) : WR (evE cal (.op o as) env) Q := by
  rw [evE_opS]
  refine wr_bind (h.mono fun ds e ⟨d, h1, h2⟩ => ?_)
  rw [h1]; exact wr_ok h2
theorem w_onil (h : QL [] env) : WR (evOs cal [] env) QL := by rw [evOs_nilS]; exact wr_ok h
theorem w_ob {r : List E} (h0 : fetch env i = some x) (h : WR (evOs cal r env) fun ds e => ∃ d, fetch e i = some d ∧ QL (d :: ds) e) : WR (evOs cal (.b i :: r) env) QL := by
  rw [evOs_bS, h0]
  refine wr_bind (h.mono fun ds e ⟨d, h1, h2⟩ => ?_)
  rw [h1]; exact wr_ok h2
theorem w_oe {r : List E} (hb : bOf e = none) (h : WR (evE cal e env) fun d e1 => WR (evOs cal r e1) fun ds e2 => QL (d :: ds) e2) : WR (evOs cal (e :: r) env) QL := by
  rw [evOs_eS hb]
  exact wr_bind (h.mono fun d e1 h1 => wr_bind (h1.mono fun ds e2 h2 => wr_ok h2))
theorem w_enil (h : QL [] env) : WR (evEs cal [] env) QL := by rw [evEs_nilS]; exact wr_ok h
theorem w_econs {r : List E} (h : WR (evE cal e env) fun d e1 => WR (evEs cal r e1) fun ds e2 => QL (d :: ds) e2) : WR (evEs cal (e :: r) env) QL := by
  rw [evEs_consS]
  exact wr_bind (h.mono fun d e1 h1 => wr_bind (h1.mono fun ds e2 h2 => wr_ok h2))
theorem w_tup (h : WR (evEs cal es env) fun ds e => ds.length ≤ sizeLine ∧ Q (.tuple ds) e) : WR (evE cal (.tup es) env) Q := by
  rw [evE_tupS]
  refine wr_bind (h.mono fun ds e ⟨h1, h2⟩ => ?_)
  rw [if_pos h1]; exact wr_ok h2
theorem w_lst (h : WR (evEs cal es env) fun ds e => ds.length ≤ sizeLine ∧ Q (.list ds) e) : WR (evE cal (.lst es) env) Q := by
  rw [evE_lstS]
  refine wr_bind (h.mono fun ds e ⟨h1, h2⟩ => ?_)
  rw [if_pos h1]; exact wr_ok h2
theorem w_and (h : WR (evE cal a env) fun d e => ∃ p, d = .bool p ∧ (p = true → WR (evE cal b e) Q) ∧ (p = false → Q (.bool false) e)) : WR (evE cal (.and a b) env) Q := by
  rw [evE_andS]
  refine wr_bind (h.mono fun d e ⟨p, h1, h2, h3⟩ => ?_)
  subst h1
  cases p with
  | true => exact h2 rfl
  | false => exact wr_ok (h3 rfl)
theorem w_or (h : WR (evE cal a env) fun d e => ∃ p, d = .bool p ∧ (p = true → Q (.bool true) e) ∧ (p = false → WR (evE cal b e) Q)) : WR (evE cal (.or a b) env) Q := by
  rw [evE_orS]
  refine wr_bind (h.mono fun d e ⟨p, h1, h2, h3⟩ => ?_)
  subst h1
  cases p with
  | true => exact wr_ok (h2 rfl)
  | false => exact h3 rfl
/-- both asked, neither changes anything -/
theorem w_andB (h : WR (evE cal a env) fun d e => ∃ p, d = .bool p ∧ WR (evE cal b e) fun d2 e2 => ∃ q, d2 = .bool q ∧ e2 = e ∧ Q (.bool (p && q)) e) : WR (evE cal (.and a b) env) Q := by
  refine w_and (h.mono fun d e ⟨p, h1, d2, e2, h2, q, h3, h4, h5⟩ => ⟨p, h1, fun hp => ?_, fun hp => ?_⟩)
  · subst hp h3 h4
    exact ⟨_, _, h2, h5⟩
  · subst hp; exact h5
theorem w_orB (h : WR (evE cal a env) fun d e => ∃ p, d = .bool p ∧ WR (evE cal b e) fun d2 e2 => ∃ q, d2 = .bool q ∧ e2 = e ∧ Q (.bool (p || q)) e) : WR (evE cal (.or a b) env) Q := by
  refine w_or (h.mono fun d e ⟨p, h1, d2, e2, h2, q, h3, h4, h5⟩ => ⟨p, h1, fun hp => ?_, fun hp => ?_⟩)
  · subst hp; exact h5
  · subst hp h3 h4
    exact ⟨_, _, h2, h5⟩
theorem w_not (h : WR (evE cal a env) fun d e => ∃ p, d = .bool p ∧ Q (.bool !p) e) : WR (evE cal (.not a) env) Q := by
  rw [evE_notS]
  refine wr_bind (h.mono fun d e ⟨p, h1, h2⟩ => ?_)
  subst h1
  exact wr_ok h2
theorem w_ite (h : WR (evE cal c env) fun d e => ∃ p, d = .bool p ∧ (p = true → WR (evE cal a e) Q) ∧ (p = false → WR (evE cal b e) Q)) : WR (evE cal (.ite c a b) env) Q := by
  rw [evE_iteS]
  refine wr_bind (h.mono fun d e ⟨p, h1, h2, h3⟩ => ?_)
  subst h1
  cases p with
  | true => exact h2 rfl
  | false => exact h3 rfl
theorem w_ch (h : WR (evE cal a env) fun x e => WR (evE cal b e) fun y e => ∃ p, evOp o1 [x, y] = some (.bool p) ∧ (p = true → WR (evE cal c e) fun z e => ∃ d, evOp o2 [y, z] = some d ∧ Q d e) ∧ (p = false → Q (.bool false) e)) : WR (evE cal (.ch o1 o2 a b c) env) Q := by
  rw [evE_chS]
  refine wr_bind (h.mono fun x e h => wr_bind (h.mono fun y e ⟨p, h1, h2, h3⟩ => ?_))
  rw [h1]
  cases p with
  | true =>
    refine wr_bind ((h2 rfl).mono fun z e ⟨d, h4, h5⟩ => ?_)
    simp only [h4]
    exact wr_ok h5
  | false => exact wr_ok (h3 rfl)
theorem w_call (h : WR (evOs cal as env) fun ds e => WC (cal f ds) fun d outs => Q d (wback as outs e)) : WR (evE cal (.call f as) env) Q := by
  rw [evE_callS]
  refine wr_bind (h.mono fun ds e ⟨d, outs, h1, h2⟩ => ?_)
  rw [h1]; exact wr_ok h2
theorem w_kcall {ns : List Str} {pm : List Nat} (h : WR (evEs cal as env) fun ds e => WC (cal f (permD pm ds)) fun d outs => Q d e) : WR (evE cal (.kcall f ns pm as) env) Q := by
  simp only [evE]
  refine wr_bind (h.mono fun ds e ⟨d, outs, h1, h2⟩ => ?_)
  rw [h1]; exact wr_ok h2
theorem w_isa (hb : bOf a = none) (h : WR (evE cal a env) fun d e => ∃ p, isaD ts d = some p ∧ Q (.bool p) e) : WR (evE cal (.isa a ts) env) Q := by
  rw [evE_isaS hb]
  refine wr_bind (h.mono fun d e ⟨p, h1, h2⟩ => ?_)
  rw [h1]; exact wr_ok h2
theorem w_isab (h0 : fetch env i = some d) (h : ∃ p, isaD ts d = some p ∧ Q (.bool p) env) : WR (evE cal (.isa (.b i) ts) env) Q := by
  obtain ⟨p, h1, h2⟩ := h
  rw [evE_isabS, h0]
  simp only [h1]
  exact wr_ok h2
theorem w_optN {Q : Option PyData → Dv.Env → Prop} (h : Q none env) : WR (evOpt cal none env) Q := by rw [evOpt_noneS]; exact wr_ok h
theorem w_optS {Q : Option PyData → Dv.Env → Prop} (h : WR (evE cal a env) fun d e => Q (some d) e) : WR (evOpt cal (some a) env) Q := by
  rw [evOpt_someS]; exact wr_bind (h.mono fun d e h => wr_ok h)
theorem w_sl (hb : bOf a = none) (h : WR (evE cal a env) fun d e => WR (evOpt cal lo e) fun l e => WR (evOpt cal hi e) fun h e => ∃ d', slD d l h = some d' ∧ Q d' e) : WR (evE cal (.sl a lo hi) env) Q := by
  rw [evE_slS hb]
  refine wr_bind (h.mono fun d e h => wr_bind (h.mono fun l e h => wr_bind (h.mono fun u e ⟨d', h1, h2⟩ => ?_)))
  rw [h1]; exact wr_ok h2
theorem w_slb (h0 : fetch env i = some d) (h : WR (evOpt cal lo env) fun l e => WR (evOpt cal hi e) fun h e => ∃ d d', fetch e i = some d ∧ slD d l h = some d' ∧ Q d' e) : WR (evE cal (.sl (.b i) lo hi) env) Q := by
  rw [evE_slbS, h0]
  refine wr_bind (h.mono fun l e h => wr_bind (h.mono fun u e ⟨d, d', h1, h2, h3⟩ => ?_))
  rw [h1]
  simp only [h2]
  exact wr_ok h3
theorem w_pop (h0 : fetch env i = some x) (h : WR (evE cal a env) fun k e => ∃ xs j n y, fetch e i = some (.list xs) ∧ k = .int j ∧ xs.length < 2 ^ 60 ∧ L2.ixN xs.length j = some n ∧ xs[n]? = some y ∧ Q y (e.set i (some (.list (xs.eraseIdx n))))) : WR (evE cal (.pop i a) env) Q := by
  simp only [evE]
  rw [h0]
  refine wr_bind (h.mono fun k e ⟨xs, j, n, y, h1, h2, h3, h4, h5, h6⟩ => ?_)
  subst h2
  rw [h1]
  simp only
  have hj : -(2 ^ 62) ≤ j ∧ j < 2 ^ 62 := by
    unfold L2.ixN at h4
    split at h4
    · split at h4
      · omega
      · cases h4
    · split at h4
      · omega
      · cases h4
  rw [if_pos hj, h4]
  simp only [h5]
  exact wr_ok h6
theorem w_dget (h0 : fetch env i = some x) (h : WR (evE cal a env) fun k e => ∃ ds z d, fetch e i = some (.dict ds) ∧ k = .str z ∧ dLook ds z = some d ∧ Q d e) : WR (evE cal (.dget i a) env) Q := by
  simp only [evE]
  rw [h0]
  refine wr_bind (h.mono fun k e ⟨ds, z, d, h1, h2, h3, h4⟩ => ?_)
  subst h2
  rw [h1]
  simp only [h3]
  exact wr_ok h4
theorem w_dct (h : WR (evE cal a env) fun d e => ∃ xs ps, d = .list xs ∧ pairsD xs = some ps ∧ Q (.dict (dMk ps)) e) : WR (evE cal (.dct a) env) Q := by
  simp only [evE]
  refine wr_bind (h.mono fun d e ⟨xs, ps, h1, h2, h3⟩ => ?_)
  subst h1
  simp only [h2]
  exact wr_ok h3
theorem w_dcm {tg : Tg} {it : Dv.It} {ifs : Option E} {k v : E} (I : Nat → List PyData → Dv.Env → Prop)
    (h : WR (evIt cal it env) fun xs e1 => xs.length < sizeLine ∧ I 0 [] e1 ∧
      (∀ j x, xs[j]? = some x → ∀ ys e, I j ys e → ∃ e0, setTg tg x (wipeE (tgSlots tg) e) = some e0 ∧ WR (evIf cal ifs e0) fun b e2 => (b = true → WR (evE cal k e2) fun kd e3 => WR (evE cal v e3) fun vd e4 => I (j + 1) (ys ++ [.tuple [kd, vd]]) e4) ∧ (b = false → I (j + 1) ys e2)) ∧
      ∀ ys e, I xs.length ys e → ∃ ps, pairsD ys = some ps ∧ Q (.dict (dMk ps)) (backE (tgSlots tg) e1 e)) : WR (evE cal (.dcm tg it ifs k v) env) Q := by
  simp only [evE]
  refine wr_bind (h.mono fun xs e1 ⟨hl, h0, step, fin⟩ => wr_bind ?_)
  have key : ∀ (n j : Nat) (ys : List PyData) (e : Dv.Env), n = xs.length - j → j ≤ xs.length → I j ys e → ∃ zs e', compL (fun x e => match setTg tg x (wipeE (tgSlots tg) e) with
      | none => .bad
      | some e => (evIf cal ifs e).bind fun b e => if b then (evE cal k e).bind fun kd e => (evE cal v e).bind fun vd e => .ok (some (.tuple [kd, vd])) e else .ok none e) (xs.drop j) e = .ok zs e' ∧ I xs.length (ys ++ zs) e' := by
    intro n
    induction n with
    | zero =>
      intro j ys e hn hj hI
      have : j = xs.length := by omega
      subst this
      exact ⟨[], e, by rw [List.drop_length]; rfl, by rw [List.append_nil]; exact hI⟩
    | succ n ih =>
      intro j ys e hn hj hI
      have hlt : j < xs.length := by omega
      rw [List.drop_eq_getElem_cons hlt]
      obtain ⟨e0, s1, b, e2, s2, s3, s4⟩ := step j xs[j] (List.getElem?_eq_getElem hlt) ys e hI
      rw [compL_cons]
      simp only [s1, s2, bind_okS]
      cases b with
      | false =>
        obtain ⟨zs, e', q1, q2⟩ := ih (j + 1) ys e2 (by omega) hlt (s4 rfl)
        refine ⟨zs, e', ?_, q2⟩
        simp only [Bool.false_eq_true, if_false, bind_okS]
        rw [q1]; rfl
      | true =>
        obtain ⟨kd, e3, s5, vd, e4, s6, s7⟩ := s3 rfl
        obtain ⟨zs, e', q1, q2⟩ := ih (j + 1) (ys ++ [.tuple [kd, vd]]) e4 (by omega) hlt s7
        refine ⟨.tuple [kd, vd] :: zs, e', ?_, by simpa using q2⟩
        simp only [if_true, s5, s6, bind_okS]
        rw [q1]; rfl
  obtain ⟨zs, e', q1, q2⟩ := key xs.length 0 [] e1 (by simp) (Nat.zero_le _) h0
  rw [List.drop_zero] at q1
  refine ⟨zs, e', q1, ?_⟩
  show WR (if xs.length < sizeLine then _ else _) Q
  rw [if_pos hl]
  obtain ⟨ps, h1, h2⟩ := fin zs e' (by simpa using q2)
  rw [h1]
  exact wr_ok h2
theorem w_pd (h : WR (evE cal a env) fun x e => WR (evE cal b e) fun y e => ∃ ds, y = .dict ds ∧ Q (.dict [(x, .dict ds)]) e) : WR (evE cal (.pd a b) env) Q := by
  simp only [evE]
  refine wr_bind (h.mono fun x e h => wr_bind (h.mono fun y e ⟨ds, h1, h2⟩ => ?_))
  subst h1
  exact wr_ok h2
theorem w_rng (h : WR (evEs cal as env) fun ds e => ∃ xs, rngD ds = some xs ∧ QL xs e) : WR (evIt cal (.rng as) env) QL := by
  rw [evIt_rngS]
  refine wr_bind (h.mono fun ds e ⟨xs, h1, h2⟩ => ?_)
  rw [h1]; exact wr_ok h2
theorem w_enm (h : WR (evEs cal as env) fun ds e => ∃ xs, enmD ds = some xs ∧ QL xs e) : WR (evIt cal (.enm as) env) QL := by
  have e0 : evIt cal (.enm as) env = (evEs cal as env).bind fun ds env => match enmD ds with | some xs => .ok xs env | none => .bad := by simp only [evIt] <;> rfl
  rw [e0]
  obtain ⟨ds, e, h1, xs, h2, h3⟩ := h
  exact ⟨xs, e, by rw [h1]; show (match enmD ds with | some xs => Res.ok xs e | none => .bad) = _; rw [h2], h3⟩
theorem w_zip (h : WR (evEs cal as env) fun ds e => ∃ xs, zipD ds = some xs ∧ QL xs e) : WR (evIt cal (.zip as) env) QL := by
  have e0 : evIt cal (.zip as) env = (evEs cal as env).bind fun ds env => match zipD ds with | some xs => .ok xs env | none => .bad := by simp only [evIt] <;> rfl
  rw [e0]
  obtain ⟨ds, e, h1, xs, h2, h3⟩ := h
  exact ⟨xs, e, by rw [h1]; show (match zipD ds with | some xs => Res.ok xs e | none => .bad) = _; rw [h2], h3⟩
theorem w_seq (hb : bOf e = none) (h : WR (evE cal e env) fun d e => ∃ xs, itemsD d = some xs ∧ QL xs e) : WR (evIt cal (.seq e) env) QL := by
  rw [evIt_seq (bOf_none hb)]
  refine wr_bind (h.mono fun d e ⟨xs, h1, h2⟩ => ?_)
  rw [h1]; exact wr_ok h2
theorem w_seqb {xs : List PyData} (h0 : fetch env i = some d) (h1 : itemsD d = some xs) (h : QL xs env) : WR (evIt cal (.seq (.b i)) env) QL := by
  refine ⟨xs, env, ?_, h⟩
  simp only [evIt]
  rw [h0]
  simp only [h1]
theorem w_ifN {Q : Bool → Dv.Env → Prop} (h : Q true env) : WR (evIf cal none env) Q := by rw [evIf_noneS]; exact wr_ok h
theorem w_ifS {Q : Bool → Dv.Env → Prop} (h : WR (evE cal a env) fun d e => ∃ p, d = .bool p ∧ Q p e) : WR (evIf cal (some a) env) Q := by
  rw [evIf_someS]
  refine wr_bind (h.mono fun d e ⟨p, h1, h2⟩ => ?_)
  subst h1; exact wr_ok h2
theorem w_comp {tg : Tg} {it : Dv.It} {ifs : Option E} {elt : E} (I : Nat → List PyData → Dv.Env → Prop)
    (h : WR (evIt cal it env) fun xs e1 => xs.length < sizeLine ∧ I 0 [] e1 ∧
      (∀ j x, xs[j]? = some x → ∀ ys e, I j ys e → ∃ e0, setTg tg x (wipeE (tgSlots tg) e) = some e0 ∧ WR (evIf cal ifs e0) fun b e2 => (b = true → WR (evE cal elt e2) fun y e3 => I (j + 1) (ys ++ [y]) e3) ∧ (b = false → I (j + 1) ys e2)) ∧
      ∀ ys e, I xs.length ys e → Q (.list ys) (backE (tgSlots tg) e1 e)) : WR (evE cal (.comp tg it ifs elt) env) Q := by
  simp only [evE]
  refine wr_bind (h.mono fun xs e1 ⟨hl, h0, step, fin⟩ => wr_bind ?_)
  have key : ∀ (n j : Nat) (ys : List PyData) (e : Dv.Env), n = xs.length - j → j ≤ xs.length → I j ys e → ∃ zs e', compL (fun x e => match setTg tg x (wipeE (tgSlots tg) e) with
      | none => .bad
      | some e => (evIf cal ifs e).bind fun b e => if b then (evE cal elt e).bind fun y e => .ok (some y) e else .ok none e) (xs.drop j) e = .ok zs e' ∧ I xs.length (ys ++ zs) e' := by
    intro n
    induction n with
    | zero =>
      intro j ys e hn hj hI
      have : j = xs.length := by omega
      subst this
      exact ⟨[], e, by rw [List.drop_length]; rfl, by rw [List.append_nil]; exact hI⟩
    | succ n ih =>
      intro j ys e hn hj hI
      have hlt : j < xs.length := by omega
      rw [List.drop_eq_getElem_cons hlt]
      obtain ⟨e0, s1, b, e2, s2, s3, s4⟩ := step j xs[j] (List.getElem?_eq_getElem hlt) ys e hI
      rw [compL_cons]
      simp only [s1, s2, bind_okS]
      cases b with
      | false =>
        obtain ⟨zs, e', q1, q2⟩ := ih (j + 1) ys e2 (by omega) hlt (s4 rfl)
        refine ⟨zs, e', ?_, q2⟩
        simp only [Bool.false_eq_true, if_false, bind_okS]
        rw [q1]; rfl
      | true =>
        obtain ⟨y, e3, s5, s6⟩ := s3 rfl
        obtain ⟨zs, e', q1, q2⟩ := ih (j + 1) (ys ++ [y]) e3 (by omega) hlt s6
        refine ⟨y :: zs, e', ?_, by simpa using q2⟩
        simp only [if_true, s5, bind_okS]
        rw [q1]; rfl
  obtain ⟨zs, e', q1, q2⟩ := key xs.length 0 [] e1 (by simp) (Nat.zero_le _) h0
  rw [List.drop_zero] at q1
  refine ⟨zs, e', q1, ?_⟩
  show WR (if xs.length < sizeLine then _ else _) Q
  rw [if_pos hl]
  exact wr_ok (fin zs e' (by simpa using q2))
end
section
variable {cal : Nat → List PyData → CRes} {fuel i f : Nat} {env : Dv.Env} {a b c e k : E} {as es : List E} {d x : PyData} {r : List S} {D : Post}
theorem s_nil (h : D.nx env) : WS (evSs cal fuel [] env) D := by rw [evSs_nilS]; exact h
theorem ws_sres {α : Type} {q : Res α} {g : α → Dv.Env → SRes} {r : Dv.Env → SRes} (h : WR q fun a e => WS ((g a e).seq r) D) : WS ((q.sres g).seq r) D := by
  obtain ⟨a, e, h1, h2⟩ := h
  rw [h1]; exact h2
theorem ws_nx {g : Dv.Env → SRes} (h : WS (g env) D) : WS ((SRes.nx env).seq g) D := h
theorem s_set (h : WR (evE cal e env) fun d e1 => WS (evSs cal fuel r (e1.set i (some d))) D) : WS (evSs cal fuel (.set i e :: r) env) D := by
  rw [evSs_consS, evS_setS]
  exact ws_sres h
theorem s_ex (h : WR (evE cal e env) fun d e1 => WS (evSs cal fuel r e1) D) : WS (evSs cal fuel (.ex e :: r) env) D := by
  rw [evSs_consS, evS_exS]
  exact ws_sres h
theorem s_ret (h : WR (evE cal e env) fun d e1 => D.rt d e1) : WS (evSs cal fuel (.ret e :: r) env) D := by
  rw [evSs_consS, evS_retS]
  exact ws_sres h
theorem s_retN (h : D.rt .none env) : WS (evSs cal fuel (.retN :: r) env) D := by
  rw [evSs_consS]; simp only [evS]; exact h
theorem s_pass (h : WS (evSs cal fuel r env) D) : WS (evSs cal fuel (.pass :: r) env) D := by
  rw [evSs_consS]; simp only [evS]; exact h
theorem s_brk (h : D.bk env) : WS (evSs cal fuel (.brk :: r) env) D := by
  rw [evSs_consS]; simp only [evS]; exact h
theorem s_cont (h : D.ct env) : WS (evSs cal fuel (.cont :: r) env) D := by
  rw [evSs_consS]; simp only [evS]; exact h
theorem s_unp {is : List Nat} (h : WR (evE cal e env) fun d e1 => ∃ e2, setTg (.tup is) d e1 = some e2 ∧ WS (evSs cal fuel r e2) D) : WS (evSs cal fuel (.unp is e :: r) env) D := by
  rw [evSs_consS, evS_unpS]
  refine ws_sres (h.mono fun d e1 ⟨e2, h1, h2⟩ => ?_)
  rw [h1]; exact h2
theorem s_setk (h : WR (evE cal e env) fun d e1 => ∃ x, fetch e1 i = some x ∧ WR (evE cal k e1) fun kd e2 => ∃ ds z, fetch e2 i = some (.dict ds) ∧ kd = .str z ∧ ds.length < sizeLine ∧ WS (evSs cal fuel r (e2.set i (some (.dict (dPut ds z d))))) D) : WS (evSs cal fuel (.setk i k e :: r) env) D := by
  rw [evSs_consS]
  simp only [evS]
  refine ws_sres (h.mono fun d e1 ⟨x, h1, h⟩ => ?_)
  rw [h1]
  refine ws_sres (h.mono fun kd e2 ⟨ds, z, h2, h3, h4, h5⟩ => ?_)
  subst h3
  rw [h2]
  simp only [if_pos h4]
  exact h5
theorem s_unp2 {j : Nat} (h : WR (evE cal e env) fun d e1 => ∃ x ds, d = .dict [(x, .dict ds)] ∧ WS (evSs cal fuel r ((e1.set i (some x)).set j (some (.dict ds)))) D) : WS (evSs cal fuel (.unp2 i j e :: r) env) D := by
  rw [evSs_consS]
  simp only [evS]
  refine ws_sres (h.mono fun d e1 ⟨x, ds, h1, h2⟩ => ?_)
  subst h1
  exact h2
theorem s_par3 {j l : Nat} {c : E} (h : WR (evE cal a env) fun x e1 => WR (evE cal b e1) fun y e2 => WR (evE cal c e2) fun z e3 => WS (evSs cal fuel r (((e3.set i (some x)).set j (some y)).set l (some z))) D) : WS (evSs cal fuel (.par3 i j l a b c :: r) env) D := by
  rw [evSs_consS]
  simp only [evS]
  refine ws_sres ?_
  exact w_econs (h.mono fun x e1 h => w_econs (h.mono fun y e2 h => w_econs (h.mono fun z e3 h => w_enil h)))
theorem s_par {i j : Nat} (h : WR (evE cal a env) fun x e1 => WR (evE cal b e1) fun y e2 => WS (evSs cal fuel r ((e2.set i (some x)).set j (some y))) D) : WS (evSs cal fuel (.par [i, j] [a, b] :: r) env) D := by
  rw [evSs_consS, evS_parS]
  refine ws_sres ?_
  exact w_econs (h.mono fun x e1 h => w_econs (h.mono fun y e2 h => w_enil h))
theorem s_setix (h : WR (evE cal e env) fun d e1 => ∃ x, fetch e1 i = some x ∧ WR (evE cal k e1) fun kd e2 => ∃ xs j n, fetch e2 i = some (.list xs) ∧ kd = .int j ∧ L2.ixN xs.length j = some n ∧ WS (evSs cal fuel r (e2.set i (some (.list (xs.set n d))))) D) : WS (evSs cal fuel (.setix i k e :: r) env) D := by
  rw [evSs_consS]
  simp only [evS]
  refine ws_sres (h.mono fun d e1 ⟨x, h1, h⟩ => ?_)
  rw [h1]
  refine ws_sres (h.mono fun kd e2 ⟨xs, j, n, h2, h3, h4, h5⟩ => ?_)
  subst h3
  rw [h2]
  simp only [h4]
  exact h5
theorem s_app (h0 : fetch env i = some x) (h : WR (evE cal e env) fun d e1 => ∃ xs, fetch e1 i = some (.list xs) ∧ xs.length < sizeLine ∧ WS (evSs cal fuel r (e1.set i (some (.list (xs ++ [d]))))) D) : WS (evSs cal fuel (.app i e :: r) env) D := by
  rw [evSs_consS]
  simp only [evS]
  rw [h0]
  refine ws_sres (h.mono fun d e1 ⟨xs, h1, h2, h3⟩ => ?_)
  rw [h1]
  simp only [h2, if_true]
  exact h3
theorem s_ins (h0 : fetch env i = some x) (h : WR (evE cal k env) fun kd e1 => WR (evE cal e e1) fun d e2 => ∃ xs j, fetch e2 i = some (.list xs) ∧ kd = .int j ∧ xs.length < sizeLine ∧ 0 ≤ j ∧ j < 2 ^ 62 ∧ WS (evSs cal fuel r (e2.set i (some (.list (xs.take j.toNat ++ [d] ++ xs.drop j.toNat))))) D) : WS (evSs cal fuel (.ins i k e :: r) env) D := by
  rw [evSs_consS]
  simp only [evS]
  rw [h0]
  refine ws_sres (h.mono fun kd e1 h => ?_)
  refine ws_sres (h.mono fun d e2 ⟨xs, j, h1, h2, h3, h4, h5, h6⟩ => ?_)
  subst h2
  rw [h1]
  simp only
  rw [if_pos ⟨h3, h4, h5⟩]
  exact h6
theorem seq_assoc (q : SRes) (f g : Dv.Env → SRes) : (q.seq f).seq g = q.seq fun e => (f e).seq g := by cases q <;> rfl
theorem evSs_append {s t : List S} : evSs cal fuel (s ++ t) env = (evSs cal fuel s env).seq (evSs cal fuel t) := by
  induction s generalizing env with
  | nil => rw [List.nil_append, evSs_nilS]; rfl
  | cons x s ih =>
    rw [List.cons_append, evSs_consS, evSs_consS, seq_assoc]
    congr 1
    funext e
    exact ih
theorem s_ite {s t : List S} (h : WR (evE cal c env) fun d e => ∃ p, d = .bool p ∧ (p = true → WS (evSs cal fuel (s ++ r) e) D) ∧ (p = false → WS (evSs cal fuel (t ++ r) e) D)) : WS (evSs cal fuel (.ite c s t :: r) env) D := by
  rw [evSs_consS, evS_iteS]
  refine ws_sres (w_ifS (h.mono fun d e ⟨p, h1, h2, h3⟩ => ⟨p, h1, ?_⟩))
  cases p with
  | true => rw [if_pos rfl, ← evSs_append]; exact h2 rfl
  | false => rw [if_neg (by decide), ← evSs_append]; exact h3 rfl
/-- an if whose ways join: what holds behind it is said -/
theorem s_iteC {s t : List S} (J : Dv.Env → Prop) (h : WR (evE cal c env) fun d e => ∃ p, d = .bool p ∧ (p = true → WS (evSs cal fuel s e) ⟨J, D.rt, D.bk, D.ct⟩) ∧ (p = false → WS (evSs cal fuel t e) ⟨J, D.rt, D.bk, D.ct⟩)) (h2 : ∀ e, J e → WS (evSs cal fuel r e) D) : WS (evSs cal fuel (.ite c s t :: r) env) D := by
  have key : ∀ {u : List S} {e : Dv.Env}, WS (evSs cal fuel u e) ⟨J, D.rt, D.bk, D.ct⟩ → WS (evSs cal fuel (u ++ r) e) D := fun {u e} h => by
    rw [evSs_append]
    cases q : evSs cal fuel u e with
    | nx e' => rw [q] at h; exact h2 e' h
    | ret d e' => rw [q] at h; exact h
    | bk e' => rw [q] at h; exact h
    | ct e' => rw [q] at h; exact h
    | ex _ _ => rw [q] at h; exact h.elim
    | bad => rw [q] at h; exact h.elim
  exact s_ite (h.mono fun d e ⟨p, h1, h2, h3⟩ => ⟨p, h1, fun q => key (h2 q), fun q => key (h3 q)⟩)
theorem s_for {tg : Tg} {it : Dv.It} {body : List S} (I : Nat → Dv.Env → Prop)
    (h : WR (evIt cal it env) fun xs e1 => I 0 e1 ∧ (∀ j x, xs[j]? = some x → ∀ e, I j e → ∃ e2, setTg tg x e = some e2 ∧ WS (evSs cal fuel body e2) ⟨I (j + 1), D.rt, fun e => WS (evSs cal fuel r e) D, I (j + 1)⟩) ∧ ∀ e, I xs.length e → WS (evSs cal fuel r e) D) : WS (evSs cal fuel (.for tg it body :: r) env) D := by
  rw [evSs_consS]
  simp only [evS]
  refine ws_sres (h.mono fun xs e1 ⟨h0, step, fin⟩ => ?_)
  have key : ∀ (n j : Nat) (e : Dv.Env), n = xs.length - j → j ≤ xs.length → I j e → WS ((forL (fun x e => match setTg tg x e with
    | none => .bad
    | some e => evSs cal fuel body e) (xs.drop j) e).seq (evSs cal fuel r)) D := by
    intro n
    induction n with
    | zero =>
      intro j e hn hj hI
      have : j = xs.length := by omega
      subst this
      rw [List.drop_length]
      exact fin e hI
    | succ n ih =>
      intro j e hn hj hI
      have hlt : j < xs.length := by omega
      rw [List.drop_eq_getElem_cons hlt]
      obtain ⟨e2, h1, h2⟩ := step j xs[j] (List.getElem?_eq_getElem hlt) e hI
      simp only [forL, h1]
      cases q : evSs cal fuel body e2 with
      | nx e' => rw [q] at h2; exact ih (j + 1) e' (by omega) hlt h2
      | ct e' => rw [q] at h2; exact ih (j + 1) e' (by omega) hlt h2
      | bk e' => rw [q] at h2; exact h2
      | ret d e' => rw [q] at h2; exact h2
      | ex _ _ => rw [q] at h2; exact h2.elim
      | bad => rw [q] at h2; exact h2.elim
  have := key xs.length 0 e1 (by simp) (Nat.zero_le _) h0
  rw [List.drop_zero] at this
  exact this
/-- a def's promise from its body -/
theorem wc_of {fs : List FD} {fuel k f : Nat} {fd : FD} {ds : List PyData} {Q : PyData → Dv.Env → Prop} (hf : fs[f]? = some fd) (ht : tyOks fd.sig.tys ds = true)
    (h : WS (evSs (callK fs fuel k) fuel fd.body (env0 fd ds)) ⟨fun env => fd.sig.ret = .sh ∧ ∃ outs, outsOf fd.sig.tys env = some outs ∧ Q .none outs, fun d env => ∃ outs, outsOf fd.sig.tys env = some outs ∧ Q d outs, fun _ => False, fun _ => False⟩) : WC (callK fs fuel (k + 1) f ds) Q := by
  simp only [callK, hf, ht, if_true]
  cases q : evSs (callK fs fuel k) fuel fd.body (env0 fd ds) with
  | nx e =>
    rw [q] at h
    obtain ⟨h1, outs, h2, h3⟩ := h
    exact ⟨.none, outs, by simp only [h1, h2, if_true], h3⟩
  | ret d e =>
    rw [q] at h
    obtain ⟨outs, h2, h3⟩ := h
    exact ⟨d, outs, by simp only [h2], h3⟩
  | bk e => rw [q] at h; exact h.elim
  | ct e => rw [q] at h; exact h.elim
  | ex _ _ => rw [q] at h; exact h.elim
  | bad => rw [q] at h; exact h.elim
end
end Dv
end
section
namespace Dv
open PySem
/-! ### the same over syntax: nothing unfolds -/
structure WE (cal : Nat → List PyData → CRes) (e : E) (env : Dv.Env) (Q : PyData → Dv.Env → Prop) : Prop where
  r : WR (evE cal e env) Q
structure WO (cal : Nat → List PyData → CRes) (es : List E) (env : Dv.Env) (Q : List PyData → Dv.Env → Prop) : Prop where
  r : WR (evOs cal es env) Q
structure WL (cal : Nat → List PyData → CRes) (es : List E) (env : Dv.Env) (Q : List PyData → Dv.Env → Prop) : Prop where
  r : WR (evEs cal es env) Q
structure WT (cal : Nat → List PyData → CRes) (e : Option E) (env : Dv.Env) (Q : Option PyData → Dv.Env → Prop) : Prop where
  r : WR (evOpt cal e env) Q
structure WF (cal : Nat → List PyData → CRes) (e : Option E) (env : Dv.Env) (Q : Bool → Dv.Env → Prop) : Prop where
  r : WR (evIf cal e env) Q
structure WI (cal : Nat → List PyData → CRes) (it : Dv.It) (env : Dv.Env) (Q : List PyData → Dv.Env → Prop) : Prop where
  r : WR (evIt cal it env) Q
structure WB (cal : Nat → List PyData → CRes) (fuel : Nat) (ss : List S) (env : Dv.Env) (D : Post) : Prop where
  r : WS (evSs cal fuel ss env) D
structure WK (cal : Nat → List PyData → CRes) (f : Nat) (ds : List PyData) (Q : PyData → Dv.Env → Prop) : Prop where
  r : WC (cal f ds) Q
section
variable {cal : Nat → List PyData → CRes} {fuel : Nat} {e : E} {es : List E} {oe : Option E} {it : Dv.It} {ss : List S} {env : Dv.Env} {Q : PyData → Dv.Env → Prop} {QL : List PyData → Dv.Env → Prop} {QO : Option PyData → Dv.Env → Prop} {QB : Bool → Dv.Env → Prop} {D : Post} {f : Nat} {ds : List PyData}
theorem WE_iff : WE cal e env Q ↔ WR (evE cal e env) Q := ⟨fun h => h.r, fun h => ⟨h⟩⟩
theorem WO_iff : WO cal es env QL ↔ WR (evOs cal es env) QL := ⟨fun h => h.r, fun h => ⟨h⟩⟩
theorem WL_iff : WL cal es env QL ↔ WR (evEs cal es env) QL := ⟨fun h => h.r, fun h => ⟨h⟩⟩
theorem WT_iff : WT cal oe env QO ↔ WR (evOpt cal oe env) QO := ⟨fun h => h.r, fun h => ⟨h⟩⟩
theorem WF_iff : WF cal oe env QB ↔ WR (evIf cal oe env) QB := ⟨fun h => h.r, fun h => ⟨h⟩⟩
theorem WI_iff : WI cal it env QL ↔ WR (evIt cal it env) QL := ⟨fun h => h.r, fun h => ⟨h⟩⟩
theorem WB_iff : WB cal fuel ss env D ↔ WS (evSs cal fuel ss env) D := ⟨fun h => h.r, fun h => ⟨h⟩⟩
theorem WK_iff : WK cal f ds Q ↔ WC (cal f ds) Q := ⟨fun h => h.r, fun h => ⟨h⟩⟩
theorem WK.mono {Q' : PyData → Dv.Env → Prop} (h : WK cal f ds Q) (i : ∀ a e, Q a e → Q' a e) : WK cal f ds Q' := ⟨h.r.mono i⟩
end
section
variable {cal : Nat → List PyData → CRes} {fuel i f : Nat} {env : Dv.Env} {a b c e k : E} {as es : List E} {o o1 o2 : Op} {ts : List String} {d x : PyData} {lo hi : Option E} {Q : PyData → Dv.Env → Prop} {QL : List PyData → Dv.Env → Prop} {r : List S} {D : Post}
theorem x_k (h : Q d env) : WE cal (.k d) env Q := by
  simp only [WE_iff, WO_iff, WL_iff, WT_iff, WF_iff, WI_iff, WB_iff, WK_iff] at *
  apply w_k <;> assumption
theorem x_v (h0 : fetch env i = some d) (h : Q d env) : WE cal (.v i) env Q := by
  simp only [WE_iff, WO_iff, WL_iff, WT_iff, WF_iff, WI_iff, WB_iff, WK_iff] at *
  apply w_v <;> assumption
theorem x_mv (h0 : fetch env i = some d) (h : Q d (env.set i none)) : WE cal (.mv i) env Q := by
  simp only [WE_iff, WO_iff, WL_iff, WT_iff, WF_iff, WI_iff, WB_iff, WK_iff] at *
  apply w_mv <;> assumption
theorem x_op (h : WO cal as env fun ds e => ∃ d, evOp o ds = some d ∧ Q d e) : WE cal (.op o as) env Q := by
  simp only [WE_iff, WO_iff, WL_iff, WT_iff, WF_iff, WI_iff, WB_iff, WK_iff] at *
  apply w_op <;> assumption
theorem x_onil (h : QL [] env) : WO cal [] env QL := by
  simp only [WE_iff, WO_iff, WL_iff, WT_iff, WF_iff, WI_iff, WB_iff, WK_iff] at *
  apply w_onil <;> assumption
theorem x_ob {r : List E} (h0 : fetch env i = some x) (h : WO cal r env fun ds e => ∃ d, fetch e i = some d ∧ QL (d :: ds) e) : WO cal (.b i :: r) env QL := by
  simp only [WE_iff, WO_iff, WL_iff, WT_iff, WF_iff, WI_iff, WB_iff, WK_iff] at *
  apply w_ob <;> assumption
theorem x_oe {r : List E} (hb : bOf e = none) (h : WE cal e env fun d e1 => WO cal r e1 fun ds e2 => QL (d :: ds) e2) : WO cal (e :: r) env QL := by
  simp only [WE_iff, WO_iff, WL_iff, WT_iff, WF_iff, WI_iff, WB_iff, WK_iff] at *
  apply w_oe <;> assumption
theorem x_enil (h : QL [] env) : WL cal [] env QL := by
  simp only [WE_iff, WO_iff, WL_iff, WT_iff, WF_iff, WI_iff, WB_iff, WK_iff] at *
  apply w_enil <;> assumption
theorem x_econs {r : List E} (h : WE cal e env fun d e1 => WL cal r e1 fun ds e2 => QL (d :: ds) e2) : WL cal (e :: r) env QL := by
  simp only [WE_iff, WO_iff, WL_iff, WT_iff, WF_iff, WI_iff, WB_iff, WK_iff] at *
  apply w_econs <;> assumption
theorem x_tup (h : WL cal es env fun ds e => ds.length ≤ sizeLine ∧ Q (.tuple ds) e) : WE cal (.tup es) env Q := by
  simp only [WE_iff, WO_iff, WL_iff, WT_iff, WF_iff, WI_iff, WB_iff, WK_iff] at *
  apply w_tup <;> assumption
theorem x_lst (h : WL cal es env fun ds e => ds.length ≤ sizeLine ∧ Q (.list ds) e) : WE cal (.lst es) env Q := by
  simp only [WE_iff, WO_iff, WL_iff, WT_iff, WF_iff, WI_iff, WB_iff, WK_iff] at *
  apply w_lst <;> assumption
theorem x_and (h : WE cal a env fun d e => ∃ p, d = .bool p ∧ (p = true → WE cal b e Q) ∧ (p = false → Q (.bool false) e)) : WE cal (.and a b) env Q := by
  simp only [WE_iff, WO_iff, WL_iff, WT_iff, WF_iff, WI_iff, WB_iff, WK_iff] at *
  apply w_and <;> assumption
theorem x_or (h : WE cal a env fun d e => ∃ p, d = .bool p ∧ (p = true → Q (.bool true) e) ∧ (p = false → WE cal b e Q)) : WE cal (.or a b) env Q := by
  simp only [WE_iff, WO_iff, WL_iff, WT_iff, WF_iff, WI_iff, WB_iff, WK_iff] at *
  apply w_or <;> assumption
theorem x_andB (h : WE cal a env fun d e => ∃ p, d = .bool p ∧ WE cal b e fun d2 e2 => ∃ q, d2 = .bool q ∧ e2 = e ∧ Q (.bool (p && q)) e) : WE cal (.and a b) env Q := by
  simp only [WE_iff, WO_iff, WL_iff, WT_iff, WF_iff, WI_iff, WB_iff, WK_iff] at *
  apply w_andB <;> assumption
theorem x_orB (h : WE cal a env fun d e => ∃ p, d = .bool p ∧ WE cal b e fun d2 e2 => ∃ q, d2 = .bool q ∧ e2 = e ∧ Q (.bool (p || q)) e) : WE cal (.or a b) env Q := by
  simp only [WE_iff, WO_iff, WL_iff, WT_iff, WF_iff, WI_iff, WB_iff, WK_iff] at *
  apply w_orB <;> assumption
theorem x_not (h : WE cal a env fun d e => ∃ p, d = .bool p ∧ Q (.bool !p) e) : WE cal (.not a) env Q := by
  simp only [WE_iff, WO_iff, WL_iff, WT_iff, WF_iff, WI_iff, WB_iff, WK_iff] at *
  apply w_not <;> assumption
theorem x_ite (h : WE cal c env fun d e => ∃ p, d = .bool p ∧ (p = true → WE cal a e Q) ∧ (p = false → WE cal b e Q)) : WE cal (.ite c a b) env Q := by
  simp only [WE_iff, WO_iff, WL_iff, WT_iff, WF_iff, WI_iff, WB_iff, WK_iff] at *
  apply w_ite <;> assumption
theorem x_ch (h : WE cal a env fun x e => WE cal b e fun y e => ∃ p, evOp o1 [x, y] = some (.bool p) ∧ (p = true → WE cal c e fun z e => ∃ d, evOp o2 [y, z] = some d ∧ Q d e) ∧ (p = false → Q (.bool false) e)) : WE cal (.ch o1 o2 a b c) env Q := by
  simp only [WE_iff, WO_iff, WL_iff, WT_iff, WF_iff, WI_iff, WB_iff, WK_iff] at *
  apply w_ch <;> assumption
theorem x_call (h : WO cal as env fun ds e => WK cal f ds fun d outs => Q d (wback as outs e)) : WE cal (.call f as) env Q := by
  simp only [WE_iff, WO_iff, WL_iff, WT_iff, WF_iff, WI_iff, WB_iff, WK_iff] at *
  apply w_call <;> assumption
theorem x_kcall {ns : List Str} {pm : List Nat} (h : WL cal as env fun ds e => WK cal f (permD pm ds) fun d outs => Q d e) : WE cal (.kcall f ns pm as) env Q := by
  simp only [WE_iff, WL_iff, WK_iff] at *
  exact w_kcall h
theorem x_isa (hb : bOf a = none) (h : WE cal a env fun d e => ∃ p, isaD ts d = some p ∧ Q (.bool p) e) : WE cal (.isa a ts) env Q := by
  simp only [WE_iff, WO_iff, WL_iff, WT_iff, WF_iff, WI_iff, WB_iff, WK_iff] at *
  apply w_isa <;> assumption
theorem x_isab (h0 : fetch env i = some d) (h : ∃ p, isaD ts d = some p ∧ Q (.bool p) env) : WE cal (.isa (.b i) ts) env Q := by
  simp only [WE_iff, WO_iff, WL_iff, WT_iff, WF_iff, WI_iff, WB_iff, WK_iff] at *
  apply w_isab <;> assumption
theorem x_optN {Q : Option PyData → Dv.Env → Prop} (h : Q none env) : WT cal none env Q := by
  simp only [WE_iff, WO_iff, WL_iff, WT_iff, WF_iff, WI_iff, WB_iff, WK_iff] at *
  apply w_optN <;> assumption
theorem x_optS {Q : Option PyData → Dv.Env → Prop} (h : WE cal a env fun d e => Q (some d) e) : WT cal (some a) env Q := by
  simp only [WE_iff, WO_iff, WL_iff, WT_iff, WF_iff, WI_iff, WB_iff, WK_iff] at *
  apply w_optS <;> assumption
theorem x_sl (hb : bOf a = none) (h : WE cal a env fun d e => WT cal lo e fun l e => WT cal hi e fun h e => ∃ d', slD d l h = some d' ∧ Q d' e) : WE cal (.sl a lo hi) env Q := by
  simp only [WE_iff, WO_iff, WL_iff, WT_iff, WF_iff, WI_iff, WB_iff, WK_iff] at *
  apply w_sl <;> assumption
theorem x_slb (h0 : fetch env i = some d) (h : WT cal lo env fun l e => WT cal hi e fun h e => ∃ d d', fetch e i = some d ∧ slD d l h = some d' ∧ Q d' e) : WE cal (.sl (.b i) lo hi) env Q := by
  simp only [WE_iff, WO_iff, WL_iff, WT_iff, WF_iff, WI_iff, WB_iff, WK_iff] at *
  apply w_slb <;> assumption
theorem x_pop (h0 : fetch env i = some x) (h : WE cal a env fun k e => ∃ xs j n y, fetch e i = some (.list xs) ∧ k = .int j ∧ xs.length < 2 ^ 60 ∧ L2.ixN xs.length j = some n ∧ xs[n]? = some y ∧ Q y (e.set i (some (.list (xs.eraseIdx n))))) : WE cal (.pop i a) env Q := by
  simp only [WE_iff, WO_iff, WL_iff, WT_iff, WF_iff, WI_iff, WB_iff, WK_iff] at *
  apply w_pop <;> assumption
theorem x_dget (h0 : fetch env i = some x) (h : WE cal a env fun k e => ∃ ds z d, fetch e i = some (.dict ds) ∧ k = .str z ∧ dLook ds z = some d ∧ Q d e) : WE cal (.dget i a) env Q := by
  simp only [WE_iff, WO_iff, WL_iff, WT_iff, WF_iff, WI_iff, WB_iff, WK_iff] at *
  exact w_dget h0 h
theorem x_dct (h : WE cal a env fun d e => ∃ xs ps, d = .list xs ∧ pairsD xs = some ps ∧ Q (.dict (dMk ps)) e) : WE cal (.dct a) env Q := by
  simp only [WE_iff, WO_iff, WL_iff, WT_iff, WF_iff, WI_iff, WB_iff, WK_iff] at *
  exact w_dct h
theorem x_dcm {tg : Tg} {it : Dv.It} {ifs : Option E} {k v : E} (I : Nat → List PyData → Dv.Env → Prop)
    (h : WI cal it env fun xs e1 => xs.length < sizeLine ∧ I 0 [] e1 ∧
      (∀ j x, xs[j]? = some x → ∀ ys e, I j ys e → ∃ e0, setTg tg x (wipeE (tgSlots tg) e) = some e0 ∧ WF cal ifs e0 fun b e2 => (b = true → WE cal k e2 fun kd e3 => WE cal v e3 fun vd e4 => I (j + 1) (ys ++ [.tuple [kd, vd]]) e4) ∧ (b = false → I (j + 1) ys e2)) ∧
      ∀ ys e, I xs.length ys e → ∃ ps, pairsD ys = some ps ∧ Q (.dict (dMk ps)) (backE (tgSlots tg) e1 e)) : WE cal (.dcm tg it ifs k v) env Q := by
  simp only [WE_iff, WO_iff, WL_iff, WT_iff, WF_iff, WI_iff, WB_iff, WK_iff] at *
  exact w_dcm I h
theorem x_pd (h : WE cal a env fun x e => WE cal b e fun y e => ∃ ds, y = .dict ds ∧ Q (.dict [(x, .dict ds)]) e) : WE cal (.pd a b) env Q := by
  simp only [WE_iff, WO_iff, WL_iff, WT_iff, WF_iff, WI_iff, WB_iff, WK_iff] at *
  exact w_pd h
theorem x_enm (h : WL cal as env fun ds e => ∃ xs, enmD ds = some xs ∧ QL xs e) : WI cal (.enm as) env QL := by
  simp only [WE_iff, WO_iff, WL_iff, WT_iff, WF_iff, WI_iff, WB_iff, WK_iff] at *
  exact w_enm h
theorem x_zip (h : WL cal as env fun ds e => ∃ xs, zipD ds = some xs ∧ QL xs e) : WI cal (.zip as) env QL := by
  simp only [WE_iff, WO_iff, WL_iff, WT_iff, WF_iff, WI_iff, WB_iff, WK_iff] at *
  exact w_zip h
theorem x_rng (h : WL cal as env fun ds e => ∃ xs, rngD ds = some xs ∧ QL xs e) : WI cal (.rng as) env QL := by
  simp only [WE_iff, WO_iff, WL_iff, WT_iff, WF_iff, WI_iff, WB_iff, WK_iff] at *
  apply w_rng <;> assumption
theorem x_seq (hb : bOf e = none) (h : WE cal e env fun d e => ∃ xs, itemsD d = some xs ∧ QL xs e) : WI cal (.seq e) env QL := by
  simp only [WE_iff, WO_iff, WL_iff, WT_iff, WF_iff, WI_iff, WB_iff, WK_iff] at *
  apply w_seq <;> assumption
theorem x_seqb {xs : List PyData} (h0 : fetch env i = some d) (h1 : itemsD d = some xs) (h : QL xs env) : WI cal (.seq (.b i)) env QL := by
  simp only [WE_iff, WO_iff, WL_iff, WT_iff, WF_iff, WI_iff, WB_iff, WK_iff] at *
  apply w_seqb <;> assumption
theorem x_ifN {Q : Bool → Dv.Env → Prop} (h : Q true env) : WF cal none env Q := by
  simp only [WE_iff, WO_iff, WL_iff, WT_iff, WF_iff, WI_iff, WB_iff, WK_iff] at *
  apply w_ifN <;> assumption
theorem x_ifS {Q : Bool → Dv.Env → Prop} (h : WE cal a env fun d e => ∃ p, d = .bool p ∧ Q p e) : WF cal (some a) env Q := by
  simp only [WE_iff, WO_iff, WL_iff, WT_iff, WF_iff, WI_iff, WB_iff, WK_iff] at *
  apply w_ifS <;> assumption
theorem x_comp {tg : Tg} {it : Dv.It} {ifs : Option E} {elt : E} (I : Nat → List PyData → Dv.Env → Prop)
    (h : WI cal it env fun xs e1 => xs.length < sizeLine ∧ I 0 [] e1 ∧
      (∀ j x, xs[j]? = some x → ∀ ys e, I j ys e → ∃ e0, setTg tg x (wipeE (tgSlots tg) e) = some e0 ∧ WF cal ifs e0 fun b e2 => (b = true → WE cal elt e2 fun y e3 => I (j + 1) (ys ++ [y]) e3) ∧ (b = false → I (j + 1) ys e2)) ∧
      ∀ ys e, I xs.length ys e → Q (.list ys) (backE (tgSlots tg) e1 e)) : WE cal (.comp tg it ifs elt) env Q := by
  simp only [WE_iff, WO_iff, WL_iff, WT_iff, WF_iff, WI_iff, WB_iff, WK_iff] at *
  exact w_comp I h
theorem z_nil (h : D.nx env) : WB cal fuel [] env D := by
  simp only [WE_iff, WO_iff, WL_iff, WT_iff, WF_iff, WI_iff, WB_iff, WK_iff] at *
  apply s_nil <;> assumption
theorem z_set (h : WE cal e env fun d e1 => WB cal fuel r (e1.set i (some d)) D) : WB cal fuel (.set i e :: r) env D := by
  simp only [WE_iff, WO_iff, WL_iff, WT_iff, WF_iff, WI_iff, WB_iff, WK_iff] at *
  apply s_set <;> assumption
theorem z_ex (h : WE cal e env fun d e1 => WB cal fuel r e1 D) : WB cal fuel (.ex e :: r) env D := by
  simp only [WE_iff, WO_iff, WL_iff, WT_iff, WF_iff, WI_iff, WB_iff, WK_iff] at *
  apply s_ex <;> assumption
theorem z_ret (h : WE cal e env fun d e1 => D.rt d e1) : WB cal fuel (.ret e :: r) env D := by
  simp only [WE_iff, WO_iff, WL_iff, WT_iff, WF_iff, WI_iff, WB_iff, WK_iff] at *
  apply s_ret <;> assumption
theorem z_retN (h : D.rt .none env) : WB cal fuel (.retN :: r) env D := by
  simp only [WE_iff, WO_iff, WL_iff, WT_iff, WF_iff, WI_iff, WB_iff, WK_iff] at *
  apply s_retN <;> assumption
theorem z_pass (h : WB cal fuel r env D) : WB cal fuel (.pass :: r) env D := by
  simp only [WE_iff, WO_iff, WL_iff, WT_iff, WF_iff, WI_iff, WB_iff, WK_iff] at *
  apply s_pass <;> assumption
theorem z_brk (h : D.bk env) : WB cal fuel (.brk :: r) env D := by
  simp only [WE_iff, WO_iff, WL_iff, WT_iff, WF_iff, WI_iff, WB_iff, WK_iff] at *
  apply s_brk <;> assumption
theorem z_cont (h : D.ct env) : WB cal fuel (.cont :: r) env D := by
  simp only [WE_iff, WO_iff, WL_iff, WT_iff, WF_iff, WI_iff, WB_iff, WK_iff] at *
  apply s_cont <;> assumption
theorem z_unp {is : List Nat} (h : WE cal e env fun d e1 => ∃ e2, setTg (.tup is) d e1 = some e2 ∧ WB cal fuel r e2 D) : WB cal fuel (.unp is e :: r) env D := by
  simp only [WE_iff, WO_iff, WL_iff, WT_iff, WF_iff, WI_iff, WB_iff, WK_iff] at *
  apply s_unp <;> assumption
theorem z_setk (h : WE cal e env fun d e1 => ∃ x, fetch e1 i = some x ∧ WE cal k e1 fun kd e2 => ∃ ds z, fetch e2 i = some (.dict ds) ∧ kd = .str z ∧ ds.length < sizeLine ∧ WB cal fuel r (e2.set i (some (.dict (dPut ds z d)))) D) : WB cal fuel (.setk i k e :: r) env D := by
  simp only [WE_iff, WO_iff, WL_iff, WT_iff, WF_iff, WI_iff, WB_iff, WK_iff] at *
  exact s_setk h
theorem z_unp2 {j : Nat} (h : WE cal e env fun d e1 => ∃ x ds, d = .dict [(x, .dict ds)] ∧ WB cal fuel r ((e1.set i (some x)).set j (some (.dict ds))) D) : WB cal fuel (.unp2 i j e :: r) env D := by
  simp only [WE_iff, WO_iff, WL_iff, WT_iff, WF_iff, WI_iff, WB_iff, WK_iff] at *
  exact s_unp2 h
theorem z_par3 {j l : Nat} {c : E} (h : WE cal a env fun x e1 => WE cal b e1 fun y e2 => WE cal c e2 fun z e3 => WB cal fuel r (((e3.set i (some x)).set j (some y)).set l (some z)) D) : WB cal fuel (.par3 i j l a b c :: r) env D := by
  simp only [WE_iff, WO_iff, WL_iff, WT_iff, WF_iff, WI_iff, WB_iff, WK_iff] at *
  exact s_par3 h
theorem z_par {i j : Nat} (h : WE cal a env fun x e1 => WE cal b e1 fun y e2 => WB cal fuel r ((e2.set i (some x)).set j (some y)) D) : WB cal fuel (.par [i, j] [a, b] :: r) env D := by
  simp only [WE_iff, WO_iff, WL_iff, WT_iff, WF_iff, WI_iff, WB_iff, WK_iff] at *
  apply s_par <;> assumption
theorem z_setix (h : WE cal e env fun d e1 => ∃ x, fetch e1 i = some x ∧ WE cal k e1 fun kd e2 => ∃ xs j n, fetch e2 i = some (.list xs) ∧ kd = .int j ∧ L2.ixN xs.length j = some n ∧ WB cal fuel r (e2.set i (some (.list (xs.set n d)))) D) : WB cal fuel (.setix i k e :: r) env D := by
  simp only [WE_iff, WO_iff, WL_iff, WT_iff, WF_iff, WI_iff, WB_iff, WK_iff] at *
  apply s_setix <;> assumption
theorem z_app (h0 : fetch env i = some x) (h : WE cal e env fun d e1 => ∃ xs, fetch e1 i = some (.list xs) ∧ xs.length < sizeLine ∧ WB cal fuel r (e1.set i (some (.list (xs ++ [d])))) D) : WB cal fuel (.app i e :: r) env D := by
  simp only [WE_iff, WO_iff, WL_iff, WT_iff, WF_iff, WI_iff, WB_iff, WK_iff] at *
  apply s_app <;> assumption
theorem z_ins (h0 : fetch env i = some x) (h : WE cal k env fun kd e1 => WE cal e e1 fun d e2 => ∃ xs j, fetch e2 i = some (.list xs) ∧ kd = .int j ∧ xs.length < sizeLine ∧ 0 ≤ j ∧ j < 2 ^ 62 ∧ WB cal fuel r (e2.set i (some (.list (xs.take j.toNat ++ [d] ++ xs.drop j.toNat)))) D) : WB cal fuel (.ins i k e :: r) env D := by
  simp only [WE_iff, WO_iff, WL_iff, WT_iff, WF_iff, WI_iff, WB_iff, WK_iff] at *
  apply s_ins <;> assumption
theorem z_ite {s t : List S} (h : WE cal c env fun d e => ∃ p, d = .bool p ∧ (p = true → WB cal fuel (s ++ r) e D) ∧ (p = false → WB cal fuel (t ++ r) e D)) : WB cal fuel (.ite c s t :: r) env D := by
  simp only [WE_iff, WO_iff, WL_iff, WT_iff, WF_iff, WI_iff, WB_iff, WK_iff] at *
  apply s_ite <;> assumption
theorem z_iteC {s t : List S} (J : Dv.Env → Prop) (h : WE cal c env fun d e => ∃ p, d = .bool p ∧ (p = true → WB cal fuel s e ⟨J, D.rt, D.bk, D.ct⟩) ∧ (p = false → WB cal fuel t e ⟨J, D.rt, D.bk, D.ct⟩)) (h2 : ∀ e, J e → WB cal fuel r e D) : WB cal fuel (.ite c s t :: r) env D := by
  simp only [WE_iff, WO_iff, WL_iff, WT_iff, WF_iff, WI_iff, WB_iff, WK_iff] at *
  exact s_iteC J h h2
theorem z_for {tg : Tg} {it : Dv.It} {body : List S} (I : Nat → Dv.Env → Prop)
    (h : WI cal it env fun xs e1 => I 0 e1 ∧ (∀ j x, xs[j]? = some x → ∀ e, I j e → ∃ e2, setTg tg x e = some e2 ∧ WB cal fuel body e2 ⟨I (j + 1), D.rt, fun e => WB cal fuel r e D, I (j + 1)⟩) ∧ ∀ e, I xs.length e → WB cal fuel r e D) : WB cal fuel (.for tg it body :: r) env D := by
  simp only [WE_iff, WO_iff, WL_iff, WT_iff, WF_iff, WI_iff, WB_iff, WK_iff] at *
  exact s_for I h
end
/-- a def's promise from its body -/
theorem wk_of {fs : List FD} {fuel k f : Nat} {fd : FD} {ds : List PyData} {Q : PyData → Dv.Env → Prop} (hf : fs[f]? = some fd) (ht : tyOks fd.sig.tys ds = true)
    (h : WB (callK fs fuel k) fuel fd.body (env0 fd ds) ⟨fun env => fd.sig.ret = .sh ∧ ∃ outs, outsOf fd.sig.tys env = some outs ∧ Q .none outs, fun d env => ∃ outs, outsOf fd.sig.tys env = some outs ∧ Q d outs, fun _ => False, fun _ => False⟩) : WK (callK fs fuel (k + 1)) f ds Q := ⟨wc_of hf ht h.r⟩
end Dv
namespace Dv
open PySem
theorem WB.mono {cal : Nat → List PyData → CRes} {fuel : Nat} {ss : List S} {env : Dv.Env} {D D' : Post} (h : WB cal fuel ss env D) (h1 : ∀ e, D.nx e → D'.nx e) (h2 : ∀ d e, D.rt d e → D'.rt d e) (h3 : ∀ e, D.bk e → D'.bk e) (h4 : ∀ e, D.ct e → D'.ct e) : WB cal fuel ss env D' := by
  refine ⟨?_⟩
  have := h.r
  cases q : evSs cal fuel ss env with
  | nx e => rw [q] at this; exact h1 e this
  | ret d e => rw [q] at this; exact h2 d e this
  | bk e => rw [q] at this; exact h3 e this
  | ct e => rw [q] at this; exact h4 e this
  | ex _ _ => rw [q] at this; exact this.elim
  | bad => rw [q] at this; exact this.elim
end Dv
end
section
namespace Dv
open PySem
/-! ### helpers over data -/
theorem ixN_nat {n j : Nat} (h : j < n) : L2.ixN n (j : Int) = some j := by
  unfold L2.ixN
  rw [if_pos (Int.natCast_nonneg j), if_pos (by omega)]
  rfl
theorem toNat_of {x : Int} {n : Nat} (h0 : 0 ≤ x) (h1 : x < (n : Int)) : ∃ j : Nat, x = (j : Int) ∧ j < n := ⟨x.toNat, by omega, by omega⟩
theorem atI_nat {L : List PyData} {j : Nat} (h : j < L.length) : L2.atI L (j : Int) = some L[j] := by
  unfold L2.atI
  rw [ixN_nat h]
  exact List.getElem?_eq_getElem h
theorem ix_lst {L : List PyData} {j : Nat} (h : j < L.length) : evOp .ix [.list L, .int (j : Int)] = some L[j] := atI_nat h
theorem ix_tpl {L : List PyData} {j : Nat} (h : j < L.length) : evOp .ix [.tuple L, .int (j : Int)] = some L[j] := atI_nat h
theorem ix_lst_mem {L : List PyData} {x : Int} (h0 : 0 ≤ x) (h1 : x < (L.length : Int)) : ∃ y, y ∈ L ∧ evOp .ix [.list L, .int x] = some y := by
  obtain ⟨j, rfl, hj⟩ := toNat_of h0 h1
  exact ⟨L[j], List.getElem_mem hj, ix_lst hj⟩
theorem ix_tpl_mem {L : List PyData} {x : Int} (h0 : 0 ≤ x) (h1 : x < (L.length : Int)) : ∃ y, y ∈ L ∧ evOp .ix [.tuple L, .int x] = some y := by
  obtain ⟨j, rfl, hj⟩ := toNat_of h0 h1
  exact ⟨L[j], List.getElem_mem hj, ix_tpl hj⟩
theorem sz : sizeLine = 16777216 := by decide
theorem addL {xs ys : List PyData} (h : xs.length + ys.length ≤ 16777216) : evOp .add [.list xs, .list ys] = some (.list (xs ++ ys)) := by
  show (if xs.length + ys.length ≤ sizeLine then some (PyData.list (xs ++ ys)) else none) = _
  rw [if_pos (by rw [sz]; omega)]
theorem addT {xs ys : List PyData} (h : xs.length + ys.length ≤ 16777216) : evOp .add [.tuple xs, .tuple ys] = some (.tuple (xs ++ ys)) := by
  show (if xs.length + ys.length ≤ sizeLine then some (PyData.tuple (xs ++ ys)) else none) = _
  rw [if_pos (by rw [sz]; omega)]
theorem rng1 {x : Int} (h0 : 0 ≤ x) (h1 : x < 1000000) : rngD [.int x] = some ((List.range x.toNat).map fun (i : Nat) => .int (i : Int)) := by
  unfold rngD
  simp only
  rw [if_pos (by omega)]
theorem rng2 {a b : Int} (h0 : 0 ≤ a) (h1 : a < 1000000) (h2 : 0 ≤ b) (h3 : b < 1000000) : rngD [.int a, .int b] = some ((List.range (b - a).toNat).map fun (i : Nat) => .int (a + (i : Int))) := by
  unfold rngD
  simp only
  rw [if_pos (by omega)]
theorem ne_ints {cells : List Int} : evOp .ne [.list (cells.map .int), .list []] = some (.bool (!cells.isEmpty)) := by
  show neD _ _ = _
  unfold neD
  rw [ints_shp, show shp (.list []) = true from rfl, eqv_nil]
  simp
theorem eq_ints {cells : List Int} : evOp .eq [.list (cells.map .int), .list []] = some (.bool cells.isEmpty) := by
  show eqD _ _ = _
  unfold eqD
  rw [ints_shp, show shp (.list []) = true from rfl, eqv_nil]
  simp
theorem len_ints {cells : List Int} : evOp .len [.list (cells.map .int)] = some (.int cells.length) := by
  show some (PyData.int ((cells.map PyData.int).length : Nat)) = _
  rw [List.length_map]
/-- a cell of the script: at % len -/
theorem cell_at {cells : List Int} {pos : Int} (h : cells ≠ []) : ∃ c : Int, evOp .mod [.int pos, .int ((cells.map PyData.int).length : Nat)] = some (.int (pos % cells.length)) ∧ evOp .ix [.list (cells.map .int), .int (pos % cells.length)] = some (.int c) := by
  have hl : 0 < (cells.length : Int) := by
    cases cells with
    | nil => exact absurd rfl h
    | cons _ _ => simp only [List.length_cons]; omega
  obtain ⟨j, ej, hj⟩ := toNat_of (Int.emod_nonneg pos (show (cells.length : Int) ≠ 0 by omega)) (Int.emod_lt_of_pos pos hl)
  refine ⟨cells[j], ?_, ?_⟩
  · rw [List.length_map]
    show (if 0 < (cells.length : Int) then _ else _) = _
    rw [if_pos hl]
  · rw [ej, ix_lst (by rw [List.length_map]; exact hj), List.getElem_map]
theorem we_of {cal : Nat → List PyData → CRes} {e : E} {env env' : Dv.Env} {d : PyData} {Q : PyData → Dv.Env → Prop} (h : evE cal e env = .ok d env') (q : Q d env') : WE cal e env Q := ⟨⟨d, env', h, q⟩⟩
theorem we_get {cal : Nat → List PyData → CRes} {e : E} {env : Dv.Env} {P : PyData → Dv.Env → Prop} (h : WE cal e env P) : ∃ d env', evE cal e env = .ok d env' ∧ P d env' := h.r
/-- a comprehension that changes nothing, over data that come from a list -/
theorem x_compM {α : Type} {cal : Nat → List PyData → CRes} {i : Nat} {it : Dv.It} {ifs : Option E} {elt : E} {env : Dv.Env} {Q : PyData → Dv.Env → Prop} (L : List α) (fd : α → PyData) (p : α → Bool) (g : α → PyData) (hi : i < env.length)
    (h : WI cal it env fun xs e1 => e1 = env ∧ xs = L.map fd ∧ L.length < 16777216 ∧ (∀ x ∈ L, WF cal ifs (env.set i (some (fd x))) fun b e => b = p x ∧ e = env.set i (some (fd x))) ∧ (∀ x ∈ L, p x = true → WE cal elt (env.set i (some (fd x))) fun d e => d = g x ∧ e = env.set i (some (fd x))) ∧ Q (.list ((L.filter p).map g)) env) :
    WE cal (.comp (.one i) it ifs elt) env Q := by
  refine x_comp (fun j ys e => ∃ o, e = env.set i o ∧ ys = ((L.take j).filter p).map g) ⟨h.r.mono fun xs e1 ⟨e0, ex, hl, hp, hg, q⟩ => ?_⟩
  subst e0 ex
  have e00 : e1.set i (e1[i]?.join) = e1 := by
    rw [List.getElem?_eq_getElem hi]
    exact List.set_getElem_self hi
  refine ⟨by rw [List.length_map, sz]; exact hl, ⟨e1[i]?.join, e00.symm, by simp⟩, fun j x hx ys e hI => ?_, fun ys e hI => ?_⟩
  · obtain ⟨o, rfl, rfl⟩ := hI
    rw [List.getElem?_map] at hx
    cases hj : L[j]? with
    | none => rw [hj] at hx; cases hx
    | some a =>
      rw [hj] at hx
      cases hx
      have ha := List.mem_of_getElem? hj
      have et : L.take (j + 1) = L.take j ++ [a] := by
        rw [List.take_add_one, hj]; rfl
      refine ⟨e1.set i (some (fd a)), ?_, ⟨(hp a ha).r.mono fun b e ⟨h1, h2⟩ => ⟨fun hb => ?_, fun hb => ?_⟩⟩⟩
      · simp only [setTg, tgSlots, wipeE, List.set_set]
      · subst h1 h2
        refine ⟨((hg a ha hb).r).mono fun d e ⟨h3, h4⟩ => ?_⟩
        subst h3 h4
        exact ⟨_, rfl, by rw [et, List.filter_append, List.map_append]; simp [hb]⟩
      · subst h1 h2
        exact ⟨_, rfl, by rw [et, List.filter_append, List.map_append]; simp [hb]⟩
  · obtain ⟨o, rfl, rfl⟩ := hI
    rw [List.length_map, List.take_length]
    have : backE (tgSlots (.one i)) e1 (e1.set i o) = e1 := by
      simp only [tgSlots, backE, List.set_set]
      exact e00
    rw [this]
    exact q
theorem wf_none {cal : Nat → List PyData → CRes} {env : Dv.Env} {Q : Bool → Dv.Env → Prop} (h : Q true env) : WF cal none env Q := x_ifN h
/-! ### names -/
def Nm (s : Str) : Prop := PyData.strOk s = true ∧ s.cps.size ≤ 8
instance (s : Str) : Decidable (Nm s) := inferInstanceAs (Decidable (_ ∧ _))
theorem Nm.ok {s : Str} (h : Nm s) : Ok 0 8 (.str s) := (Ok.str h.1).mono (Nat.le_refl _) h.2
theorem Nm.shp {s : Str} (h : Nm s) : shp (.str s) = true := h.ok.shp (by omega)
abbrev sds (ss : List Str) : List PyData := ss.map .str
theorem sds_ok {ss : List Str} (h : ∀ s ∈ ss, Nm s) : OkA 0 (ss.length * 9) (sds ss) := by
  refine OkA.of (w := 8) (fun d hd => ?_) (by simp)
  obtain ⟨s, hs, rfl⟩ := List.mem_map.mp hd
  exact (h s hs).ok
theorem sds_shpL {ss : List Str} (h : ∀ s ∈ ss, Nm s) : shp (.list (sds ss)) = true := (sds_ok h).list.shp (by omega)
theorem sds_shpT {ss : List Str} (h : ∀ s ∈ ss, Nm s) : shp (.tuple (sds ss)) = true := (sds_ok h).tuple.shp (by omega)
theorem sds_any {ss : List Str} {s : Str} : ((sds ss).any fun y => PyData.eqv y (.str s)) = ss.contains s := by
  induction ss with
  | nil => rfl
  | cons a ss ih =>
    simp only [sds, List.map_cons, List.any_cons, List.contains_cons]
    rw [show (List.any (List.map PyData.str ss) fun y => y.eqv (PyData.str s)) = ss.contains s from ih]
    congr 1
    simp only [PyData.eqv]
    exact Bool.eq_iff_iff.mpr ⟨fun h => by simpa using (by simpa using h : a = s).symm, fun h => by simpa using (by simpa using h : s = a).symm⟩
theorem in_sdsL {ss : List Str} {s : Str} (h : ∀ s ∈ ss, Nm s) (hs : Nm s) : evOp .isIn [.str s, .list (sds ss)] = some (.bool (ss.contains s)) := by
  show inD (.str s) (.list (sds ss)) = _
  unfold inD
  simp only
  rw [hs.shp, sds_shpL h, sds_any]; rfl
theorem in_sdsT {ss : List Str} {s : Str} (h : ∀ s ∈ ss, Nm s) (hs : Nm s) : evOp .isIn [.str s, .tuple (sds ss)] = some (.bool (ss.contains s)) := by
  show inD (.str s) (.tuple (sds ss)) = _
  unfold inD
  simp only
  rw [hs.shp, sds_shpT h, sds_any]; rfl
theorem notin_sdsL {ss : List Str} {s : Str} (h : ∀ s ∈ ss, Nm s) (hs : Nm s) : evOp .notIn [.str s, .list (sds ss)] = some (.bool (!ss.contains s)) := by
  show notinD _ _ = _
  unfold notinD
  rw [show inD (.str s) (.list (sds ss)) = _ from in_sdsL h hs]; rfl
theorem notin_sdsT {ss : List Str} {s : Str} (h : ∀ s ∈ ss, Nm s) (hs : Nm s) : evOp .notIn [.str s, .tuple (sds ss)] = some (.bool (!ss.contains s)) := by
  show notinD _ _ = _
  unfold notinD
  rw [show inD (.str s) (.tuple (sds ss)) = _ from in_sdsT h hs]; rfl
theorem ne_str {a b : Str} (ha : Nm a) (hb : Nm b) : evOp .ne [.str a, .str b] = some (.bool (!(a == b))) := by
  show neD _ _ = _
  unfold neD
  rw [ha.shp, hb.shp]
  simp only [PyData.eqv]; rfl
theorem eq_str {a b : Str} (ha : Nm a) (hb : Nm b) : evOp .eq [.str a, .str b] = some (.bool (a == b)) := by
  show eqD _ _ = _
  unfold eqD
  rw [ha.shp, hb.shp]
  simp only [PyData.eqv]; rfl
theorem sds_erase (ss : List Str) (n : Nat) : (sds ss).eraseIdx n = sds (ss.eraseIdx n) := by
  induction ss generalizing n with
  | nil => rfl
  | cons a ss ih => cases n with
    | zero => rfl
    | succ n => simp only [sds, List.map_cons, List.eraseIdx_cons_succ]; rw [show (List.map PyData.str ss).eraseIdx n = _ from ih n]
theorem erase_perm {α : Type} : ∀ {l : List α} {n : Nat} (h : n < l.length), (l[n] :: l.eraseIdx n).Perm l
  | a :: l, 0, _ => .refl _
  | a :: l, n + 1, h => by
    have ih := erase_perm (l := l) (n := n) (by simpa using h)
    exact (List.Perm.swap a _ _).trans (ih.cons a)
/-! sorted names -/
def leS (a b : Str) : Bool := decide (a.cps.toList ≤ b.cps.toList)
def sortS (ss : List Str) : List Str := ss.mergeSort leS
theorem sortS_perm (ss : List Str) : (sortS ss).Perm ss := List.mergeSort_perm ss _
theorem sortS_mem {ss : List Str} {s : Str} : s ∈ sortS ss ↔ s ∈ ss := (sortS_perm ss).mem_iff
theorem sortS_len {ss : List Str} : (sortS ss).length = ss.length := (sortS_perm ss).length_eq
theorem srt_sds {ss : List Str} (h : ∀ s ∈ ss, Nm s) (hl : ss.length ≤ 1000000) : evOp .srt [.list (sds ss)] = some (.list (sds (sortS ss))) := by
  show sortD (.list (sds ss)) = _
  have h1 : sortable (sds ss) = true := by
    unfold sortable alikeB
    simp only [Bool.and_eq_true, Bool.or_eq_true, List.all_eq_true, decide_eq_true_eq]
    refine ⟨⟨⟨fun x hx y hy => ?_, .inr fun x hx => ?_⟩, fun x hx => ?_⟩, by rw [List.length_map, sz]; omega⟩
    · obtain ⟨a, _, rfl⟩ := List.mem_map.mp hx
      obtain ⟨b, _, rfl⟩ := List.mem_map.mp hy
      simp [PySem.W.alike]
    · obtain ⟨a, _, rfl⟩ := List.mem_map.mp hx
      rfl
    · obtain ⟨a, ha, rfl⟩ := List.mem_map.mp hx
      have := (h a ha).ok
      refine ⟨by rw [this.noDict]; rfl, Nat.le_trans this.dep (by omega)⟩
  simp only [sortD, h1, if_true]
  refine congrArg (fun q => some (PyData.list q)) ?_
  unfold sortL sortS sds
  refine (List.map_mergeSort fun a _ b _ => ?_).symm
  have := congrFun (congrFun (PySem.W.dataLe_str (fun b : Str => b)) a) b
  rw [leS, ← this]
  rfl
end Dv
end
section
namespace Dv
open PySem
/-! ### ascending names -/
theorem leS_trans (a b c : Str) (h : leS a b = true) (h' : leS b c = true) : leS a c = true := by
  unfold leS at *
  simp only [decide_eq_true_eq] at *
  exact List.le_trans h h'
theorem leS_total (a b : Str) : (leS a b || leS b a) = true := by
  unfold leS
  simp only [Bool.or_eq_true, decide_eq_true_eq]
  exact List.le_total _ _
def Asc (ps : List Str) : Prop := ps.Pairwise (fun a b => leS a b = true) ∧ ps.Nodup
theorem asc_sort {t rest names : List Str} (hn : names.Nodup) (hp : (t ++ rest).Perm names) : Asc (sortS t) := by
  refine ⟨List.pairwise_mergeSort (le := leS) (fun a b c => leS_trans a b c) (fun a b => leS_total a b) t, ?_⟩
  have h1 : (t ++ rest).Nodup := hp.nodup_iff.mpr hn
  exact (sortS_perm t).nodup_iff.mpr (List.nodup_append.mp h1).1
theorem Asc.sub {a b : List Str} (h : Asc b) (s : a.Sublist b) : Asc a := ⟨h.1.sublist s, h.2.sublist s⟩
/-! ### events, histories -/
inductive Ev where
  | mix (w : Str) (ps : List Str)
  | new (p : Str) (m : Option Int)
  | look (w p : Str) (m : Int)
  | pour (w : Str) (ps : List Str) (n : Int)
def mkD : Option Int → PyData
  | none => .none
  | some i => .int i
def Ev.d : Ev → PyData
  | .mix w ps => .tuple [.str "mix", .str w, .tuple (sds ps)]
  | .new p m => .tuple [.str "new", .str p, mkD m]
  | .look w p m => .tuple [.str "look", .str w, .str p, .int m]
  | .pour w ps n => .tuple [.str "pour", .str w, .tuple (sds ps), .int n]
def isBit : Option Int → Prop
  | none => True
  | some i => i = 0 ∨ i = 1
def Ev.Ok (names : List Str) : Ev → Prop
  | .mix w ps => Nm w ∧ (∀ s ∈ ps, s ∈ names) ∧ Asc ps ∧ 2 ≤ ps.length ∧ ps.length ≤ names.length
  | .new p m => p ∈ names ∧ isBit m
  | .look w p m => Nm w ∧ p ∈ names ∧ (m = 0 ∨ m = 1)
  | .pour w ps n => Nm w ∧ (∀ s ∈ ps, s ∈ names) ∧ Asc ps ∧ 1 ≤ ps.length ∧ 0 ≤ n ∧ n ≤ ps.length ∧ ps.length ≤ names.length
def Ev.rep : Ev → Bool
  | .look _ _ _ => true
  | .pour _ _ _ => true
  | _ => false
structure Hist where
  start : List (Str × Option Int)
  evs : List Ev
def Hist.d (h : Hist) : PyData := .tuple [.tuple (h.start.map fun p => .tuple [.str p.1, mkD p.2]), .tuple (h.evs.map Ev.d)]
def Hist.names (h : Hist) : List Str := h.start.map (·.1)
structure Hist.Ok (h : Hist) : Prop where
  nm : ∀ s ∈ h.names, Nm s
  asc : Asc h.names
  mks : ∀ p ∈ h.start, isBit p.2
  ev : ∀ e ∈ h.evs, e.Ok h.names
def Ev.kind : Ev → Str
  | .mix _ _ => "mix"
  | .new _ _ => "new"
  | .look _ _ _ => "look"
  | .pour _ _ _ => "pour"
theorem Ev.ix0 {e : Ev} : evOp .ix [e.d, .int 0] = some (.str e.kind) := by cases e <;> rfl
theorem nm_mix : Nm "mix" := by decide +kernel
theorem nm_new : Nm "new" := by decide +kernel
theorem nm_look : Nm "look" := by decide +kernel
theorem nm_pour : Nm "pour" := by decide +kernel
theorem Ev.nm {e : Ev} : Nm e.kind := by
  cases e
  · exact nm_mix
  · exact nm_new
  · exact nm_look
  · exact nm_pour
theorem Ev.in2 {e : Ev} : evOp .isIn [.str e.kind, .tuple [.str "look", .str "pour"]] = some (.bool e.rep) := by
  have h : ∀ s ∈ (["look", "pour"] : List Str), Nm s := by
    intro s hs
    simp only [List.mem_cons, List.not_mem_nil, or_false] at hs
    rcases hs with rfl | rfl
    · exact nm_look
    · exact nm_pour
  have := in_sdsT (s := e.kind) h Ev.nm
  rw [show (.tuple [.str "look", .str "pour"] : PyData) = .tuple (sds ["look", "pour"]) from rfl, this]
  refine congrArg (fun b => some (PyData.bool b)) ?_
  cases e
  · show (["look", "pour"] : List Str).contains "mix" = false; decide +kernel
  · show (["look", "pour"] : List Str).contains "new" = false; decide +kernel
  · show (["look", "pour"] : List Str).contains "look" = true; decide +kernel
  · show (["look", "pour"] : List Str).contains "pour" = true; decide +kernel
def Ev.isK (e : Ev) (x : Str) : Bool := e.kind == x
theorem Ev.eqK {e : Ev} {x : Str} (h : Nm x) : evOp .eq [.str e.kind, .str x] = some (.bool (e.kind == x)) := eq_str Ev.nm h
end Dv
end
section
namespace GK
open PySem Dv
def kreader : FD := ⟨⟨"_law_reader", ["script"], [.sh], .lst .own, []⟩, ["script"], [.sh],
  [(.ret (.lst [(.sl (.v 0) none (some (.k (.int 63)))), (.k (.int 0)), (.k (.int 0)), (.k (.int 0))]))]⟩
def kdraw : FD := ⟨⟨"_law_draw", ["reader", "many"], [.lst .par, .sh], .sh, []⟩, ["reader", "many", "cell", "once", "found"], [.lst .par, .sh, .sh, .sh, .sh],
  [(.setix 0 (.k (.int 3)) (.op .add [(.op .ix [(.b 0), (.k (.int 3))]), (.k (.int 1))])), (.ite (.op .gt [(.op .ix [(.b 0), (.k (.int 2))]), (.k (.int 0))]) [(.set 4 (.op .mod [(.op .ix [(.b 0), (.k (.int 2))]), (.v 1)])), (.setix 0 (.k (.int 2)) (.op .fdiv [(.op .ix [(.b 0), (.k (.int 2))]), (.v 1)])), (.ret (.v 4))] []), (.set 2 (.k (.int 7))), (.ite (.op .ne [(.op .ix [(.b 0), (.k (.int 0))]), (.lst [])]) [(.set 2 (.op .ix [(.op .ix [(.b 0), (.k (.int 0))]), (.op .mod [(.op .ix [(.b 0), (.k (.int 1))]), (.op .len [(.op .ix [(.b 0), (.k (.int 0))])])])]))] []), (.setix 0 (.k (.int 1)) (.op .add [(.op .ix [(.b 0), (.k (.int 1))]), (.k (.int 1))])), (.ite (.and (.op .ge [(.v 2), (.op .pow [(.k (.int 10)), (.k (.int 18))])]) (.op .le [(.op .ix [(.b 0), (.k (.int 1))]), (.op .len [(.op .ix [(.b 0), (.k (.int 0))])])])) [(.setix 0 (.k (.int 2)) (.op .fdiv [(.v 2), (.v 1)])), (.ret (.op .mod [(.v 2), (.v 1)]))] []), (.set 3 (.op .mod [(.op .pow [(.op .add [(.op .add [(.op .mod [(.v 2), (.k (.int 2147483587))]), (.op .mul [(.k (.int 6949)), (.op .ix [(.b 0), (.k (.int 3))])])]), (.k (.int 3))]), (.k (.int 5))]), (.k (.int 2147483629))])), (.ret (.op .mod [(.op .fdiv [(.op .mod [(.op .pow [(.op .add [(.v 3), (.op .mul [(.k (.int 87403)), (.op .ix [(.b 0), (.k (.int 3))])])]), (.k (.int 5))]), (.k (.int 2147483647))]), (.k (.int 64))]), (.v 1)]))]⟩
def ksubset (f__law_draw : Nat) : FD := ⟨⟨"_law_subset", ["reader", "names", "least"], [.lst .par, .sh, .sh], .sh, []⟩, ["reader", "names", "least", "found", "one"], [.lst .par, .sh, .sh, .lst .own, .sh],
  [(.set 3 (.comp (.one 4) (.seq (.v 1)) (some (.op .eq [(.call f__law_draw [(.b 0), (.k (.int 2))]), (.k (.int 0))])) (.v 4))), (.for (.one 4) (.seq (.v 1)) [(.ite (.and (.op .lt [(.op .len [(.b 3)]), (.v 2)]) (.op .notIn [(.v 4), (.b 3)])) [(.app 3 (.v 4))] [])]), (.ret (.op .tup [(.op .srt [(.b 3)])]))]⟩
def kevent (f__law_draw : Nat) (f__law_subset : Nat) : FD := ⟨⟨"_law_event", ["reader", "names"], [.lst .par, .sh], .sh, []⟩, ["reader", "names", "some", "way", "person", "place", "mark"], [.lst .par, .sh, .sh, .sh, .sh, .sh, .sh],
  [(.par [3, 4] [(.call f__law_draw [(.b 0), (.k (.int 7))]), (.op .ix [(.lst [(.k (.str "ann")), (.k (.str "bob")), (.k (.str "cy")), (.k (.str "eve")), (.k (.str "zed"))]), (.call f__law_draw [(.b 0), (.k (.int 5))])])]), (.par [5, 6] [(.op .ix [(.v 1), (.call f__law_draw [(.b 0), (.op .len [(.v 1)])])]), (.call f__law_draw [(.b 0), (.k (.int 2))])]), (.ite (.and (.op .lt [(.v 3), (.k (.int 3))]) (.op .gt [(.op .len [(.v 1)]), (.k (.int 1))])) [(.ret (.tup [(.k (.str "mix")), (.v 4), (.call f__law_subset [(.b 0), (.v 1), (.k (.int 2))])]))] []), (.ite (.op .lt [(.v 3), (.k (.int 4))]) [(.ret (.tup [(.k (.str "new")), (.v 5), (.op .ix [(.lst [(.v 6), (.k .none)]), (.call f__law_draw [(.b 0), (.k (.int 2))])])]))] []), (.ite (.op .lt [(.v 3), (.k (.int 5))]) [(.ret (.tup [(.k (.str "look")), (.v 4), (.v 5), (.v 6)]))] []), (.set 2 (.call f__law_subset [(.b 0), (.v 1), (.k (.int 1))])), (.ret (.tup [(.k (.str "pour")), (.v 4), (.v 2), (.call f__law_draw [(.b 0), (.op .add [(.op .len [(.v 2)]), (.k (.int 1))])])]))]⟩
def khistory (f__law_draw : Nat) (f__law_event : Nat) : FD := ⟨⟨"_law_history", ["reader", "most", "events"], [.lst .par, .sh, .sh], .sh, []⟩, ["reader", "most", "events", "pool", "names", "start", "k", "name"], [.lst .par, .sh, .sh, .lst .own, .sh, .sh, .sh, .sh],
  [(.set 3 (.lst [(.k (.str "a")), (.k (.str "b")), (.k (.str "c")), (.k (.str "d")), (.k (.str "e")), (.k (.str "lot")), (.k (.str "zzzzzzzz"))])), (.set 4 (.op .srt [(.comp (.one 6) (.rng [(.op .add [(.k (.int 1)), (.call f__law_draw [(.b 0), (.v 1)])])]) none (.pop 3 (.call f__law_draw [(.b 0), (.op .len [(.b 3)])])))])), (.set 5 (.op .tup [(.comp (.one 7) (.seq (.v 4)) none (.tup [(.v 7), (.op .ix [(.lst [(.k (.int 0)), (.k (.int 1)), (.k .none)]), (.call f__law_draw [(.b 0), (.k (.int 3))])])]))])), (.ret (.tup [(.v 5), (.op .tup [(.comp (.one 6) (.rng [(.call f__law_draw [(.b 0), (.op .add [(.v 2), (.k (.int 1))])])]) none (.call f__law_event [(.b 0), (.v 4)]))])]))]⟩
theorem nodup_le : ∀ {a b : List Str}, a.Nodup → (∀ s ∈ a, s ∈ b) → a.length ≤ b.length
  | [], _, _, _ => Nat.zero_le _
  | x :: a, b, h, s => by
    obtain ⟨h1, h2⟩ := List.nodup_cons.mp h
    have hx := s x List.mem_cons_self
    have := nodup_le (b := b.erase x) h2 fun y hy => (List.mem_erase_of_ne (show y ≠ x from fun e => h1 (e ▸ hy))).mpr (s y (List.mem_cons_of_mem _ hy))
    rw [List.length_erase_of_mem hx] at this
    have hp : 0 < b.length := List.length_pos_of_mem hx
    rw [List.length_cons]
    omega
variable {fs : List FD} {fuel k : Nat}
def rd (cells : List Int) (pos left cnt : Int) : PyData := .list [.list (cells.map .int), .int pos, .int left, .int cnt]
theorem rd_ty {m : Nat} {r : PyData} (h : Rdr m r) : tyOk (.lst .par) r = true := by obtain ⟨_, _, _, _, rfl, _⟩ := h; rfl
theorem cut63 (ns : List Int) : cutL (ns.map PyData.int) none (some 63) = (cutL ns none (some 63)).map PyData.int := by
  unfold cutL
  rw [List.length_map, List.map_take, List.map_drop]
theorem reader_wk {f : Nat} {ns : List Int} (hf : fs[f]? = some kreader) (h : ns.length ≤ 63) : WK (callK fs fuel (k + 1)) f [.list (ns.map .int)] fun d outs => outs = [none] ∧ Rdr 0 d := by
  refine wk_of hf rfl ?_
  dsimp only [kreader]
  show WB _ _ _ [some (.list (ns.map .int))] _
  (repeat (first | refine x_op ?_ | refine x_oe rfl ?_ | refine x_v rfl ?_ | refine x_k ?_ | refine x_onil ?_ | refine x_ob rfl ?_ | refine z_set ?_ | refine z_ret ?_ | refine x_econs ?_ | refine x_enil ?_ | refine x_call ?_ | refine x_kcall ?_ | refine x_and ?_ | refine x_or ?_ | refine x_not ?_ | refine x_ite ?_ | refine x_isa rfl ?_ | refine x_isab rfl ?_ | refine x_optN ?_ | refine x_optS ?_ | refine x_sl rfl ?_ | refine x_slb rfl ?_ | refine x_dget rfl ?_ | refine x_dct ?_ | refine x_pd ?_ | refine x_rng ?_ | refine x_enm ?_ | refine x_zip ?_ | refine x_seq rfl ?_ | refine x_ifN ?_ | refine x_ifS ?_ | refine x_ch ?_ | refine z_retN ?_ | refine z_ex ?_ | refine z_pass ?_ | refine z_brk ?_ | refine z_cont ?_ | refine z_par ?_ | refine z_unp ?_ | refine z_setix ?_ | refine z_setk ?_ | refine z_unp2 ?_ | refine z_par3 ?_ | refine z_app rfl ?_ | refine z_ins rfl ?_ | refine x_tup ?_ | refine x_lst ?_ | refine ⟨_, rfl, ?_⟩ | refine ⟨_, md _, ?_⟩ | refine ⟨_, fd _, ?_⟩ | refine ⟨_, _, _, rfl, rfl, rfl, ?_⟩ | refine ⟨Nat.le_of_ble_eq_true rfl, ?_⟩); try dsimp only [wback, List.set, List.cons_append, List.nil_append])
  refine ⟨rfl, cutL ns none (some 63), 0, 0, 0, ?_, ?_, by omega, by omega, by omega, by omega⟩
  · show PyData.list [.list (cutL (ns.map .int) none (some 63)), .int 0, .int 0, .int 0] = _
    rw [cut63]
  · unfold cutL
    rw [List.length_take, List.length_drop]
    omega
set_option maxHeartbeats 2000000 in
theorem draw_wk {f m : Nat} {r : PyData} {many : Int} (hf : fs[f]? = some kdraw) (hr : Rdr m r) (hm : m < 10 ^ 8) (h1 : 1 ≤ many) (h2 : many < 2 ^ 29) :
    WK (callK fs fuel (k + 1)) f [r, .int many] fun d outs => ∃ x r', d = .int x ∧ outs = [some r', none] ∧ 0 ≤ x ∧ x < many ∧ Rdr (m + 1) r' := by
  obtain ⟨cells, pos, left, cnt, rfl, a1, a2, a3, a4, a5⟩ := hr
  have h0 : 0 < many := by omega
  have md : ∀ i : Int, evOp .mod [.int i, .int many] = some (.int (i % many)) := fun i => by show (if 0 < many then _ else _) = _; rw [if_pos h0]
  have fd : ∀ i : Int, evOp .fdiv [.int i, .int many] = some (.int (i / many)) := fun i => by show (if 0 < many ∧ many < 1073741824 then _ else _) = _; rw [if_pos ⟨h0, by omega⟩]
  have lt : ∀ i : Int, 0 ≤ i % many ∧ i % many < many := fun i => ⟨Int.emod_nonneg _ (by omega), Int.emod_lt_of_pos _ h0⟩
  have pw5 : ∀ {i : Int}, i.natAbs < 2 ^ 64 → evOp .pow [.int i, .int 5] = some (.int (i ^ 5)) := fun {i} h => by
    show (if (0 : Int) ≤ 5 ∧ (5 : Int) ≤ 1000000 ∧ i.natAbs < 2 ^ 64 then some (PyData.int (i ^ (5 : Int).toNat)) else none) = _
    rw [if_pos ⟨by decide, by decide, h⟩]
    rfl
  have ml : ∀ {a b : Int}, (-(2 ^ 64) < b ∧ b < 2 ^ 64) → evOp .mul [.int a, .int b] = some (.int (a * b)) := fun {a b} h => by
    show (if (-(2 ^ 64) < a ∧ a < 2 ^ 64) ∨ (-(2 ^ 64) < b ∧ b < 2 ^ 64) then some (PyData.int (a * b)) else none) = _
    rw [if_pos (.inr h)]
  refine wk_of hf rfl ?_
  dsimp only [kdraw]
  show WB _ _ _ [some (rd cells pos left cnt), some (.int many), none, none, none] _
  unfold rd
  refine z_setix ?_
  (repeat (first | refine x_op ?_ | refine x_oe rfl ?_ | refine x_v rfl ?_ | refine x_k ?_ | refine x_onil ?_ | refine x_ob rfl ?_ | refine x_econs ?_ | refine x_enil ?_ | refine x_call ?_ | refine x_kcall ?_ | refine x_and ?_ | refine x_or ?_ | refine x_not ?_ | refine x_ite ?_ | refine x_isa rfl ?_ | refine x_isab rfl ?_ | refine x_optN ?_ | refine x_optS ?_ | refine x_sl rfl ?_ | refine x_slb rfl ?_ | refine x_dget rfl ?_ | refine x_dct ?_ | refine x_pd ?_ | refine x_rng ?_ | refine x_enm ?_ | refine x_zip ?_ | refine x_seq rfl ?_ | refine x_ifN ?_ | refine x_ifS ?_ | refine x_ch ?_ | refine x_tup ?_ | refine x_lst ?_ | refine ⟨_, rfl, ?_⟩ | refine ⟨_, md _, ?_⟩ | refine ⟨_, fd _, ?_⟩ | refine ⟨_, _, _, rfl, rfl, rfl, ?_⟩ | refine ⟨Nat.le_of_ble_eq_true rfl, ?_⟩); try dsimp only [wback, List.set, List.cons_append, List.nil_append])
  refine z_ite ?_
  (repeat (first | refine x_op ?_ | refine x_oe rfl ?_ | refine x_v rfl ?_ | refine x_k ?_ | refine x_onil ?_ | refine x_ob rfl ?_ | refine x_econs ?_ | refine x_enil ?_ | refine x_call ?_ | refine x_kcall ?_ | refine x_and ?_ | refine x_or ?_ | refine x_not ?_ | refine x_ite ?_ | refine x_isa rfl ?_ | refine x_isab rfl ?_ | refine x_optN ?_ | refine x_optS ?_ | refine x_sl rfl ?_ | refine x_slb rfl ?_ | refine x_dget rfl ?_ | refine x_dct ?_ | refine x_pd ?_ | refine x_rng ?_ | refine x_enm ?_ | refine x_zip ?_ | refine x_seq rfl ?_ | refine x_ifN ?_ | refine x_ifS ?_ | refine x_ch ?_ | refine x_tup ?_ | refine x_lst ?_ | refine ⟨_, rfl, ?_⟩ | refine ⟨_, md _, ?_⟩ | refine ⟨_, fd _, ?_⟩ | refine ⟨_, _, _, rfl, rfl, rfl, ?_⟩ | refine ⟨Nat.le_of_ble_eq_true rfl, ?_⟩); try dsimp only [wback, List.set, List.cons_append, List.nil_append])
  refine ⟨fun q => ?_, fun q => ?_⟩
  · (try dsimp only [wback, List.set, List.cons_append, List.nil_append])
    have hL : 0 < left := by simpa using q
    (repeat (first | refine x_op ?_ | refine x_oe rfl ?_ | refine x_v rfl ?_ | refine x_k ?_ | refine x_onil ?_ | refine x_ob rfl ?_ | refine z_set ?_ | refine z_ret ?_ | refine x_econs ?_ | refine x_enil ?_ | refine x_call ?_ | refine x_kcall ?_ | refine x_and ?_ | refine x_or ?_ | refine x_not ?_ | refine x_ite ?_ | refine x_isa rfl ?_ | refine x_isab rfl ?_ | refine x_optN ?_ | refine x_optS ?_ | refine x_sl rfl ?_ | refine x_slb rfl ?_ | refine x_dget rfl ?_ | refine x_dct ?_ | refine x_pd ?_ | refine x_rng ?_ | refine x_enm ?_ | refine x_zip ?_ | refine x_seq rfl ?_ | refine x_ifN ?_ | refine x_ifS ?_ | refine x_ch ?_ | refine z_retN ?_ | refine z_ex ?_ | refine z_pass ?_ | refine z_brk ?_ | refine z_cont ?_ | refine z_par ?_ | refine z_unp ?_ | refine z_setix ?_ | refine z_setk ?_ | refine z_unp2 ?_ | refine z_par3 ?_ | refine z_app rfl ?_ | refine z_ins rfl ?_ | refine x_tup ?_ | refine x_lst ?_ | refine ⟨_, rfl, ?_⟩ | refine ⟨_, md _, ?_⟩ | refine ⟨_, fd _, ?_⟩ | refine ⟨_, _, _, rfl, rfl, rfl, ?_⟩ | refine ⟨Nat.le_of_ble_eq_true rfl, ?_⟩); try dsimp only [wback, List.set, List.cons_append, List.nil_append])
    exact ⟨left % many, _, rfl, rfl, (lt left).1, (lt left).2, cells, pos, left / many, cnt + 1, rfl, a1, a2, Int.ediv_nonneg a3 (by omega), by omega, by omega⟩
  · (try dsimp only [wback, List.set, List.cons_append, List.nil_append])
    refine z_set (x_k ?_)
    (try dsimp only [wback, List.set, List.cons_append, List.nil_append])
    refine z_iteC (fun e => ∃ c : Int, e = [some (rd cells pos left (cnt + 1)), some (.int many), some (.int c), none, none]) ?_ ?_
    · (repeat (first | refine x_op ?_ | refine x_oe rfl ?_ | refine x_v rfl ?_ | refine x_k ?_ | refine x_onil ?_ | refine x_ob rfl ?_ | refine x_econs ?_ | refine x_enil ?_ | refine x_call ?_ | refine x_kcall ?_ | refine x_and ?_ | refine x_or ?_ | refine x_not ?_ | refine x_ite ?_ | refine x_isa rfl ?_ | refine x_isab rfl ?_ | refine x_optN ?_ | refine x_optS ?_ | refine x_sl rfl ?_ | refine x_slb rfl ?_ | refine x_dget rfl ?_ | refine x_dct ?_ | refine x_pd ?_ | refine x_rng ?_ | refine x_enm ?_ | refine x_zip ?_ | refine x_seq rfl ?_ | refine x_ifN ?_ | refine x_ifS ?_ | refine x_ch ?_ | refine x_tup ?_ | refine x_lst ?_ | refine ⟨_, rfl, ?_⟩ | refine ⟨_, md _, ?_⟩ | refine ⟨_, fd _, ?_⟩ | refine ⟨_, _, _, rfl, rfl, rfl, ?_⟩ | refine ⟨Nat.le_of_ble_eq_true rfl, ?_⟩); try dsimp only [wback, List.set, List.cons_append, List.nil_append])
      refine ⟨_, ne_ints, _, rfl, fun q => ?_, fun q => z_nil ⟨7, rfl⟩⟩
      obtain ⟨c, h1, h2⟩ := cell_at (cells := cells) (pos := pos) (by intro e; subst e; cases q)
      refine z_set ?_
      (repeat (first | refine x_op ?_ | refine x_oe rfl ?_ | refine x_v rfl ?_ | refine x_k ?_ | refine x_onil ?_ | refine x_ob rfl ?_ | refine x_econs ?_ | refine x_enil ?_ | refine x_call ?_ | refine x_kcall ?_ | refine x_and ?_ | refine x_or ?_ | refine x_not ?_ | refine x_ite ?_ | refine x_isa rfl ?_ | refine x_isab rfl ?_ | refine x_optN ?_ | refine x_optS ?_ | refine x_sl rfl ?_ | refine x_slb rfl ?_ | refine x_dget rfl ?_ | refine x_dct ?_ | refine x_pd ?_ | refine x_rng ?_ | refine x_enm ?_ | refine x_zip ?_ | refine x_seq rfl ?_ | refine x_ifN ?_ | refine x_ifS ?_ | refine x_ch ?_ | refine x_tup ?_ | refine x_lst ?_ | refine ⟨_, rfl, ?_⟩ | refine ⟨_, md _, ?_⟩ | refine ⟨_, fd _, ?_⟩ | refine ⟨_, _, _, rfl, rfl, rfl, ?_⟩ | refine ⟨Nat.le_of_ble_eq_true rfl, ?_⟩); try dsimp only [wback, List.set, List.cons_append, List.nil_append])
      refine ⟨_, h1, ?_⟩
      (repeat (first | refine x_op ?_ | refine x_oe rfl ?_ | refine x_v rfl ?_ | refine x_k ?_ | refine x_onil ?_ | refine x_ob rfl ?_ | refine x_econs ?_ | refine x_enil ?_ | refine x_call ?_ | refine x_kcall ?_ | refine x_and ?_ | refine x_or ?_ | refine x_not ?_ | refine x_ite ?_ | refine x_isa rfl ?_ | refine x_isab rfl ?_ | refine x_optN ?_ | refine x_optS ?_ | refine x_sl rfl ?_ | refine x_slb rfl ?_ | refine x_dget rfl ?_ | refine x_dct ?_ | refine x_pd ?_ | refine x_rng ?_ | refine x_enm ?_ | refine x_zip ?_ | refine x_seq rfl ?_ | refine x_ifN ?_ | refine x_ifS ?_ | refine x_ch ?_ | refine x_tup ?_ | refine x_lst ?_ | refine ⟨_, rfl, ?_⟩ | refine ⟨_, md _, ?_⟩ | refine ⟨_, fd _, ?_⟩ | refine ⟨_, _, _, rfl, rfl, rfl, ?_⟩ | refine ⟨Nat.le_of_ble_eq_true rfl, ?_⟩); try dsimp only [wback, List.set, List.cons_append, List.nil_append])
      refine ⟨_, h2, ?_⟩
      exact z_nil ⟨c, rfl⟩
    · rintro _ ⟨c, rfl⟩
      unfold rd
      refine z_setix ?_
      (repeat (first | refine x_op ?_ | refine x_oe rfl ?_ | refine x_v rfl ?_ | refine x_k ?_ | refine x_onil ?_ | refine x_ob rfl ?_ | refine x_econs ?_ | refine x_enil ?_ | refine x_call ?_ | refine x_kcall ?_ | refine x_and ?_ | refine x_or ?_ | refine x_not ?_ | refine x_ite ?_ | refine x_isa rfl ?_ | refine x_isab rfl ?_ | refine x_optN ?_ | refine x_optS ?_ | refine x_sl rfl ?_ | refine x_slb rfl ?_ | refine x_dget rfl ?_ | refine x_dct ?_ | refine x_pd ?_ | refine x_rng ?_ | refine x_enm ?_ | refine x_zip ?_ | refine x_seq rfl ?_ | refine x_ifN ?_ | refine x_ifS ?_ | refine x_ch ?_ | refine x_tup ?_ | refine x_lst ?_ | refine ⟨_, rfl, ?_⟩ | refine ⟨_, md _, ?_⟩ | refine ⟨_, fd _, ?_⟩ | refine ⟨_, _, _, rfl, rfl, rfl, ?_⟩ | refine ⟨Nat.le_of_ble_eq_true rfl, ?_⟩); try dsimp only [wback, List.set, List.cons_append, List.nil_append])
      refine z_ite ?_
      (repeat (first | refine x_op ?_ | refine x_oe rfl ?_ | refine x_v rfl ?_ | refine x_k ?_ | refine x_onil ?_ | refine x_ob rfl ?_ | refine z_set ?_ | refine z_ret ?_ | refine x_econs ?_ | refine x_enil ?_ | refine x_call ?_ | refine x_kcall ?_ | refine x_andB ?_ | refine x_orB ?_ | refine x_not ?_ | refine x_ite ?_ | refine x_isa rfl ?_ | refine x_isab rfl ?_ | refine x_optN ?_ | refine x_optS ?_ | refine x_sl rfl ?_ | refine x_slb rfl ?_ | refine x_dget rfl ?_ | refine x_dct ?_ | refine x_pd ?_ | refine x_rng ?_ | refine x_enm ?_ | refine x_zip ?_ | refine x_seq rfl ?_ | refine x_ifN ?_ | refine x_ifS ?_ | refine x_ch ?_ | refine z_retN ?_ | refine z_ex ?_ | refine z_pass ?_ | refine z_brk ?_ | refine z_cont ?_ | refine z_par ?_ | refine z_unp ?_ | refine z_setix ?_ | refine z_setk ?_ | refine z_unp2 ?_ | refine z_par3 ?_ | refine z_app rfl ?_ | refine z_ins rfl ?_ | refine x_tup ?_ | refine x_lst ?_ | refine ⟨_, rfl, rfl, ?_⟩ | refine ⟨_, rfl, ?_⟩ | refine ⟨_, md _, ?_⟩ | refine ⟨_, fd _, ?_⟩ | refine ⟨_, _, _, rfl, rfl, rfl, ?_⟩ | refine ⟨Nat.le_of_ble_eq_true rfl, ?_⟩); try dsimp only [wback, List.set, List.cons_append, List.nil_append])
      refine ⟨fun q2 => ?_, fun q2 => ?_⟩
      · (try dsimp only [wback, List.set, List.cons_append, List.nil_append])
        have hc0 : (10 : Int) ^ 18 ≤ c := by
          simp only [Bool.and_eq_true, decide_eq_true_eq] at q2; exact q2.1
        (repeat (first | refine x_op ?_ | refine x_oe rfl ?_ | refine x_v rfl ?_ | refine x_k ?_ | refine x_onil ?_ | refine x_ob rfl ?_ | refine z_set ?_ | refine z_ret ?_ | refine x_econs ?_ | refine x_enil ?_ | refine x_call ?_ | refine x_kcall ?_ | refine x_and ?_ | refine x_or ?_ | refine x_not ?_ | refine x_ite ?_ | refine x_isa rfl ?_ | refine x_isab rfl ?_ | refine x_optN ?_ | refine x_optS ?_ | refine x_sl rfl ?_ | refine x_slb rfl ?_ | refine x_dget rfl ?_ | refine x_dct ?_ | refine x_pd ?_ | refine x_rng ?_ | refine x_enm ?_ | refine x_zip ?_ | refine x_seq rfl ?_ | refine x_ifN ?_ | refine x_ifS ?_ | refine x_ch ?_ | refine z_retN ?_ | refine z_ex ?_ | refine z_pass ?_ | refine z_brk ?_ | refine z_cont ?_ | refine z_par ?_ | refine z_unp ?_ | refine z_setix ?_ | refine z_setk ?_ | refine z_unp2 ?_ | refine z_par3 ?_ | refine z_app rfl ?_ | refine z_ins rfl ?_ | refine x_tup ?_ | refine x_lst ?_ | refine ⟨_, rfl, ?_⟩ | refine ⟨_, md _, ?_⟩ | refine ⟨_, fd _, ?_⟩ | refine ⟨_, _, _, rfl, rfl, rfl, ?_⟩ | refine ⟨Nat.le_of_ble_eq_true rfl, ?_⟩); try dsimp only [wback, List.set, List.cons_append, List.nil_append])
        exact ⟨c % many, _, rfl, rfl, (lt c).1, (lt c).2, cells, pos + 1, c / many, cnt + 1, rfl, a1, by omega, Int.ediv_nonneg (by omega) (by omega), by omega, by omega⟩
      · (try dsimp only [wback, List.set, List.cons_append, List.nil_append])
        have b1 := Int.emod_nonneg c (show (2147483587 : Int) ≠ 0 by decide)
        have b2 := Int.emod_lt_of_pos c (show (0 : Int) < 2147483587 by decide)
        (repeat (first | refine x_op ?_ | refine x_oe rfl ?_ | refine x_v rfl ?_ | refine x_k ?_ | refine x_onil ?_ | refine x_ob rfl ?_ | refine z_set ?_ | refine z_ret ?_ | refine x_econs ?_ | refine x_enil ?_ | refine x_call ?_ | refine x_kcall ?_ | refine x_and ?_ | refine x_or ?_ | refine x_not ?_ | refine x_ite ?_ | refine x_isa rfl ?_ | refine x_isab rfl ?_ | refine x_optN ?_ | refine x_optS ?_ | refine x_sl rfl ?_ | refine x_slb rfl ?_ | refine x_dget rfl ?_ | refine x_dct ?_ | refine x_pd ?_ | refine x_rng ?_ | refine x_enm ?_ | refine x_zip ?_ | refine x_seq rfl ?_ | refine x_ifN ?_ | refine x_ifS ?_ | refine x_ch ?_ | refine z_retN ?_ | refine z_ex ?_ | refine z_pass ?_ | refine z_brk ?_ | refine z_cont ?_ | refine z_par ?_ | refine z_unp ?_ | refine z_setix ?_ | refine z_setk ?_ | refine z_unp2 ?_ | refine z_par3 ?_ | refine z_app rfl ?_ | refine z_ins rfl ?_ | refine x_tup ?_ | refine x_lst ?_ | refine ⟨_, rfl, ?_⟩ | refine ⟨_, md _, ?_⟩ | refine ⟨_, fd _, ?_⟩ | refine ⟨_, _, _, rfl, rfl, rfl, ?_⟩ | refine ⟨Nat.le_of_ble_eq_true rfl, ?_⟩); try dsimp only [wback, List.set, List.cons_append, List.nil_append])
        refine ⟨_, pw5 (by omega), ?_⟩
        refine x_oe rfl (x_k (x_onil ⟨_, rfl, ?_⟩))
        generalize hw : ((c % 2147483587 + 6949 * (cnt + 1) + 3) ^ 5 % 2147483629 : Int) = w
        have b3 : 0 ≤ w := by rw [← hw]; exact Int.emod_nonneg _ (by decide)
        have b4 : w < 2147483629 := by rw [← hw]; exact Int.emod_lt_of_pos _ (by decide)
        (repeat (first | refine x_op ?_ | refine x_oe rfl ?_ | refine x_v rfl ?_ | refine x_k ?_ | refine x_onil ?_ | refine x_ob rfl ?_ | refine z_set ?_ | refine z_ret ?_ | refine x_econs ?_ | refine x_enil ?_ | refine x_call ?_ | refine x_kcall ?_ | refine x_and ?_ | refine x_or ?_ | refine x_not ?_ | refine x_ite ?_ | refine x_isa rfl ?_ | refine x_isab rfl ?_ | refine x_optN ?_ | refine x_optS ?_ | refine x_sl rfl ?_ | refine x_slb rfl ?_ | refine x_dget rfl ?_ | refine x_dct ?_ | refine x_pd ?_ | refine x_rng ?_ | refine x_enm ?_ | refine x_zip ?_ | refine x_seq rfl ?_ | refine x_ifN ?_ | refine x_ifS ?_ | refine x_ch ?_ | refine z_retN ?_ | refine z_ex ?_ | refine z_pass ?_ | refine z_brk ?_ | refine z_cont ?_ | refine z_par ?_ | refine z_unp ?_ | refine z_setix ?_ | refine z_setk ?_ | refine z_unp2 ?_ | refine z_par3 ?_ | refine z_app rfl ?_ | refine z_ins rfl ?_ | refine x_tup ?_ | refine x_lst ?_ | refine ⟨_, rfl, ?_⟩ | refine ⟨_, md _, ?_⟩ | refine ⟨_, fd _, ?_⟩ | refine ⟨_, _, _, rfl, rfl, rfl, ?_⟩ | refine ⟨Nat.le_of_ble_eq_true rfl, ?_⟩); try dsimp only [wback, List.set, List.cons_append, List.nil_append])
        refine ⟨_, pw5 (by omega), ?_⟩
        (repeat (first | refine x_op ?_ | refine x_oe rfl ?_ | refine x_v rfl ?_ | refine x_k ?_ | refine x_onil ?_ | refine x_ob rfl ?_ | refine z_set ?_ | refine z_ret ?_ | refine x_econs ?_ | refine x_enil ?_ | refine x_call ?_ | refine x_kcall ?_ | refine x_and ?_ | refine x_or ?_ | refine x_not ?_ | refine x_ite ?_ | refine x_isa rfl ?_ | refine x_isab rfl ?_ | refine x_optN ?_ | refine x_optS ?_ | refine x_sl rfl ?_ | refine x_slb rfl ?_ | refine x_dget rfl ?_ | refine x_dct ?_ | refine x_pd ?_ | refine x_rng ?_ | refine x_enm ?_ | refine x_zip ?_ | refine x_seq rfl ?_ | refine x_ifN ?_ | refine x_ifS ?_ | refine x_ch ?_ | refine z_retN ?_ | refine z_ex ?_ | refine z_pass ?_ | refine z_brk ?_ | refine z_cont ?_ | refine z_par ?_ | refine z_unp ?_ | refine z_setix ?_ | refine z_setk ?_ | refine z_unp2 ?_ | refine z_par3 ?_ | refine z_app rfl ?_ | refine z_ins rfl ?_ | refine x_tup ?_ | refine x_lst ?_ | refine ⟨_, rfl, ?_⟩ | refine ⟨_, md _, ?_⟩ | refine ⟨_, fd _, ?_⟩ | refine ⟨_, _, _, rfl, rfl, rfl, ?_⟩ | refine ⟨Nat.le_of_ble_eq_true rfl, ?_⟩); try dsimp only [wback, List.set, List.cons_append, List.nil_append])
        exact ⟨_, _, rfl, rfl, (lt _).1, (lt _).2, cells, pos + 1, left, cnt + 1, rfl, a1, by omega, a3, by omega, by omega⟩
set_option maxHeartbeats 1000000 in
theorem subset_wk {f fD m : Nat} {r : PyData} {ps : List Str} {le : Int} (hf : fs[f]? = some (ksubset fD)) (hD : fs[fD]? = some kdraw) (hr : Rdr m r) (hm : m + 200 < 10 ^ 8) (hN : ∀ s ∈ ps, Nm s) (hA : ps.Nodup) (hl : ps.length ≤ 50) (h0 : 0 ≤ le) (h1 : le ≤ ps.length) :
    WK (callK fs fuel (k + 2)) f [r, .list (sds ps), .int le] fun d outs => ∃ ss r', d = .tuple (sds ss) ∧ outs = [some r', none, none] ∧ (∀ s ∈ ss, s ∈ ps) ∧ Asc ss ∧ le ≤ ss.length ∧ ss.length ≤ ps.length ∧ Rdr (m + 100) r' := by
  have hz := sz
  refine wk_of hf (by show (tyOk (.lst .par) r && _) = true; rw [rd_ty hr]; rfl) ?_
  dsimp only [ksubset]
  show WB _ _ _ [some r, some (.list (sds ps)), some (.int le), none, none] _
  refine z_set (x_comp (fun j ys e => ∃ (r' : PyData) (o : Option PyData) (fd : List Str), e = [some r', some (.list (sds ps)), some (.int le), none, o] ∧ ys = sds fd ∧ fd.Sublist (ps.take j) ∧ Rdr (m + j) r') ?_)
  refine x_seq rfl (x_v rfl ?_)
  refine ⟨_, rfl, by rw [List.length_map]; omega, ⟨r, none, [], rfl, rfl, List.nil_sublist _, hr⟩, fun j y hy ys e hI => ?_, fun ys e hI => ?_⟩
  · obtain ⟨r1, o, fd, rfl, rfl, hS, hr1⟩ := hI
    have hj := (List.getElem?_eq_some_iff.mp hy).1
    rw [List.length_map] at hj
    rw [List.getElem?_map, List.getElem?_eq_getElem hj] at hy
    cases hy
    have ht : ps.take (j + 1) = ps.take j ++ [ps[j]] := by rw [List.take_add_one, List.getElem?_eq_getElem hj]; rfl
    refine ⟨_, rfl, x_ifS ?_⟩
    (try dsimp only [wback, List.set, List.cons_append, List.nil_append])
    (repeat (first | refine x_op ?_ | refine x_oe rfl ?_ | refine x_v rfl ?_ | refine x_k ?_ | refine x_onil ?_ | refine x_ob rfl ?_ | refine x_econs ?_ | refine x_enil ?_ | refine x_call ?_ | refine x_kcall ?_ | refine x_and ?_ | refine x_or ?_ | refine x_not ?_ | refine x_ite ?_ | refine x_isa rfl ?_ | refine x_isab rfl ?_ | refine x_optN ?_ | refine x_optS ?_ | refine x_sl rfl ?_ | refine x_slb rfl ?_ | refine x_dget rfl ?_ | refine x_dct ?_ | refine x_pd ?_ | refine x_rng ?_ | refine x_enm ?_ | refine x_zip ?_ | refine x_seq rfl ?_ | refine x_ifN ?_ | refine x_ifS ?_ | refine x_ch ?_ | refine x_tup ?_ | refine x_lst ?_ | refine ⟨_, rfl, ?_⟩ | refine ⟨_, md _, ?_⟩ | refine ⟨_, fd _, ?_⟩ | refine ⟨_, _, _, rfl, rfl, rfl, ?_⟩ | refine ⟨Nat.le_of_ble_eq_true rfl, ?_⟩); try dsimp only [wback, List.set, List.cons_append, List.nil_append])
    refine (draw_wk (many := 2) hD hr1 (by omega) (by omega) (by omega)).mono ?_
    rintro _ _ ⟨v, r2, rfl, rfl, v0, v1, hr2⟩
    (try dsimp only [wback, List.set, List.cons_append, List.nil_append])
    refine x_oe rfl (x_k (x_onil ⟨_, (rfl : evOp .eq [.int v, .int 0] = some (.bool (decide (v = 0)))), _, rfl, fun _ => ?_, fun _ => ?_⟩))
    · refine x_v rfl ⟨r2, _, fd ++ [ps[j]], rfl, by simp [sds], ?_, by rw [← Nat.add_assoc]; exact hr2⟩
      rw [ht]
      exact hS.append (List.Sublist.refl _)
    · refine ⟨r2, _, fd, rfl, rfl, ?_, by rw [← Nat.add_assoc]; exact hr2⟩
      rw [ht]
      exact hS.trans (List.sublist_append_left _ _)
  · obtain ⟨r1, o, fd, rfl, rfl, hS, hr1⟩ := hI
    rw [List.length_map] at hr1 hS
    rw [List.take_length] at hS
    dsimp only [tgSlots, backE]
    (try dsimp only [wback, List.set, List.cons_append, List.nil_append])
    refine z_for (fun j e => ∃ (o : Option PyData) (fd : List Str), e = [some r1, some (.list (sds ps)), some (.int le), some (.list (sds fd)), o] ∧ (∀ s ∈ fd, s ∈ ps) ∧ fd.Nodup ∧ (le ≤ fd.length ∨ ∀ s ∈ ps.take j, s ∈ fd)) ?_
    refine x_seq rfl (x_v rfl ?_)
    refine ⟨_, rfl, ⟨_, fd, rfl, fun s hs => hS.subset hs, hS.nodup hA, .inr (by simp)⟩, fun j y hy e hI => ?_, fun e hI => ?_⟩
    · obtain ⟨o, fd, rfl, f1, f2, f3⟩ := hI
      have hj := (List.getElem?_eq_some_iff.mp hy).1
      rw [List.length_map] at hj
      rw [List.getElem?_map, List.getElem?_eq_getElem hj] at hy
      cases hy
      have ht : ps.take (j + 1) = ps.take j ++ [ps[j]] := by rw [List.take_add_one, List.getElem?_eq_getElem hj]; rfl
      have hpm := List.getElem_mem hj
      generalize ps[j] = p at ht hpm
      have fl : fd.length ≤ ps.length := nodup_le f2 f1
      refine ⟨_, rfl, ?_⟩
      (try dsimp only [wback, List.set, List.cons_append, List.nil_append])
      refine z_ite (x_and ?_)
      (repeat (first | refine x_op ?_ | refine x_oe rfl ?_ | refine x_v rfl ?_ | refine x_k ?_ | refine x_onil ?_ | refine x_ob rfl ?_ | refine z_set ?_ | refine z_ret ?_ | refine x_econs ?_ | refine x_enil ?_ | refine x_call ?_ | refine x_kcall ?_ | refine x_and ?_ | refine x_or ?_ | refine x_not ?_ | refine x_ite ?_ | refine x_isa rfl ?_ | refine x_isab rfl ?_ | refine x_optN ?_ | refine x_optS ?_ | refine x_sl rfl ?_ | refine x_slb rfl ?_ | refine x_dget rfl ?_ | refine x_dct ?_ | refine x_pd ?_ | refine x_rng ?_ | refine x_enm ?_ | refine x_zip ?_ | refine x_seq rfl ?_ | refine x_ifN ?_ | refine x_ifS ?_ | refine x_ch ?_ | refine z_retN ?_ | refine z_ex ?_ | refine z_pass ?_ | refine z_brk ?_ | refine z_cont ?_ | refine z_par ?_ | refine z_unp ?_ | refine z_setix ?_ | refine z_setk ?_ | refine z_unp2 ?_ | refine z_par3 ?_ | refine z_app rfl ?_ | refine z_ins rfl ?_ | refine x_tup ?_ | refine x_lst ?_); try dsimp only [wback, List.set, List.cons_append, List.nil_append])
      refine ⟨_, rfl, ?_⟩
      refine ⟨_, rfl, ?_⟩
      (repeat (first | refine x_op ?_ | refine x_oe rfl ?_ | refine x_v rfl ?_ | refine x_k ?_ | refine x_onil ?_ | refine x_ob rfl ?_ | refine z_set ?_ | refine z_ret ?_ | refine x_econs ?_ | refine x_enil ?_ | refine x_call ?_ | refine x_kcall ?_ | refine x_and ?_ | refine x_or ?_ | refine x_not ?_ | refine x_ite ?_ | refine x_isa rfl ?_ | refine x_isab rfl ?_ | refine x_optN ?_ | refine x_optS ?_ | refine x_sl rfl ?_ | refine x_slb rfl ?_ | refine x_dget rfl ?_ | refine x_dct ?_ | refine x_pd ?_ | refine x_rng ?_ | refine x_enm ?_ | refine x_zip ?_ | refine x_seq rfl ?_ | refine x_ifN ?_ | refine x_ifS ?_ | refine x_ch ?_ | refine z_retN ?_ | refine z_ex ?_ | refine z_pass ?_ | refine z_brk ?_ | refine z_cont ?_ | refine z_par ?_ | refine z_unp ?_ | refine z_setix ?_ | refine z_setk ?_ | refine z_unp2 ?_ | refine z_par3 ?_ | refine z_app rfl ?_ | refine z_ins rfl ?_ | refine x_tup ?_ | refine x_lst ?_); try dsimp only [wback, List.set, List.cons_append, List.nil_append])
      rw [List.length_map]
      refine ⟨_, (rfl : evOp .lt [.int (fd.length : Int), .int le] = some (.bool (decide ((fd.length : Int) < le)))), _, rfl, fun q => ?_, fun q => ⟨_, rfl, fun z => (by cases z), fun _ => ?_⟩⟩
      · (repeat (first | refine x_op ?_ | refine x_oe rfl ?_ | refine x_v rfl ?_ | refine x_k ?_ | refine x_onil ?_ | refine x_ob rfl ?_ | refine z_set ?_ | refine z_ret ?_ | refine x_econs ?_ | refine x_enil ?_ | refine x_call ?_ | refine x_kcall ?_ | refine x_and ?_ | refine x_or ?_ | refine x_not ?_ | refine x_ite ?_ | refine x_isa rfl ?_ | refine x_isab rfl ?_ | refine x_optN ?_ | refine x_optS ?_ | refine x_sl rfl ?_ | refine x_slb rfl ?_ | refine x_dget rfl ?_ | refine x_dct ?_ | refine x_pd ?_ | refine x_rng ?_ | refine x_enm ?_ | refine x_zip ?_ | refine x_seq rfl ?_ | refine x_ifN ?_ | refine x_ifS ?_ | refine x_ch ?_ | refine z_retN ?_ | refine z_ex ?_ | refine z_pass ?_ | refine z_brk ?_ | refine z_cont ?_ | refine z_par ?_ | refine z_unp ?_ | refine z_setix ?_ | refine z_setk ?_ | refine z_unp2 ?_ | refine z_par3 ?_ | refine z_app rfl ?_ | refine z_ins rfl ?_ | refine x_tup ?_ | refine x_lst ?_); try dsimp only [wback, List.set, List.cons_append, List.nil_append])
        refine ⟨_, rfl, _, notin_sdsL (fun s hs => hN s (f1 s hs)) (hN _ hpm), _, rfl, fun q2 => ?_, fun q2 => ?_⟩
        · refine z_app rfl (x_v rfl ⟨_, rfl, by rw [List.length_map]; omega, ?_⟩)
          (try dsimp only [wback, List.set, List.cons_append, List.nil_append])
          have np : p ∉ fd := fun h => by rw [List.contains_iff_mem.mpr h] at q2; cases q2
          refine z_nil ⟨some (.str p), fd ++ [p], by simp [sds], fun s hs => (List.mem_append.mp hs).elim (f1 s) fun z => by rw [List.mem_singleton.mp z]; exact hpm, ?_, ?_⟩
          · exact List.nodup_append.mpr ⟨f2, List.nodup_cons.mpr ⟨by simp, List.nodup_nil⟩, fun a ha b hb => by rw [List.mem_singleton.mp hb]; exact fun z => np (z ▸ ha)⟩
          · rcases f3 with h | h
            · have := of_decide_eq_true q; omega
            · exact .inr fun s hs => by
                rw [ht] at hs
                exact (List.mem_append.mp hs).elim (fun z => List.mem_append_left _ (h s z)) fun z => List.mem_append_right _ z
        · have ip : p ∈ fd := List.contains_iff_mem.mp (by simpa using q2)
          refine z_nil ⟨_, fd, rfl, f1, f2, ?_⟩
          rcases f3 with h | h
          · exact .inl h
          · exact .inr fun s hs => by
              rw [ht] at hs
              exact (List.mem_append.mp hs).elim (h s) fun z => by rw [List.mem_singleton.mp z]; exact ip
      · refine z_nil ⟨_, fd, rfl, f1, f2, .inl ?_⟩
        have := of_decide_eq_false q
        omega
    · obtain ⟨o, fd, rfl, f1, f2, f3⟩ := hI
      rw [List.length_map, List.take_length] at f3
      have fl : fd.length ≤ ps.length := nodup_le f2 f1
      have ge : le ≤ fd.length := by
        rcases f3 with h | h
        · exact h
        · have := nodup_le hA h
          omega
      (repeat (first | refine x_op ?_ | refine x_oe rfl ?_ | refine x_v rfl ?_ | refine x_k ?_ | refine x_onil ?_ | refine x_ob rfl ?_ | refine z_set ?_ | refine z_ret ?_ | refine x_econs ?_ | refine x_enil ?_ | refine x_call ?_ | refine x_kcall ?_ | refine x_and ?_ | refine x_or ?_ | refine x_not ?_ | refine x_ite ?_ | refine x_isa rfl ?_ | refine x_isab rfl ?_ | refine x_optN ?_ | refine x_optS ?_ | refine x_sl rfl ?_ | refine x_slb rfl ?_ | refine x_dget rfl ?_ | refine x_dct ?_ | refine x_pd ?_ | refine x_rng ?_ | refine x_enm ?_ | refine x_zip ?_ | refine x_seq rfl ?_ | refine x_ifN ?_ | refine x_ifS ?_ | refine x_ch ?_ | refine z_retN ?_ | refine z_ex ?_ | refine z_pass ?_ | refine z_brk ?_ | refine z_cont ?_ | refine z_par ?_ | refine z_unp ?_ | refine z_setix ?_ | refine z_setk ?_ | refine z_unp2 ?_ | refine z_par3 ?_ | refine z_app rfl ?_ | refine z_ins rfl ?_ | refine x_tup ?_ | refine x_lst ?_ | refine ⟨_, rfl, ?_⟩ | refine ⟨_, md _, ?_⟩ | refine ⟨_, fd _, ?_⟩ | refine ⟨_, _, _, rfl, rfl, rfl, ?_⟩ | refine ⟨Nat.le_of_ble_eq_true rfl, ?_⟩); try dsimp only [wback, List.set, List.cons_append, List.nil_append])
      refine ⟨_, srt_sds (fun s hs => hN s (f1 s hs)) (by omega), ?_⟩
      (repeat (first | refine x_op ?_ | refine x_oe rfl ?_ | refine x_v rfl ?_ | refine x_k ?_ | refine x_onil ?_ | refine x_ob rfl ?_ | refine z_set ?_ | refine z_ret ?_ | refine x_econs ?_ | refine x_enil ?_ | refine x_call ?_ | refine x_kcall ?_ | refine x_and ?_ | refine x_or ?_ | refine x_not ?_ | refine x_ite ?_ | refine x_isa rfl ?_ | refine x_isab rfl ?_ | refine x_optN ?_ | refine x_optS ?_ | refine x_sl rfl ?_ | refine x_slb rfl ?_ | refine x_dget rfl ?_ | refine x_dct ?_ | refine x_pd ?_ | refine x_rng ?_ | refine x_enm ?_ | refine x_zip ?_ | refine x_seq rfl ?_ | refine x_ifN ?_ | refine x_ifS ?_ | refine x_ch ?_ | refine z_retN ?_ | refine z_ex ?_ | refine z_pass ?_ | refine z_brk ?_ | refine z_cont ?_ | refine z_par ?_ | refine z_unp ?_ | refine z_setix ?_ | refine z_setk ?_ | refine z_unp2 ?_ | refine z_par3 ?_ | refine z_app rfl ?_ | refine z_ins rfl ?_ | refine x_tup ?_ | refine x_lst ?_ | refine ⟨_, rfl, ?_⟩ | refine ⟨_, md _, ?_⟩ | refine ⟨_, fd _, ?_⟩ | refine ⟨_, _, _, rfl, rfl, rfl, ?_⟩ | refine ⟨Nat.le_of_ble_eq_true rfl, ?_⟩); try dsimp only [wback, List.set, List.cons_append, List.nil_append])
      refine ⟨sortS fd, r1, rfl, rfl, fun s hs => f1 s (sortS_mem.mp hs), asc_sort f2 (rest := []) (by rw [List.append_nil]), by rw [sortS_len]; omega, by rw [sortS_len]; omega, hr1.mono (by omega)⟩
theorem who_nm {y : PyData} (h : y ∈ ([.str "ann", .str "bob", .str "cy", .str "eve", .str "zed"] : List PyData)) : ∃ w, y = .str w ∧ Nm w := by
  simp only [List.mem_cons, List.not_mem_nil, or_false] at h
  rcases h with rfl | rfl | rfl | rfl | rfl <;> exact ⟨_, rfl, by decide +kernel⟩
theorem bit2 {x : Int} (h0 : 0 ≤ x) (h1 : x < 2) : x = 0 ∨ x = 1 := by omega
set_option maxHeartbeats 2000000 in
theorem event_wk {f fD fS m : Nat} {r : PyData} {names : List Str} (hf : fs[f]? = some (kevent fD fS)) (hD : fs[fD]? = some kdraw) (hS : fs[fS]? = some (ksubset fD)) (hr : Rdr m r) (hm : m + 1000 < 10 ^ 8) (hN : ∀ s ∈ names, Nm s) (hA : Asc names) (hl : names.length ≤ 50) (h1 : 1 ≤ names.length) :
    WK (callK fs fuel (k + 3)) f [r, .list (sds names)] fun d outs => ∃ e r', d = Ev.d e ∧ outs = [some r', none] ∧ e.Ok names ∧ Rdr (m + 200) r' := by
  have hz := sz
  refine wk_of hf (by show (tyOk (.lst .par) r && _) = true; rw [rd_ty hr]; rfl) ?_
  dsimp only [kevent]
  show WB _ _ _ [some r, some (.list (sds names)), none, none, none, none, none] _
  refine z_par ?_
  (repeat (first | refine x_op ?_ | refine x_oe rfl ?_ | refine x_v rfl ?_ | refine x_k ?_ | refine x_onil ?_ | refine x_ob rfl ?_ | refine x_econs ?_ | refine x_enil ?_ | refine x_call ?_ | refine x_kcall ?_ | refine x_and ?_ | refine x_or ?_ | refine x_not ?_ | refine x_ite ?_ | refine x_isa rfl ?_ | refine x_isab rfl ?_ | refine x_optN ?_ | refine x_optS ?_ | refine x_sl rfl ?_ | refine x_slb rfl ?_ | refine x_dget rfl ?_ | refine x_dct ?_ | refine x_pd ?_ | refine x_rng ?_ | refine x_enm ?_ | refine x_zip ?_ | refine x_seq rfl ?_ | refine x_ifN ?_ | refine x_ifS ?_ | refine x_ch ?_ | refine x_tup ?_ | refine x_lst ?_ | refine ⟨_, rfl, ?_⟩ | refine ⟨_, md _, ?_⟩ | refine ⟨_, fd _, ?_⟩ | refine ⟨_, _, _, rfl, rfl, rfl, ?_⟩ | refine ⟨Nat.le_of_ble_eq_true rfl, ?_⟩); try dsimp only [wback, List.set, List.cons_append, List.nil_append])
  refine (draw_wk (many := 7) hD hr (by omega) (by omega) (by omega)).mono ?_
  rintro _ _ ⟨way, r1, rfl, rfl, w0, w1, hr1⟩
  (repeat (first | refine x_op ?_ | refine x_oe rfl ?_ | refine x_v rfl ?_ | refine x_k ?_ | refine x_onil ?_ | refine x_ob rfl ?_ | refine x_econs ?_ | refine x_enil ?_ | refine x_call ?_ | refine x_kcall ?_ | refine x_and ?_ | refine x_or ?_ | refine x_not ?_ | refine x_ite ?_ | refine x_isa rfl ?_ | refine x_isab rfl ?_ | refine x_optN ?_ | refine x_optS ?_ | refine x_sl rfl ?_ | refine x_slb rfl ?_ | refine x_dget rfl ?_ | refine x_dct ?_ | refine x_pd ?_ | refine x_rng ?_ | refine x_enm ?_ | refine x_zip ?_ | refine x_seq rfl ?_ | refine x_ifN ?_ | refine x_ifS ?_ | refine x_ch ?_ | refine x_tup ?_ | refine x_lst ?_ | refine ⟨_, rfl, ?_⟩ | refine ⟨_, md _, ?_⟩ | refine ⟨_, fd _, ?_⟩ | refine ⟨_, _, _, rfl, rfl, rfl, ?_⟩ | refine ⟨Nat.le_of_ble_eq_true rfl, ?_⟩); try dsimp only [wback, List.set, List.cons_append, List.nil_append])
  refine (draw_wk (many := 5) hD hr1 (by omega) (by omega) (by omega)).mono ?_
  rintro _ _ ⟨x, r2, rfl, rfl, x0, x1, hr2⟩
  obtain ⟨y, hy, ey⟩ := ix_lst_mem (L := [.str "ann", .str "bob", .str "cy", .str "eve", .str "zed"]) x0 (show x < ((5 : Nat) : Int) from x1)
  obtain ⟨w, rfl, hwN⟩ := who_nm hy
  refine x_onil ⟨_, ey, ?_⟩
  (try dsimp only [wback, List.set, List.cons_append, List.nil_append])
  refine z_par ?_
  (repeat (first | refine x_op ?_ | refine x_oe rfl ?_ | refine x_v rfl ?_ | refine x_k ?_ | refine x_onil ?_ | refine x_ob rfl ?_ | refine x_econs ?_ | refine x_enil ?_ | refine x_call ?_ | refine x_kcall ?_ | refine x_and ?_ | refine x_or ?_ | refine x_not ?_ | refine x_ite ?_ | refine x_isa rfl ?_ | refine x_isab rfl ?_ | refine x_optN ?_ | refine x_optS ?_ | refine x_sl rfl ?_ | refine x_slb rfl ?_ | refine x_dget rfl ?_ | refine x_dct ?_ | refine x_pd ?_ | refine x_rng ?_ | refine x_enm ?_ | refine x_zip ?_ | refine x_seq rfl ?_ | refine x_ifN ?_ | refine x_ifS ?_ | refine x_ch ?_ | refine x_tup ?_ | refine x_lst ?_ | refine ⟨_, rfl, ?_⟩ | refine ⟨_, md _, ?_⟩ | refine ⟨_, fd _, ?_⟩ | refine ⟨_, _, _, rfl, rfl, rfl, ?_⟩ | refine ⟨Nat.le_of_ble_eq_true rfl, ?_⟩); try dsimp only [wback, List.set, List.cons_append, List.nil_append])
  refine (draw_wk (many := ((sds names).length : Int)) hD hr2 (by omega) (by rw [List.length_map]; omega) (by rw [List.length_map]; omega)).mono ?_
  rintro _ _ ⟨x, r3, rfl, rfl, x0, x1, hr3⟩
  obtain ⟨y, hy, ey⟩ := ix_lst_mem (L := sds names) x0 x1
  obtain ⟨one, ho, rfl⟩ := List.mem_map.mp hy
  have hoN := hN _ ho
  refine x_onil ⟨_, ey, ?_⟩
  (repeat (first | refine x_op ?_ | refine x_oe rfl ?_ | refine x_v rfl ?_ | refine x_k ?_ | refine x_onil ?_ | refine x_ob rfl ?_ | refine x_econs ?_ | refine x_enil ?_ | refine x_call ?_ | refine x_kcall ?_ | refine x_and ?_ | refine x_or ?_ | refine x_not ?_ | refine x_ite ?_ | refine x_isa rfl ?_ | refine x_isab rfl ?_ | refine x_optN ?_ | refine x_optS ?_ | refine x_sl rfl ?_ | refine x_slb rfl ?_ | refine x_dget rfl ?_ | refine x_dct ?_ | refine x_pd ?_ | refine x_rng ?_ | refine x_enm ?_ | refine x_zip ?_ | refine x_seq rfl ?_ | refine x_ifN ?_ | refine x_ifS ?_ | refine x_ch ?_ | refine x_tup ?_ | refine x_lst ?_ | refine ⟨_, rfl, ?_⟩ | refine ⟨_, md _, ?_⟩ | refine ⟨_, fd _, ?_⟩ | refine ⟨_, _, _, rfl, rfl, rfl, ?_⟩ | refine ⟨Nat.le_of_ble_eq_true rfl, ?_⟩); try dsimp only [wback, List.set, List.cons_append, List.nil_append])
  refine (draw_wk (many := 2) hD hr3 (by omega) (by omega) (by omega)).mono ?_
  rintro _ _ ⟨mk, r4, rfl, rfl, m0, m1, hr4⟩
  (try dsimp only [wback, List.set, List.cons_append, List.nil_append])
  refine z_ite (x_andB ?_)
  (repeat (first | refine x_op ?_ | refine x_oe rfl ?_ | refine x_v rfl ?_ | refine x_k ?_ | refine x_onil ?_ | refine x_ob rfl ?_ | refine z_set ?_ | refine z_ret ?_ | refine x_econs ?_ | refine x_enil ?_ | refine x_call ?_ | refine x_kcall ?_ | refine x_and ?_ | refine x_or ?_ | refine x_not ?_ | refine x_ite ?_ | refine x_isa rfl ?_ | refine x_isab rfl ?_ | refine x_optN ?_ | refine x_optS ?_ | refine x_sl rfl ?_ | refine x_slb rfl ?_ | refine x_dget rfl ?_ | refine x_dct ?_ | refine x_pd ?_ | refine x_rng ?_ | refine x_enm ?_ | refine x_zip ?_ | refine x_seq rfl ?_ | refine x_ifN ?_ | refine x_ifS ?_ | refine x_ch ?_ | refine z_retN ?_ | refine z_ex ?_ | refine z_pass ?_ | refine z_brk ?_ | refine z_cont ?_ | refine z_par ?_ | refine z_unp ?_ | refine z_setix ?_ | refine z_setk ?_ | refine z_unp2 ?_ | refine z_par3 ?_ | refine z_app rfl ?_ | refine z_ins rfl ?_ | refine x_tup ?_ | refine x_lst ?_); try dsimp only [wback, List.set, List.cons_append, List.nil_append])
  refine ⟨_, (rfl : evOp .lt [.int way, .int 3] = some (.bool (decide (way < 3)))), _, rfl, ?_⟩
  (repeat (first | refine x_op ?_ | refine x_oe rfl ?_ | refine x_v rfl ?_ | refine x_k ?_ | refine x_onil ?_ | refine x_ob rfl ?_ | refine z_set ?_ | refine z_ret ?_ | refine x_econs ?_ | refine x_enil ?_ | refine x_call ?_ | refine x_kcall ?_ | refine x_and ?_ | refine x_or ?_ | refine x_not ?_ | refine x_ite ?_ | refine x_isa rfl ?_ | refine x_isab rfl ?_ | refine x_optN ?_ | refine x_optS ?_ | refine x_sl rfl ?_ | refine x_slb rfl ?_ | refine x_dget rfl ?_ | refine x_dct ?_ | refine x_pd ?_ | refine x_rng ?_ | refine x_enm ?_ | refine x_zip ?_ | refine x_seq rfl ?_ | refine x_ifN ?_ | refine x_ifS ?_ | refine x_ch ?_ | refine z_retN ?_ | refine z_ex ?_ | refine z_pass ?_ | refine z_brk ?_ | refine z_cont ?_ | refine z_par ?_ | refine z_unp ?_ | refine z_setix ?_ | refine z_setk ?_ | refine z_unp2 ?_ | refine z_par3 ?_ | refine z_app rfl ?_ | refine z_ins rfl ?_ | refine x_tup ?_ | refine x_lst ?_); try dsimp only [wback, List.set, List.cons_append, List.nil_append])
  refine ⟨_, rfl, ?_⟩
  (repeat (first | refine x_op ?_ | refine x_oe rfl ?_ | refine x_v rfl ?_ | refine x_k ?_ | refine x_onil ?_ | refine x_ob rfl ?_ | refine z_set ?_ | refine z_ret ?_ | refine x_econs ?_ | refine x_enil ?_ | refine x_call ?_ | refine x_kcall ?_ | refine x_and ?_ | refine x_or ?_ | refine x_not ?_ | refine x_ite ?_ | refine x_isa rfl ?_ | refine x_isab rfl ?_ | refine x_optN ?_ | refine x_optS ?_ | refine x_sl rfl ?_ | refine x_slb rfl ?_ | refine x_dget rfl ?_ | refine x_dct ?_ | refine x_pd ?_ | refine x_rng ?_ | refine x_enm ?_ | refine x_zip ?_ | refine x_seq rfl ?_ | refine x_ifN ?_ | refine x_ifS ?_ | refine x_ch ?_ | refine z_retN ?_ | refine z_ex ?_ | refine z_pass ?_ | refine z_brk ?_ | refine z_cont ?_ | refine z_par ?_ | refine z_unp ?_ | refine z_setix ?_ | refine z_setk ?_ | refine z_unp2 ?_ | refine z_par3 ?_ | refine z_app rfl ?_ | refine z_ins rfl ?_ | refine x_tup ?_ | refine x_lst ?_); try dsimp only [wback, List.set, List.cons_append, List.nil_append])
  rw [List.length_map]
  refine ⟨_, (rfl : evOp .gt [.int (names.length : Int), .int 1] = some (.bool (decide ((1 : Int) < (names.length : Int))))), _, rfl, rfl, _, rfl, fun q => ?_, fun q => ?_⟩
  · have hl2 : (2 : Int) ≤ names.length := by
      simp only [Bool.and_eq_true, decide_eq_true_eq] at q; omega
    (try dsimp only [wback, List.set, List.cons_append, List.nil_append])
    refine z_ret (x_tup (x_econs (x_k (x_econs (x_v rfl (x_econs ?_))))))
    (repeat (first | refine x_op ?_ | refine x_oe rfl ?_ | refine x_v rfl ?_ | refine x_k ?_ | refine x_onil ?_ | refine x_ob rfl ?_ | refine x_econs ?_ | refine x_enil ?_ | refine x_call ?_ | refine x_kcall ?_ | refine x_and ?_ | refine x_or ?_ | refine x_not ?_ | refine x_ite ?_ | refine x_isa rfl ?_ | refine x_isab rfl ?_ | refine x_optN ?_ | refine x_optS ?_ | refine x_sl rfl ?_ | refine x_slb rfl ?_ | refine x_dget rfl ?_ | refine x_dct ?_ | refine x_pd ?_ | refine x_rng ?_ | refine x_enm ?_ | refine x_zip ?_ | refine x_seq rfl ?_ | refine x_ifN ?_ | refine x_ifS ?_ | refine x_ch ?_ | refine x_tup ?_ | refine x_lst ?_ | refine ⟨_, rfl, ?_⟩ | refine ⟨_, md _, ?_⟩ | refine ⟨_, fd _, ?_⟩ | refine ⟨_, _, _, rfl, rfl, rfl, ?_⟩ | refine ⟨Nat.le_of_ble_eq_true rfl, ?_⟩); try dsimp only [wback, List.set, List.cons_append, List.nil_append])
    refine (subset_wk hS hD hr4 (by omega) hN hA.2 hl (by omega) hl2).mono ?_
    rintro _ _ ⟨ss, r5, rfl, rfl, s1, s2, s3, s4, hr5⟩
    refine x_enil ⟨Nat.le_of_ble_eq_true rfl, ?_⟩
    exact ⟨_, rfl, .mix w ss, r5, rfl, rfl, ⟨hwN, s1, s2, by omega, s4⟩, hr5.mono (by omega)⟩
  · (try dsimp only [wback, List.set, List.cons_append, List.nil_append])
    refine z_ite ?_
    (repeat (first | refine x_op ?_ | refine x_oe rfl ?_ | refine x_v rfl ?_ | refine x_k ?_ | refine x_onil ?_ | refine x_ob rfl ?_ | refine z_set ?_ | refine z_ret ?_ | refine x_econs ?_ | refine x_enil ?_ | refine x_call ?_ | refine x_kcall ?_ | refine x_and ?_ | refine x_or ?_ | refine x_not ?_ | refine x_ite ?_ | refine x_isa rfl ?_ | refine x_isab rfl ?_ | refine x_optN ?_ | refine x_optS ?_ | refine x_sl rfl ?_ | refine x_slb rfl ?_ | refine x_dget rfl ?_ | refine x_dct ?_ | refine x_pd ?_ | refine x_rng ?_ | refine x_enm ?_ | refine x_zip ?_ | refine x_seq rfl ?_ | refine x_ifN ?_ | refine x_ifS ?_ | refine x_ch ?_ | refine z_retN ?_ | refine z_ex ?_ | refine z_pass ?_ | refine z_brk ?_ | refine z_cont ?_ | refine z_par ?_ | refine z_unp ?_ | refine z_setix ?_ | refine z_setk ?_ | refine z_unp2 ?_ | refine z_par3 ?_ | refine z_app rfl ?_ | refine z_ins rfl ?_ | refine x_tup ?_ | refine x_lst ?_); try dsimp only [wback, List.set, List.cons_append, List.nil_append])
    refine ⟨_, (rfl : evOp .lt [.int way, .int 4] = some (.bool (decide (way < 4)))), _, rfl, fun _ => ?_, fun _ => ?_⟩
    · (try dsimp only [wback, List.set, List.cons_append, List.nil_append])
      refine z_ret (x_tup (x_econs (x_k (x_econs (x_v rfl (x_econs (x_op (x_oe rfl (x_lst ?_)))))))))
      refine x_econs (x_v rfl (x_econs (x_k (x_enil ⟨Nat.le_of_ble_eq_true rfl, ?_⟩))))
      (repeat (first | refine x_op ?_ | refine x_oe rfl ?_ | refine x_v rfl ?_ | refine x_k ?_ | refine x_onil ?_ | refine x_ob rfl ?_ | refine x_econs ?_ | refine x_enil ?_ | refine x_call ?_ | refine x_kcall ?_ | refine x_and ?_ | refine x_or ?_ | refine x_not ?_ | refine x_ite ?_ | refine x_isa rfl ?_ | refine x_isab rfl ?_ | refine x_optN ?_ | refine x_optS ?_ | refine x_sl rfl ?_ | refine x_slb rfl ?_ | refine x_dget rfl ?_ | refine x_dct ?_ | refine x_pd ?_ | refine x_rng ?_ | refine x_enm ?_ | refine x_zip ?_ | refine x_seq rfl ?_ | refine x_ifN ?_ | refine x_ifS ?_ | refine x_ch ?_ | refine x_tup ?_ | refine x_lst ?_ | refine ⟨_, rfl, ?_⟩ | refine ⟨_, md _, ?_⟩ | refine ⟨_, fd _, ?_⟩ | refine ⟨_, _, _, rfl, rfl, rfl, ?_⟩ | refine ⟨Nat.le_of_ble_eq_true rfl, ?_⟩); try dsimp only [wback, List.set, List.cons_append, List.nil_append])
      refine (draw_wk (many := 2) hD hr4 (by omega) (by omega) (by omega)).mono ?_
      rintro _ _ ⟨x, r5, rfl, rfl, x0, x1, hr5⟩
      rcases bit2 x0 x1 with rfl | rfl
      · refine x_onil ⟨_, rfl, x_enil ⟨Nat.le_of_ble_eq_true rfl, ?_⟩⟩
        exact ⟨_, rfl, .new one (some mk), r5, rfl, rfl, ⟨ho, bit2 m0 m1⟩, hr5.mono (by omega)⟩
      · refine x_onil ⟨_, rfl, x_enil ⟨Nat.le_of_ble_eq_true rfl, ?_⟩⟩
        exact ⟨_, rfl, .new one none, r5, rfl, rfl, ⟨ho, trivial⟩, hr5.mono (by omega)⟩
    · (try dsimp only [wback, List.set, List.cons_append, List.nil_append])
      refine z_ite ?_
      (repeat (first | refine x_op ?_ | refine x_oe rfl ?_ | refine x_v rfl ?_ | refine x_k ?_ | refine x_onil ?_ | refine x_ob rfl ?_ | refine z_set ?_ | refine z_ret ?_ | refine x_econs ?_ | refine x_enil ?_ | refine x_call ?_ | refine x_kcall ?_ | refine x_and ?_ | refine x_or ?_ | refine x_not ?_ | refine x_ite ?_ | refine x_isa rfl ?_ | refine x_isab rfl ?_ | refine x_optN ?_ | refine x_optS ?_ | refine x_sl rfl ?_ | refine x_slb rfl ?_ | refine x_dget rfl ?_ | refine x_dct ?_ | refine x_pd ?_ | refine x_rng ?_ | refine x_enm ?_ | refine x_zip ?_ | refine x_seq rfl ?_ | refine x_ifN ?_ | refine x_ifS ?_ | refine x_ch ?_ | refine z_retN ?_ | refine z_ex ?_ | refine z_pass ?_ | refine z_brk ?_ | refine z_cont ?_ | refine z_par ?_ | refine z_unp ?_ | refine z_setix ?_ | refine z_setk ?_ | refine z_unp2 ?_ | refine z_par3 ?_ | refine z_app rfl ?_ | refine z_ins rfl ?_ | refine x_tup ?_ | refine x_lst ?_); try dsimp only [wback, List.set, List.cons_append, List.nil_append])
      refine ⟨_, (rfl : evOp .lt [.int way, .int 5] = some (.bool (decide (way < 5)))), _, rfl, fun _ => ?_, fun _ => ?_⟩
      · (try dsimp only [wback, List.set, List.cons_append, List.nil_append])
        refine z_ret (x_tup (x_econs (x_k (x_econs (x_v rfl (x_econs (x_v rfl (x_econs (x_v rfl (x_enil ⟨Nat.le_of_ble_eq_true rfl, ?_⟩))))))))))
        exact ⟨_, rfl, .look w one mk, r4, rfl, rfl, ⟨hwN, ho, bit2 m0 m1⟩, hr4.mono (by omega)⟩
      · (try dsimp only [wback, List.set, List.cons_append, List.nil_append])
        refine z_set ?_
        (repeat (first | refine x_op ?_ | refine x_oe rfl ?_ | refine x_v rfl ?_ | refine x_k ?_ | refine x_onil ?_ | refine x_ob rfl ?_ | refine x_econs ?_ | refine x_enil ?_ | refine x_call ?_ | refine x_kcall ?_ | refine x_and ?_ | refine x_or ?_ | refine x_not ?_ | refine x_ite ?_ | refine x_isa rfl ?_ | refine x_isab rfl ?_ | refine x_optN ?_ | refine x_optS ?_ | refine x_sl rfl ?_ | refine x_slb rfl ?_ | refine x_dget rfl ?_ | refine x_dct ?_ | refine x_pd ?_ | refine x_rng ?_ | refine x_enm ?_ | refine x_zip ?_ | refine x_seq rfl ?_ | refine x_ifN ?_ | refine x_ifS ?_ | refine x_ch ?_ | refine x_tup ?_ | refine x_lst ?_ | refine ⟨_, rfl, ?_⟩ | refine ⟨_, md _, ?_⟩ | refine ⟨_, fd _, ?_⟩ | refine ⟨_, _, _, rfl, rfl, rfl, ?_⟩ | refine ⟨Nat.le_of_ble_eq_true rfl, ?_⟩); try dsimp only [wback, List.set, List.cons_append, List.nil_append])
        refine (subset_wk hS hD hr4 (by omega) hN hA.2 hl (by omega) (by omega)).mono ?_
        rintro _ _ ⟨ss, r5, rfl, rfl, s1, s2, s3, s4, hr5⟩
        (try dsimp only [wback, List.set, List.cons_append, List.nil_append])
        refine z_ret (x_tup (x_econs (x_k (x_econs (x_v rfl (x_econs (x_v rfl (x_econs ?_))))))))
        (repeat (first | refine x_op ?_ | refine x_oe rfl ?_ | refine x_v rfl ?_ | refine x_k ?_ | refine x_onil ?_ | refine x_ob rfl ?_ | refine x_econs ?_ | refine x_enil ?_ | refine x_call ?_ | refine x_kcall ?_ | refine x_and ?_ | refine x_or ?_ | refine x_not ?_ | refine x_ite ?_ | refine x_isa rfl ?_ | refine x_isab rfl ?_ | refine x_optN ?_ | refine x_optS ?_ | refine x_sl rfl ?_ | refine x_slb rfl ?_ | refine x_dget rfl ?_ | refine x_dct ?_ | refine x_pd ?_ | refine x_rng ?_ | refine x_enm ?_ | refine x_zip ?_ | refine x_seq rfl ?_ | refine x_ifN ?_ | refine x_ifS ?_ | refine x_ch ?_ | refine x_tup ?_ | refine x_lst ?_ | refine ⟨_, rfl, ?_⟩ | refine ⟨_, md _, ?_⟩ | refine ⟨_, fd _, ?_⟩ | refine ⟨_, _, _, rfl, rfl, rfl, ?_⟩ | refine ⟨Nat.le_of_ble_eq_true rfl, ?_⟩); try dsimp only [wback, List.set, List.cons_append, List.nil_append])
        refine (draw_wk (many := ((sds ss).length : Int) + 1) hD hr5 (by omega) (by omega) (by rw [List.length_map]; omega)).mono ?_
        rintro _ _ ⟨n, r6, rfl, rfl, n0, n1, hr6⟩
        rw [List.length_map] at n1
        refine x_enil ⟨Nat.le_of_ble_eq_true rfl, ?_⟩
        exact ⟨_, rfl, .pour w ss n, r6, rfl, rfl, ⟨hwN, s1, s2, by omega, n0, by omega, s4⟩, hr6.mono (by omega)⟩
def pool7 : List Str := ["a", "b", "c", "d", "e", "lot", "zzzzzzzz"]
theorem pool_nm : ∀ s ∈ pool7, Nm s := by decide +kernel
theorem pool_nd : pool7.Nodup := by decide +kernel
abbrev pD (p : Str × Option Int) : PyData := .tuple [.str p.1, mkD p.2]
set_option maxHeartbeats 2000000 in
theorem history_wk {f fD fE fS m : Nat} {r : PyData} {mp me : Int} (hf : fs[f]? = some (khistory fD fE)) (hD : fs[fD]? = some kdraw) (hE : fs[fE]? = some (kevent fD fS)) (hS : fs[fS]? = some (ksubset fD)) (hr : Rdr m r) (hm : m + 20000 < 10 ^ 8) (p1 : 1 ≤ mp) (p2 : mp ≤ 7) (e1 : 0 ≤ me) (e2 : me ≤ 30) :
    WK (callK fs fuel (k + 4)) f [r, .int mp, .int me] fun d outs => ∃ h r', d = Hist.d h ∧ outs = [some r', none, none] ∧ h.Ok ∧ (h.evs.length : Int) ≤ me ∧ 1 ≤ h.names.length ∧ (h.names.length : Int) ≤ mp ∧ (∀ s ∈ h.names, s ∈ pool7) ∧ Rdr (m + 10000) r' := by
  have hz := sz
  refine wk_of hf (by show (tyOk (.lst .par) r && _) = true; rw [rd_ty hr]; rfl) ?_
  dsimp only [khistory]
  show WB _ _ _ [some r, some (.int mp), some (.int me), none, none, none, none, none] _
  refine z_set ?_
  (repeat (first | refine x_op ?_ | refine x_oe rfl ?_ | refine x_v rfl ?_ | refine x_k ?_ | refine x_onil ?_ | refine x_ob rfl ?_ | refine x_econs ?_ | refine x_enil ?_ | refine x_call ?_ | refine x_kcall ?_ | refine x_and ?_ | refine x_or ?_ | refine x_not ?_ | refine x_ite ?_ | refine x_isa rfl ?_ | refine x_isab rfl ?_ | refine x_optN ?_ | refine x_optS ?_ | refine x_sl rfl ?_ | refine x_slb rfl ?_ | refine x_dget rfl ?_ | refine x_dct ?_ | refine x_pd ?_ | refine x_rng ?_ | refine x_enm ?_ | refine x_zip ?_ | refine x_seq rfl ?_ | refine x_ifN ?_ | refine x_ifS ?_ | refine x_ch ?_ | refine x_tup ?_ | refine x_lst ?_ | refine ⟨_, rfl, ?_⟩ | refine ⟨_, md _, ?_⟩ | refine ⟨_, fd _, ?_⟩ | refine ⟨_, _, _, rfl, rfl, rfl, ?_⟩ | refine ⟨Nat.le_of_ble_eq_true rfl, ?_⟩); try dsimp only [wback, List.set, List.cons_append, List.nil_append])
  -- the names
  refine z_set (x_op (x_oe rfl (x_comp (fun j ys e => ∃ (r' : PyData) (o : Option PyData) (lf fd : List Str), e = [some r', some (.int mp), some (.int me), some (.list (sds lf)), none, none, o, none] ∧ ys = sds fd ∧ (fd ++ lf).Perm pool7 ∧ fd.length = j ∧ Rdr (m + 1 + j) r') ?_)))
  (repeat (first | refine x_op ?_ | refine x_oe rfl ?_ | refine x_v rfl ?_ | refine x_k ?_ | refine x_onil ?_ | refine x_ob rfl ?_ | refine x_econs ?_ | refine x_enil ?_ | refine x_call ?_ | refine x_kcall ?_ | refine x_and ?_ | refine x_or ?_ | refine x_not ?_ | refine x_ite ?_ | refine x_isa rfl ?_ | refine x_isab rfl ?_ | refine x_optN ?_ | refine x_optS ?_ | refine x_sl rfl ?_ | refine x_slb rfl ?_ | refine x_dget rfl ?_ | refine x_dct ?_ | refine x_pd ?_ | refine x_rng ?_ | refine x_enm ?_ | refine x_zip ?_ | refine x_seq rfl ?_ | refine x_ifN ?_ | refine x_ifS ?_ | refine x_ch ?_ | refine x_tup ?_ | refine x_lst ?_ | refine ⟨_, rfl, ?_⟩ | refine ⟨_, md _, ?_⟩ | refine ⟨_, fd _, ?_⟩ | refine ⟨_, _, _, rfl, rfl, rfl, ?_⟩ | refine ⟨Nat.le_of_ble_eq_true rfl, ?_⟩); try dsimp only [wback, List.set, List.cons_append, List.nil_append])
  refine (draw_wk (many := mp) hD hr (by omega) (by omega) (by omega)).mono ?_
  rintro _ _ ⟨x, r1, rfl, rfl, x0, x1, hr1⟩
  (repeat (first | refine x_op ?_ | refine x_oe rfl ?_ | refine x_v rfl ?_ | refine x_k ?_ | refine x_onil ?_ | refine x_ob rfl ?_ | refine x_econs ?_ | refine x_enil ?_ | refine x_call ?_ | refine x_kcall ?_ | refine x_and ?_ | refine x_or ?_ | refine x_not ?_ | refine x_ite ?_ | refine x_isa rfl ?_ | refine x_isab rfl ?_ | refine x_optN ?_ | refine x_optS ?_ | refine x_sl rfl ?_ | refine x_slb rfl ?_ | refine x_dget rfl ?_ | refine x_dct ?_ | refine x_pd ?_ | refine x_rng ?_ | refine x_enm ?_ | refine x_zip ?_ | refine x_seq rfl ?_ | refine x_ifN ?_ | refine x_ifS ?_ | refine x_ch ?_ | refine x_tup ?_ | refine x_lst ?_ | refine ⟨_, rfl, ?_⟩ | refine ⟨_, md _, ?_⟩ | refine ⟨_, fd _, ?_⟩ | refine ⟨_, _, _, rfl, rfl, rfl, ?_⟩ | refine ⟨Nat.le_of_ble_eq_true rfl, ?_⟩); try dsimp only [wback, List.set, List.cons_append, List.nil_append])
  obtain ⟨n, hn0, hn1, hn2⟩ : ∃ n : Nat, (1 : Int) + x = (n : Int) ∧ 1 ≤ n ∧ (n : Int) ≤ mp := ⟨(1 + x).toNat, by omega, by omega, by omega⟩
  rw [hn0]
  refine ⟨_, rng1 (by omega) (by omega), by rw [List.length_map, List.length_range]; omega, ⟨r1, none, pool7, [], rfl, rfl, .refl _, rfl, hr1⟩, fun j y hy ys e hI => ?_, fun ys e hI => ?_⟩
  · obtain ⟨r2, o, lf, fd, rfl, rfl, hP, hj, hr2⟩ := hI
    have hj2 : j < n := by
      have := (List.getElem?_eq_some_iff.mp hy).1
      simpa using this
    have hlen := hP.length_eq
    rw [List.length_append] at hlen
    have h7 : pool7.length = 7 := rfl
    refine ⟨_, rfl, x_ifN ⟨fun _ => ?_, fun q => (by cases q)⟩⟩
    (try dsimp only [wback, List.set, List.cons_append, List.nil_append])
    refine x_pop rfl ?_
    (repeat (first | refine x_op ?_ | refine x_oe rfl ?_ | refine x_v rfl ?_ | refine x_k ?_ | refine x_onil ?_ | refine x_ob rfl ?_ | refine x_econs ?_ | refine x_enil ?_ | refine x_call ?_ | refine x_kcall ?_ | refine x_and ?_ | refine x_or ?_ | refine x_not ?_ | refine x_ite ?_ | refine x_isa rfl ?_ | refine x_isab rfl ?_ | refine x_optN ?_ | refine x_optS ?_ | refine x_sl rfl ?_ | refine x_slb rfl ?_ | refine x_dget rfl ?_ | refine x_dct ?_ | refine x_pd ?_ | refine x_rng ?_ | refine x_enm ?_ | refine x_zip ?_ | refine x_seq rfl ?_ | refine x_ifN ?_ | refine x_ifS ?_ | refine x_ch ?_ | refine x_tup ?_ | refine x_lst ?_ | refine ⟨_, rfl, ?_⟩ | refine ⟨_, md _, ?_⟩ | refine ⟨_, fd _, ?_⟩ | refine ⟨_, _, _, rfl, rfl, rfl, ?_⟩ | refine ⟨Nat.le_of_ble_eq_true rfl, ?_⟩); try dsimp only [wback, List.set, List.cons_append, List.nil_append])
    refine (draw_wk (many := ((sds lf).length : Int)) hD hr2 (by omega) (by rw [List.length_map]; omega) (by rw [List.length_map]; omega)).mono ?_
    rintro _ _ ⟨v, r3, rfl, rfl, v0, v1, hr3⟩
    obtain ⟨i, rfl, hi⟩ := toNat_of v0 v1
    rw [List.length_map] at hi
    refine ⟨sds lf, (i : Int), i, .str lf[i], rfl, rfl, by rw [List.length_map]; omega, ixN_nat (by rw [List.length_map]; exact hi), by rw [List.getElem?_map, List.getElem?_eq_getElem hi]; rfl, ?_⟩
    (try dsimp only [wback, List.set, List.cons_append, List.nil_append])
    refine ⟨r3, some y, lf.eraseIdx i, fd ++ [lf[i]], by rw [sds_erase]; rfl, by simp [sds], ?_, by simp [hj], by rw [← Nat.add_assoc]; exact hr3⟩
    rw [List.append_assoc]
    exact (List.Perm.append_left fd (erase_perm hi)).trans hP
  · obtain ⟨r2, o, lf, fd, rfl, rfl, hP, hj, hr2⟩ := hI
    rw [List.length_map, List.length_range] at hj hr2
    have hj : fd.length = n := by simpa using hj
    have hr2 : Rdr (m + 1 + n) r2 := by simpa using hr2
    dsimp only [tgSlots, backE]
    have hfm : ∀ s ∈ fd, s ∈ pool7 := fun s hs => hP.mem_iff.mp (List.mem_append_left _ hs)
    refine x_onil ⟨_, srt_sds (fun s hs => pool_nm s (hfm s hs)) (by omega), ?_⟩
    (try dsimp only [wback, List.set, List.cons_append, List.nil_append])
    have hNa : ∀ s ∈ sortS fd, s ∈ pool7 := fun s hs => hfm s (sortS_mem.mp hs)
    have hN : ∀ s ∈ sortS fd, Nm s := fun s hs => pool_nm s (hNa s hs)
    have hAsc : Asc (sortS fd) := asc_sort pool_nd hP
    have hLen : (sortS fd).length = n := by rw [sortS_len]; exact hj
    generalize sortS fd = names at hN hAsc hLen hNa
    -- the start
    refine z_set (x_op (x_oe rfl (x_comp (fun j ys e => ∃ (r' : PyData) (o7 : Option PyData) (st : List (Str × Option Int)), e = [some r', some (.int mp), some (.int me), some (.list (sds lf)), some (.list (sds names)), none, none, o7] ∧ ys = st.map pD ∧ st.map (·.1) = names.take j ∧ (∀ p ∈ st, isBit p.2) ∧ Rdr (m + 1 + n + j) r') ?_)))
    refine x_seq rfl (x_v rfl ?_)
    refine ⟨_, rfl, by rw [List.length_map]; omega, ⟨r2, none, [], rfl, rfl, rfl, by simp, hr2⟩, fun j y hy ys e hI => ?_, fun ys e hI => ?_⟩
    · obtain ⟨r3, o7, st, rfl, rfl, s1, s2, hr3⟩ := hI
      have hj := (List.getElem?_eq_some_iff.mp hy).1
      rw [List.length_map] at hj
      rw [List.getElem?_map, List.getElem?_eq_getElem hj] at hy
      cases hy
      have htk : names.take (j + 1) = names.take j ++ [names[j]] := by rw [List.take_add_one, List.getElem?_eq_getElem hj]; rfl
      generalize names[j] = s at htk
      refine ⟨_, rfl, x_ifN ⟨fun _ => ?_, fun q => (by cases q)⟩⟩
      (try dsimp only [wback, List.set, List.cons_append, List.nil_append])
      refine x_tup (x_econs (x_v rfl (x_econs (x_op (x_oe rfl (x_lst ?_))))))
      refine x_econs (x_k (x_econs (x_k (x_econs (x_k (x_enil ⟨Nat.le_of_ble_eq_true rfl, ?_⟩))))))
      (repeat (first | refine x_op ?_ | refine x_oe rfl ?_ | refine x_v rfl ?_ | refine x_k ?_ | refine x_onil ?_ | refine x_ob rfl ?_ | refine x_econs ?_ | refine x_enil ?_ | refine x_call ?_ | refine x_kcall ?_ | refine x_and ?_ | refine x_or ?_ | refine x_not ?_ | refine x_ite ?_ | refine x_isa rfl ?_ | refine x_isab rfl ?_ | refine x_optN ?_ | refine x_optS ?_ | refine x_sl rfl ?_ | refine x_slb rfl ?_ | refine x_dget rfl ?_ | refine x_dct ?_ | refine x_pd ?_ | refine x_rng ?_ | refine x_enm ?_ | refine x_zip ?_ | refine x_seq rfl ?_ | refine x_ifN ?_ | refine x_ifS ?_ | refine x_ch ?_ | refine x_tup ?_ | refine x_lst ?_ | refine ⟨_, rfl, ?_⟩ | refine ⟨_, md _, ?_⟩ | refine ⟨_, fd _, ?_⟩ | refine ⟨_, _, _, rfl, rfl, rfl, ?_⟩ | refine ⟨Nat.le_of_ble_eq_true rfl, ?_⟩); try dsimp only [wback, List.set, List.cons_append, List.nil_append])
      refine (draw_wk (many := 3) hD hr3 (by omega) (by omega) (by omega)).mono ?_
      rintro _ _ ⟨v, r4, rfl, rfl, v0, v1, hr4⟩
      have fin : ∀ mk : Option Int, isBit mk → ∃ (r' : PyData) (o7 : Option PyData) (st' : List (Str × Option Int)), [some r4, some (.int mp), some (.int me), some (.list (sds lf)), some (.list (sds names)), none, none, some (.str s)] = [some r', some (.int mp), some (.int me), some (.list (sds lf)), some (.list (sds names)), none, none, o7] ∧ st.map pD ++ [pD (s, mk)] = st'.map pD ∧ st'.map (·.1) = names.take (j + 1) ∧ (∀ p ∈ st', isBit p.2) ∧ Rdr (m + 1 + n + (j + 1)) r' := fun mk hmk =>
        ⟨r4, _, st ++ [(s, mk)], rfl, by rw [List.map_append]; rfl, by rw [List.map_append, s1, htk]; rfl, fun p hp => (List.mem_append.mp hp).elim (s2 p) fun q => by rw [List.mem_singleton.mp q]; exact hmk, by rw [← Nat.add_assoc]; exact hr4⟩
      have h3 : v = 0 ∨ v = 1 ∨ v = 2 := by omega
      rcases h3 with rfl | rfl | rfl
      · exact x_onil ⟨_, rfl, x_enil ⟨Nat.le_of_ble_eq_true rfl, fin (some 0) (.inl rfl)⟩⟩
      · exact x_onil ⟨_, rfl, x_enil ⟨Nat.le_of_ble_eq_true rfl, fin (some 1) (.inr rfl)⟩⟩
      · exact x_onil ⟨_, rfl, x_enil ⟨Nat.le_of_ble_eq_true rfl, fin none trivial⟩⟩
    · obtain ⟨r3, o7, st, rfl, rfl, s1, s2, hr3⟩ := hI
      rw [List.length_map] at s1 hr3
      rw [List.take_length] at s1
      dsimp only [tgSlots, backE]
      refine x_onil ⟨_, rfl, ?_⟩
      (try dsimp only [wback, List.set, List.cons_append, List.nil_append])
      -- the events
      refine z_ret (x_tup (x_econs (x_v rfl (x_econs (x_op (x_oe rfl (x_comp (fun j ys e => ∃ (r' : PyData) (o6 : Option PyData) (es : List Ev), e = [some r', some (.int mp), some (.int me), some (.list (sds lf)), some (.list (sds names)), some (.tuple (st.map pD)), o6, none] ∧ ys = es.map Ev.d ∧ es.length = j ∧ (∀ e ∈ es, Ev.Ok names e) ∧ Rdr (m + 50 + 300 * j) r') ?_)))))))
      (repeat (first | refine x_op ?_ | refine x_oe rfl ?_ | refine x_v rfl ?_ | refine x_k ?_ | refine x_onil ?_ | refine x_ob rfl ?_ | refine x_econs ?_ | refine x_enil ?_ | refine x_call ?_ | refine x_kcall ?_ | refine x_and ?_ | refine x_or ?_ | refine x_not ?_ | refine x_ite ?_ | refine x_isa rfl ?_ | refine x_isab rfl ?_ | refine x_optN ?_ | refine x_optS ?_ | refine x_sl rfl ?_ | refine x_slb rfl ?_ | refine x_dget rfl ?_ | refine x_dct ?_ | refine x_pd ?_ | refine x_rng ?_ | refine x_enm ?_ | refine x_zip ?_ | refine x_seq rfl ?_ | refine x_ifN ?_ | refine x_ifS ?_ | refine x_ch ?_ | refine x_tup ?_ | refine x_lst ?_ | refine ⟨_, rfl, ?_⟩ | refine ⟨_, md _, ?_⟩ | refine ⟨_, fd _, ?_⟩ | refine ⟨_, _, _, rfl, rfl, rfl, ?_⟩ | refine ⟨Nat.le_of_ble_eq_true rfl, ?_⟩); try dsimp only [wback, List.set, List.cons_append, List.nil_append])
      refine (draw_wk (many := me + 1) hD hr3 (by omega) (by omega) (by omega)).mono ?_
      rintro _ _ ⟨v, r4, rfl, rfl, v0, v1, hr4⟩
      refine x_enil ?_
      refine ⟨_, rng1 v0 (by omega), by rw [List.length_map, List.length_range]; omega, ⟨r4, _, [], rfl, rfl, rfl, by simp, hr4.mono (by omega)⟩, fun j y hy ys e hI => ?_, fun ys e hI => ?_⟩
      · obtain ⟨r5, o6, es, rfl, rfl, l1, k1, hr5⟩ := hI
        have hj : (j : Int) < v := by
          have := (List.getElem?_eq_some_iff.mp hy).1
          rw [List.length_map, List.length_range] at this
          omega
        refine ⟨_, rfl, x_ifN ⟨fun _ => ?_, fun q => (by cases q)⟩⟩
        (try dsimp only [wback, List.set, List.cons_append, List.nil_append])
        (repeat (first | refine x_op ?_ | refine x_oe rfl ?_ | refine x_v rfl ?_ | refine x_k ?_ | refine x_onil ?_ | refine x_ob rfl ?_ | refine x_econs ?_ | refine x_enil ?_ | refine x_call ?_ | refine x_kcall ?_ | refine x_and ?_ | refine x_or ?_ | refine x_not ?_ | refine x_ite ?_ | refine x_isa rfl ?_ | refine x_isab rfl ?_ | refine x_optN ?_ | refine x_optS ?_ | refine x_sl rfl ?_ | refine x_slb rfl ?_ | refine x_dget rfl ?_ | refine x_dct ?_ | refine x_pd ?_ | refine x_rng ?_ | refine x_enm ?_ | refine x_zip ?_ | refine x_seq rfl ?_ | refine x_ifN ?_ | refine x_ifS ?_ | refine x_ch ?_ | refine x_tup ?_ | refine x_lst ?_ | refine ⟨_, rfl, ?_⟩ | refine ⟨_, md _, ?_⟩ | refine ⟨_, fd _, ?_⟩ | refine ⟨_, _, _, rfl, rfl, rfl, ?_⟩ | refine ⟨Nat.le_of_ble_eq_true rfl, ?_⟩); try dsimp only [wback, List.set, List.cons_append, List.nil_append])
        refine (event_wk hE hD hS hr5 (by omega) hN hAsc (by omega) (by omega)).mono ?_
        rintro _ _ ⟨ev, r6, rfl, rfl, hev, hr6⟩
        exact ⟨r6, _, es ++ [ev], rfl, by rw [List.map_append]; rfl, by simp [l1], fun e he => (List.mem_append.mp he).elim (k1 e) fun q => by rw [List.mem_singleton.mp q]; exact hev, hr6.mono (by omega)⟩
      · obtain ⟨r5, o6, es, rfl, rfl, l1, k1, hr5⟩ := hI
        rw [List.length_map, List.length_range] at l1 hr5
        dsimp only [tgSlots, backE]
        refine x_onil ⟨_, rfl, x_enil ⟨Nat.le_of_ble_eq_true rfl, ?_⟩⟩
        have hnm : st.map (·.1) = names := s1
        refine ⟨_, rfl, ⟨st, es⟩, r5, rfl, rfl, ⟨?_, ?_, s2, ?_⟩, ?_, ?_, ?_, ?_, hr5.mono (by omega)⟩
        · show ∀ s ∈ st.map (·.1), Nm s
          rw [hnm]; exact hN
        · show Asc (st.map (·.1))
          rw [hnm]; exact hAsc
        · show ∀ e ∈ es, e.Ok (st.map (·.1))
          rw [hnm]; exact k1
        · show (es.length : Int) ≤ me
          omega
        · show 1 ≤ (st.map (·.1)).length
          rw [hnm]; omega
        · show ((st.map (·.1)).length : Int) ≤ mp
          rw [hnm]; omega
        · show ∀ s ∈ st.map (·.1), s ∈ pool7
          rw [hnm]; exact hNa
end GK
end
section
set_option maxHeartbeats 0
namespace K03
open PySem PySem.Spec PyProof.Rows L2 Dv
abbrev f_places_of : Nat := 0
abbrev f_persons_of : Nat := 1
abbrev f_reports_of : Nat := 2
abbrev f_reports_by : Nat := 3
abbrev f_is_report : Nat := 4
abbrev f__law_reader : Nat := 5
abbrev f__law_draw : Nat := 6
abbrev f__law_subset : Nat := 7
abbrev f__law_event : Nat := 8
abbrev f__law_history : Nat := 9
abbrev f__law_names : Nat := 10
abbrev f__law_reports : Nat := 11
abbrev f__law_person : Nat := 12
abbrev f__law_limited : Nat := 13
abbrev f_law : Nat := 14
def d_places_of : FD := ⟨⟨"places_of", ["history"], [.sh], .sh, []⟩, ["history", "place", "mark"], [.sh, .sh, .sh],
  [(.ret (.op .tup [(.comp (.tup [1, 2]) (.seq (.op .ix [(.v 0), (.k (.int 0))])) none (.v 1))]))]⟩
def d_persons_of : FD := ⟨⟨"persons_of", ["history"], [.sh], .sh, []⟩, ["history", "found", "event"], [.sh, .sh, .sh],
  [(.set 1 (.dcm (.one 2) (.seq (.op .ix [(.v 0), (.k (.int 1))])) (some (.op .ne [(.op .ix [(.v 2), (.k (.int 0))]), (.k (.str "new"))])) (.op .ix [(.v 2), (.k (.int 1))]) (.k (.bool true)))), (.ret (.op .tup [(.op .srt [(.v 1)])]))]⟩
def d_reports_of : FD := ⟨⟨"reports_of", ["history"], [.sh], .sh, []⟩, ["history", "at", "event"], [.sh, .sh, .sh],
  [(.ret (.op .tup [(.comp (.tup [1, 2]) (.enm [(.op .ix [(.v 0), (.k (.int 1))])]) (some (.call f_is_report [(.v 2)])) (.v 1))]))]⟩
def d_reports_by : FD := ⟨⟨"reports_by", ["history", "persons"], [.sh, .sh], .sh, []⟩, ["history", "persons", "at"], [.sh, .sh, .sh],
  [(.ret (.op .tup [(.comp (.one 2) (.seq (.call f_reports_of [(.v 0)])) (some (.op .isIn [(.op .ix [(.op .ix [(.op .ix [(.v 0), (.k (.int 1))]), (.v 2)]), (.k (.int 1))]), (.v 1)])) (.v 2))]))]⟩
def d_is_report : FD := ⟨⟨"is_report", ["event"], [.sh], .sh, []⟩, ["event"], [.sh],
  [(.ret (.or (.op .eq [(.op .ix [(.v 0), (.k (.int 0))]), (.k (.str "look"))]) (.op .eq [(.op .ix [(.v 0), (.k (.int 0))]), (.k (.str "pour"))])))]⟩
def d__law_reader : FD := ⟨⟨"_law_reader", ["script"], [.sh], .lst .own, []⟩, ["script"], [.sh],
  [(.ret (.lst [(.sl (.v 0) none (some (.k (.int 63)))), (.k (.int 0)), (.k (.int 0)), (.k (.int 0))]))]⟩
def d__law_draw : FD := ⟨⟨"_law_draw", ["reader", "many"], [.lst .par, .sh], .sh, []⟩, ["reader", "many", "cell", "once", "found"], [.lst .par, .sh, .sh, .sh, .sh],
  [(.setix 0 (.k (.int 3)) (.op .add [(.op .ix [(.b 0), (.k (.int 3))]), (.k (.int 1))])), (.ite (.op .gt [(.op .ix [(.b 0), (.k (.int 2))]), (.k (.int 0))]) [(.set 4 (.op .mod [(.op .ix [(.b 0), (.k (.int 2))]), (.v 1)])), (.setix 0 (.k (.int 2)) (.op .fdiv [(.op .ix [(.b 0), (.k (.int 2))]), (.v 1)])), (.ret (.v 4))] []), (.set 2 (.k (.int 7))), (.ite (.op .ne [(.op .ix [(.b 0), (.k (.int 0))]), (.lst [])]) [(.set 2 (.op .ix [(.op .ix [(.b 0), (.k (.int 0))]), (.op .mod [(.op .ix [(.b 0), (.k (.int 1))]), (.op .len [(.op .ix [(.b 0), (.k (.int 0))])])])]))] []), (.setix 0 (.k (.int 1)) (.op .add [(.op .ix [(.b 0), (.k (.int 1))]), (.k (.int 1))])), (.ite (.and (.op .ge [(.v 2), (.op .pow [(.k (.int 10)), (.k (.int 18))])]) (.op .le [(.op .ix [(.b 0), (.k (.int 1))]), (.op .len [(.op .ix [(.b 0), (.k (.int 0))])])])) [(.setix 0 (.k (.int 2)) (.op .fdiv [(.v 2), (.v 1)])), (.ret (.op .mod [(.v 2), (.v 1)]))] []), (.set 3 (.op .mod [(.op .pow [(.op .add [(.op .add [(.op .mod [(.v 2), (.k (.int 2147483587))]), (.op .mul [(.k (.int 6949)), (.op .ix [(.b 0), (.k (.int 3))])])]), (.k (.int 3))]), (.k (.int 5))]), (.k (.int 2147483629))])), (.ret (.op .mod [(.op .fdiv [(.op .mod [(.op .pow [(.op .add [(.v 3), (.op .mul [(.k (.int 87403)), (.op .ix [(.b 0), (.k (.int 3))])])]), (.k (.int 5))]), (.k (.int 2147483647))]), (.k (.int 64))]), (.v 1)]))]⟩
def d__law_subset : FD := ⟨⟨"_law_subset", ["reader", "names", "least"], [.lst .par, .sh, .sh], .sh, []⟩, ["reader", "names", "least", "found", "one"], [.lst .par, .sh, .sh, .lst .own, .sh],
  [(.set 3 (.comp (.one 4) (.seq (.v 1)) (some (.op .eq [(.call f__law_draw [(.b 0), (.k (.int 2))]), (.k (.int 0))])) (.v 4))), (.for (.one 4) (.seq (.v 1)) [(.ite (.and (.op .lt [(.op .len [(.b 3)]), (.v 2)]) (.op .notIn [(.v 4), (.b 3)])) [(.app 3 (.v 4))] [])]), (.ret (.op .tup [(.op .srt [(.b 3)])]))]⟩
def d__law_event : FD := ⟨⟨"_law_event", ["reader", "names"], [.lst .par, .sh], .sh, []⟩, ["reader", "names", "some", "way", "person", "place", "mark"], [.lst .par, .sh, .sh, .sh, .sh, .sh, .sh],
  [(.par [3, 4] [(.call f__law_draw [(.b 0), (.k (.int 7))]), (.op .ix [(.lst [(.k (.str "ann")), (.k (.str "bob")), (.k (.str "cy")), (.k (.str "eve")), (.k (.str "zed"))]), (.call f__law_draw [(.b 0), (.k (.int 5))])])]), (.par [5, 6] [(.op .ix [(.v 1), (.call f__law_draw [(.b 0), (.op .len [(.v 1)])])]), (.call f__law_draw [(.b 0), (.k (.int 2))])]), (.ite (.and (.op .lt [(.v 3), (.k (.int 3))]) (.op .gt [(.op .len [(.v 1)]), (.k (.int 1))])) [(.ret (.tup [(.k (.str "mix")), (.v 4), (.call f__law_subset [(.b 0), (.v 1), (.k (.int 2))])]))] []), (.ite (.op .lt [(.v 3), (.k (.int 4))]) [(.ret (.tup [(.k (.str "new")), (.v 5), (.op .ix [(.lst [(.v 6), (.k .none)]), (.call f__law_draw [(.b 0), (.k (.int 2))])])]))] []), (.ite (.op .lt [(.v 3), (.k (.int 5))]) [(.ret (.tup [(.k (.str "look")), (.v 4), (.v 5), (.v 6)]))] []), (.set 2 (.call f__law_subset [(.b 0), (.v 1), (.k (.int 1))])), (.ret (.tup [(.k (.str "pour")), (.v 4), (.v 2), (.call f__law_draw [(.b 0), (.op .add [(.op .len [(.v 2)]), (.k (.int 1))])])]))]⟩
def d__law_history : FD := ⟨⟨"_law_history", ["reader", "most", "events"], [.lst .par, .sh, .sh], .sh, []⟩, ["reader", "most", "events", "pool", "names", "start", "k", "name"], [.lst .par, .sh, .sh, .lst .own, .sh, .sh, .sh, .sh],
  [(.set 3 (.lst [(.k (.str "a")), (.k (.str "b")), (.k (.str "c")), (.k (.str "d")), (.k (.str "e")), (.k (.str "lot")), (.k (.str "zzzzzzzz"))])), (.set 4 (.op .srt [(.comp (.one 6) (.rng [(.op .add [(.k (.int 1)), (.call f__law_draw [(.b 0), (.v 1)])])]) none (.pop 3 (.call f__law_draw [(.b 0), (.op .len [(.b 3)])])))])), (.set 5 (.op .tup [(.comp (.one 7) (.seq (.v 4)) none (.tup [(.v 7), (.op .ix [(.lst [(.k (.int 0)), (.k (.int 1)), (.k .none)]), (.call f__law_draw [(.b 0), (.k (.int 3))])])]))])), (.ret (.tup [(.v 5), (.op .tup [(.comp (.one 6) (.rng [(.call f__law_draw [(.b 0), (.op .add [(.v 2), (.k (.int 1))])])]) none (.call f__law_event [(.b 0), (.v 4)]))])]))]⟩
def d__law_names : FD := ⟨⟨"_law_names", ["history"], [.sh], .sh, []⟩, ["history", "pair"], [.sh, .sh],
  [(.ret (.comp (.one 1) (.seq (.op .ix [(.v 0), (.k (.int 0))])) none (.op .ix [(.v 1), (.k (.int 0))])))]⟩
def d__law_reports : FD := ⟨⟨"_law_reports", ["history"], [.sh], .sh, []⟩, ["history", "k"], [.sh, .sh],
  [(.ret (.comp (.one 1) (.rng [(.op .len [(.op .ix [(.v 0), (.k (.int 1))])])]) (some (.op .isIn [(.op .ix [(.op .ix [(.op .ix [(.v 0), (.k (.int 1))]), (.v 1)]), (.k (.int 0))]), (.tup [(.k (.str "look")), (.k (.str "pour"))])])) (.v 1)))]⟩
def d__law_person : FD := ⟨⟨"_law_person", ["event"], [.sh], .sh, []⟩, ["event"], [.sh],
  [(.ret (.ite (.op .eq [(.op .ix [(.v 0), (.k (.int 0))]), (.k (.str "new"))]) (.k .none) (.op .ix [(.v 0), (.k (.int 1))])))]⟩
def d__law_limited : FD := ⟨⟨"_law_limited", ["history"], [.sh], .sh, []⟩, ["history", "event", "events", "count"], [.sh, .sh, .lst .own, .sh],
  [(.par [2, 3] [(.lst []), (.k (.int 0))]), (.for (.one 1) (.seq (.op .ix [(.v 0), (.k (.int 1))])) [(.set 3 (.op .add [(.v 3), (.op .int [(.op .isIn [(.op .ix [(.v 1), (.k (.int 0))]), (.tup [(.k (.str "look")), (.k (.str "pour"))])])])])), (.ite (.or (.op .lt [(.v 3), (.k (.int 9))]) (.op .notIn [(.op .ix [(.v 1), (.k (.int 0))]), (.tup [(.k (.str "look")), (.k (.str "pour"))])])) [(.app 2 (.v 1))] [])]), (.ret (.tup [(.op .ix [(.v 0), (.k (.int 0))]), (.op .tup [(.b 2)])]))]⟩
def d_law : FD := ⟨⟨"law", ["script"], [.sh], .sh, []⟩, ["script", "reader", "some", "turn", "history", "people", "want", "groups", "person", "places", "group", "saved", "events", "event", "k"], [.sh, .lst .own, .lst .own, .sh, .sh, .sh, .sh, .sh, .sh, .sh, .sh, .sh, .sh, .sh, .sh],
  [(.set 1 (.call f__law_reader [(.v 0)])), (.set 2 (.lst [(.tup [(.tup [(.tup [(.k (.str "a")), (.k .none)])]), (.tup [])])])), (.set 2 (.op .addl [(.b 2), (.lst [(.tup [(.tup [(.tup [(.k (.str "a")), (.k (.int 1))]), (.tup [(.k (.str "b")), (.k (.int 0))])]), (.tup [(.tup [(.k (.str "mix")), (.k (.str "zed")), (.tup [(.k (.str "a")), (.k (.str "b"))])]), (.tup [(.k (.str "new")), (.k (.str "a")), (.k .none)]), (.tup [(.k (.str "mix")), (.k (.str "ann")), (.tup [(.k (.str "a")), (.k (.str "b"))])])])])])])), (.for (.one 3) (.rng [(.k (.int 6))]) [(.app 2 (.call f__law_limited [(.call f__law_history [(.b 1), (.k (.int 7)), (.k (.int 14))])]))]), (.for (.one 4) (.seq (.b 2)) [(.unp [11, 12] (.tup [(.op .repr [(.v 4)]), (.op .ix [(.v 4), (.k (.int 1))])])), (.set 5 (.op .srs [(.comp (.one 13) (.seq (.v 12)) (some (.op .ne [(.op .ix [(.v 13), (.k (.int 0))]), (.k (.str "new"))])) (.call f__law_person [(.v 13)]))])), (.set 6 (.lst [(.op .tup [(.call f__law_names [(.v 4)])]), (.op .tup [(.v 5)]), (.op .tup [(.call f__law_reports [(.v 4)])])])), (.ite (.op .ne [(.op .repr [(.lst [(.call f_places_of [(.v 4)]), (.call f_persons_of [(.v 4)]), (.call f_reports_of [(.v 4)])])]), (.op .repr [(.v 6)])]) [(.ret (.k (.bool false)))] []), (.set 7 (.lst [(.tup [])])), (.for (.one 8) (.seq (.lst [(.k (.str "ann")), (.k (.str "bob")), (.k (.str "cy")), (.k (.str "eve")), (.k (.str "zed"))])) [(.set 7 (.op .add [(.v 7), (.comp (.one 10) (.seq (.v 7)) none (.op .add [(.v 10), (.tup [(.v 8)])]))]))]), (.set 9 (.op .tup [(.sl (.call f__law_names [(.v 4)]) none (some (.k (.int 3))))])), (.for (.one 10) (.seq (.op .add [(.v 7), (.lst [(.tup [(.k (.str "nobody"))]), (.tup [(.k (.str "ann")), (.k (.str "nobody")), (.k (.str "zed"))]), (.v 9), (.sl (.v 9) none (some (.k (.int 1))))])])) [(.set 6 (.op .tup [(.comp (.one 14) (.seq (.call f__law_reports [(.v 4)])) (some (.op .isIn [(.op .ix [(.op .ix [(.v 12), (.v 14)]), (.k (.int 1))]), (.v 10)])) (.v 14))])), (.ite (.or (.op .ne [(.op .repr [(.call f_reports_by [(.v 4), (.v 10)])]), (.op .repr [(.v 6)])]) (.op .ne [(.op .repr [(.v 4)]), (.v 11)])) [(.ret (.k (.bool false)))] [])])]), (.ret (.k (.bool true)))]⟩
def top (i : Nat) : Stmt := PySem.Challenge.pw_mixedbags_k03_reports_and_persons.main.body.getD i (.Pass ⟨0, 0, 0, 0⟩)
def fss : List FS := [⟨d_places_of, defArgs (top 1), defBody (top 1), defScope (top 1)⟩, ⟨d_persons_of, defArgs (top 2), defBody (top 2), defScope (top 2)⟩, ⟨d_reports_of, defArgs (top 3), defBody (top 3), defScope (top 3)⟩, ⟨d_reports_by, defArgs (top 4), defBody (top 4), defScope (top 4)⟩, ⟨d_is_report, defArgs (top 5), defBody (top 5), defScope (top 5)⟩, ⟨d__law_reader, defArgs (top 7), defBody (top 7), defScope (top 7)⟩, ⟨d__law_draw, defArgs (top 8), defBody (top 8), defScope (top 8)⟩, ⟨d__law_subset, defArgs (top 9), defBody (top 9), defScope (top 9)⟩, ⟨d__law_event, defArgs (top 10), defBody (top 10), defScope (top 10)⟩, ⟨d__law_history, defArgs (top 11), defBody (top 11), defScope (top 11)⟩, ⟨d__law_names, defArgs (top 12), defBody (top 12), defScope (top 12)⟩, ⟨d__law_reports, defArgs (top 13), defBody (top 13), defScope (top 13)⟩, ⟨d__law_person, defArgs (top 14), defBody (top 14), defScope (top 14)⟩, ⟨d__law_limited, defArgs (top 15), defBody (top 15), defScope (top 15)⟩, ⟨d_law, defArgs (top 16), defBody (top 16), defScope (top 16)⟩]

theorem ck : fss.all (fun s => ckF (fss.map (·.fd)) s.fd s.sc s.body) = true := by decide +kernel
end K03
end
section
set_option maxHeartbeats 0
namespace K03
open PySem PySem.Spec PyProof.Rows L2 Dv

theorem b_places_of : FS.bnd ⟨d_places_of, defArgs (top 1), defBody (top 1), defScope (top 1)⟩ := ⟨fun _ _ _ _ _ _ us hl => match us, hl with | [_], _ => rfl, fun _ h => by cases h⟩
theorem b_persons_of : FS.bnd ⟨d_persons_of, defArgs (top 2), defBody (top 2), defScope (top 2)⟩ := ⟨fun _ _ _ _ _ _ us hl => match us, hl with | [_], _ => rfl, fun _ h => by cases h⟩
theorem b_reports_of : FS.bnd ⟨d_reports_of, defArgs (top 3), defBody (top 3), defScope (top 3)⟩ := ⟨fun _ _ _ _ _ _ us hl => match us, hl with | [_], _ => rfl, fun _ h => by cases h⟩
theorem b_reports_by : FS.bnd ⟨d_reports_by, defArgs (top 4), defBody (top 4), defScope (top 4)⟩ := ⟨fun _ _ _ _ _ _ us hl => match us, hl with | [_, _], _ => rfl, fun _ h => by cases h⟩
theorem b_is_report : FS.bnd ⟨d_is_report, defArgs (top 5), defBody (top 5), defScope (top 5)⟩ := ⟨fun _ _ _ _ _ _ us hl => match us, hl with | [_], _ => rfl, fun _ h => by cases h⟩
theorem b__law_reader : FS.bnd ⟨d__law_reader, defArgs (top 7), defBody (top 7), defScope (top 7)⟩ := ⟨fun _ _ _ _ _ _ us hl => match us, hl with | [_], _ => rfl, fun _ h => by cases h⟩
theorem b__law_draw : FS.bnd ⟨d__law_draw, defArgs (top 8), defBody (top 8), defScope (top 8)⟩ := ⟨fun _ _ _ _ _ _ us hl => match us, hl with | [_, _], _ => rfl, fun _ h => by cases h⟩
theorem b__law_subset : FS.bnd ⟨d__law_subset, defArgs (top 9), defBody (top 9), defScope (top 9)⟩ := ⟨fun _ _ _ _ _ _ us hl => match us, hl with | [_, _, _], _ => rfl, fun _ h => by cases h⟩
theorem b__law_event : FS.bnd ⟨d__law_event, defArgs (top 10), defBody (top 10), defScope (top 10)⟩ := ⟨fun _ _ _ _ _ _ us hl => match us, hl with | [_, _], _ => rfl, fun _ h => by cases h⟩
theorem b__law_history : FS.bnd ⟨d__law_history, defArgs (top 11), defBody (top 11), defScope (top 11)⟩ := ⟨fun _ _ _ _ _ _ us hl => match us, hl with | [_, _, _], _ => rfl, fun _ h => by cases h⟩
theorem b__law_names : FS.bnd ⟨d__law_names, defArgs (top 12), defBody (top 12), defScope (top 12)⟩ := ⟨fun _ _ _ _ _ _ us hl => match us, hl with | [_], _ => rfl, fun _ h => by cases h⟩
theorem b__law_reports : FS.bnd ⟨d__law_reports, defArgs (top 13), defBody (top 13), defScope (top 13)⟩ := ⟨fun _ _ _ _ _ _ us hl => match us, hl with | [_], _ => rfl, fun _ h => by cases h⟩
theorem b__law_person : FS.bnd ⟨d__law_person, defArgs (top 14), defBody (top 14), defScope (top 14)⟩ := ⟨fun _ _ _ _ _ _ us hl => match us, hl with | [_], _ => rfl, fun _ h => by cases h⟩
theorem b__law_limited : FS.bnd ⟨d__law_limited, defArgs (top 15), defBody (top 15), defScope (top 15)⟩ := ⟨fun _ _ _ _ _ _ us hl => match us, hl with | [_], _ => rfl, fun _ h => by cases h⟩
theorem b_law : FS.bnd ⟨d_law, defArgs (top 16), defBody (top 16), defScope (top 16)⟩ := ⟨fun _ _ _ _ _ _ us hl => match us, hl with | [_], _ => rfl, fun _ h => by cases h⟩
theorem bnds : ∀ s ∈ fss, s.bnd := by
  intro s hs
  simp only [fss, List.mem_cons, List.not_mem_nil, or_false] at hs
  rcases hs with rfl | rfl | rfl | rfl | rfl | rfl | rfl | rfl | rfl | rfl | rfl | rfl | rfl | rfl | rfl
  · exact b_places_of
  · exact b_persons_of
  · exact b_reports_of
  · exact b_reports_by
  · exact b_is_report
  · exact b__law_reader
  · exact b__law_draw
  · exact b__law_subset
  · exact b__law_event
  · exact b__law_history
  · exact b__law_names
  · exact b__law_reports
  · exact b__law_person
  · exact b__law_limited
  · exact b_law
abbrev R : PySem.W.OpenRow := PySem.W.OpenLaw.row PySem.Challenge.rw_mixedbags_k03_reports_and_persons
abbrev hk : PySem.W.Hook := He.hookD 4 (faOf fss) (fnOfs fss)
def ob (s : PySem.W.SharedT) : He.AlD := He.obsDG 4 (faOf fss) (fnOfs fss) (HandSHeadRun.getT s)
theorem ob_eq (s : PySem.W.SharedT) : ob s = hk.obs s.abs := He.obsDG_eq (HandSHeadRun.getT_eq s)
theorem run (w : World) : HandSHeadRun.RunEq R (PySem.W.view R.prog [16]) hk ob 8000 ((["places_of", "persons_of", "reports_of", "reports_by", "is_report", "_law_reader", "_law_draw", "_law_subset", "_law_event", "_law_history", "_law_names", "_law_reports", "_law_person", "_law_limited"] : List PySem.Str)) w := by
  intro os
  kernel_rfl
end K03
end
section
namespace K03
open PySem Dv GK
abbrev FSS : List FD := fss.map (·.fd)
variable {fuel k : Nat}
abbrev natD (n : Nat) : PyData := .int (n : Int)
theorem mkW {D W : Nat} {xs : List PyData} (h : ∀ x ∈ xs, ∃ w, Ok D w x) (hw : PyData.weightAll xs ≤ W) : OkA D W xs :=
  ⟨layAll.mpr fun x hx => (h x hx).choose_spec.lay, intsAll.mpr fun x hx => (h x hx).choose_spec.shr, shoAll.mpr fun x hx => (h x hx).choose_spec.sho, depAll.mpr fun x hx => (h x hx).choose_spec.dep, hw⟩
theorem ne_selfS {x : Str} : evOp .ne [.str x, .str x] = some (.bool false) := by
  show neD (.str x) (.str x) = _
  unfold neD
  have e : PyData.eqv (.str x) (.str x) = true := by simp [PyData.eqv]
  rw [e]
  split
  · rfl
  · show (eqS (.str x) (.str x)).map _ = _
    unfold eqS
    simp
theorem ev_ok {names : List Str} {e : Ev} (hN : ∀ s ∈ names, Nm s) (hl : names.length ≤ 50) (h : e.Ok names) : Ok 2 1844 e.d := by
  have c : ∀ s : Str, Nm s → Ok 1 460 (.str s) := fun s hs => hs.ok.mono (by omega) (by omega)
  have b : ∀ m : Option Int, isBit m → Ok 1 460 (mkD m) := fun m hm => by
    cases m with
    | none => exact Ok.none.mono (by omega) (by omega)
    | some i => exact (Ok.int (by have : i = 0 ∨ i = 1 := hm; omega)).mono (by omega) (by omega)
  have p : ∀ ps : List Str, (∀ s ∈ ps, s ∈ names) → ps.length ≤ names.length → Ok 1 460 (.tuple (sds ps)) := fun ps h1 h2 => (sds_ok fun s hs => hN s (h1 s hs)).tuple.mono (by omega) (by omega)
  have four : ∀ xs : List PyData, (∀ x ∈ xs, Ok 1 460 x) → xs.length ≤ 4 → Ok 2 1844 (.tuple xs) := fun xs h1 h2 => (OkA.of h1 h2).tuple
  cases e with
  | mix w ps =>
    refine four _ (fun x hx => ?_) (show 3 ≤ 4 by omega)
    simp only [List.mem_cons, List.not_mem_nil, or_false] at hx
    rcases hx with rfl | rfl | rfl
    · exact c _ nm_mix
    · exact c _ h.1
    · exact p _ h.2.1 h.2.2.2.2
  | new q m =>
    refine four _ (fun x hx => ?_) (show 3 ≤ 4 by omega)
    simp only [List.mem_cons, List.not_mem_nil, or_false] at hx
    rcases hx with rfl | rfl | rfl
    · exact c _ nm_new
    · exact c _ (hN _ h.1)
    · exact b _ h.2
  | look w q m =>
    refine four _ (fun x hx => ?_) (show 4 ≤ 4 by omega)
    simp only [List.mem_cons, List.not_mem_nil, or_false] at hx
    rcases hx with rfl | rfl | rfl | rfl
    · exact c _ nm_look
    · exact c _ h.1
    · exact c _ (hN _ h.2.1)
    · exact b (some m) h.2.2
  | pour w ps n =>
    refine four _ (fun x hx => ?_) (show 4 ≤ 4 by omega)
    simp only [List.mem_cons, List.not_mem_nil, or_false] at hx
    rcases hx with rfl | rfl | rfl | rfl
    · exact c _ nm_pour
    · exact c _ h.1
    · exact p _ h.2.1 h.2.2.2.2.2.2
    · have := h.2.2.2.2
      exact (Ok.int (by omega)).mono (by omega) (by omega)
/-- a history of the law -/
structure Fit (h : Hist) : Prop where
  ok : h.Ok
  few : h.names.length ≤ 7
  evs : h.evs.length ≤ 14
theorem hist_ok {h : Hist} (f : Fit h) : Ok 4 30000 h.d := by
  have a : Ok 3 25830 (.tuple (h.evs.map Ev.d)) := (OkA.of (D := 2) (w := 1844) (n := 14) (fun x hx => by
    obtain ⟨e, he, rfl⟩ := List.mem_map.mp hx
    exact ev_ok f.ok.nm (by have := f.few; omega) (f.ok.ev e he)) (by rw [List.length_map]; exact f.evs)).tuple
  have hsl : h.start.length ≤ 7 := by
    have : h.names.length = h.start.length := List.length_map _
    have := f.few
    omega
  have b : Ok 3 3000 (.tuple (h.start.map fun p => .tuple [.str p.1, mkD p.2])) := by
    refine ((OkA.of (D := 1) (w := 412) (n := 7) (fun x hx => ?_) (by rw [List.length_map]; exact hsl)).tuple).mono (by omega) (by omega)
    obtain ⟨p, hp, rfl⟩ := List.mem_map.mp hx
    refine (OkA.of (xs := [PyData.str p.1, mkD p.2]) (D := 0) (w := 205) (n := 2) (fun x hx => ?_) (show 2 ≤ 2 by omega)).tuple
    simp only [List.mem_cons, List.not_mem_nil, or_false] at hx
    rcases hx with rfl | rfl
    · exact (f.ok.nm _ (List.mem_map_of_mem hp)).ok.mono (by omega) (by omega)
    · have hm := f.ok.mks p hp
      cases hp2 : p.2 with
      | none => exact Ok.none.mono (by omega) (by omega)
      | some i => rw [hp2] at hm; exact Ok.int (by have : i = 0 ∨ i = 1 := hm; omega)
  refine (mkW (D := 3) (fun x hx => ?_) ?_).tuple
  · simp only [List.mem_cons, List.not_mem_nil, or_false] at hx
    rcases hx with rfl | rfl
    · exact ⟨_, b⟩
    · exact ⟨_, a⟩
  · simp only [PyData.weightAll]
    have := a.wt
    have := b.wt
    omega
def _root_.Dv.Ev.one : Ev → Str
  | .mix w _ => w
  | .new p _ => p
  | .look w _ _ => w
  | .pour w _ _ => w
theorem ix1 {e : Ev} : evOp .ix [e.d, .int 1] = some (.str e.one) := by cases e <;> rfl
theorem one_nm {names : List Str} {e : Ev} (hN : ∀ s ∈ names, Nm s) (h : e.Ok names) : Nm e.one := by
  cases e with
  | mix w ps => exact h.1
  | new p m => exact hN _ h.1
  | look w p m => exact h.1
  | pour w ps n => exact h.1
def old (e : Ev) : Bool := !(e.kind == "new")
theorem ne_new {e : Ev} : evOp .ne [.str e.kind, .str "new"] = some (.bool (old e)) := ne_str Ev.nm nm_new
/-- who acts, event by event -/
def whos (es : List Ev) : List Str := (es.filter old).map Ev.one
def repAt (es : List Ev) (k : Nat) : Bool := match es[k]? with
  | some e => e.rep
  | none => false
def reps (es : List Ev) : List Nat := (List.range es.length).filter (repAt es)
theorem reps_lt {es : List Ev} {a : Nat} (h : a ∈ reps es) : a < es.length := List.mem_range.mp (List.mem_filter.mp h).1
theorem h_ix1 {h : Hist} : evOp .ix [h.d, .int 1] = some (.tuple (h.evs.map Ev.d)) := rfl
theorem h_ix0 {h : Hist} : evOp .ix [h.d, .int 0] = some (.tuple (h.start.map pD)) := rfl
theorem ev_at {es : List Ev} {k : Nat} (hk : k < es.length) : evOp .ix [.tuple (es.map Ev.d), .int (k : Int)] = some (es[k].d) := by
  rw [ix_tpl (by rw [List.length_map]; exact hk), List.getElem_map]
theorem len_evs {es : List Ev} : evOp .len [.tuple (es.map Ev.d)] = some (.int es.length) := by
  show some (PyData.int ((es.map Ev.d).length : Nat)) = _
  rw [List.length_map]
theorem enm_evs {es : List Ev} {j : Nat} {y : PyData} (h : ((es.map Ev.d).mapIdx fun i x => PyData.tuple [.int ((i : Nat) : Int), x])[j]? = some y) : ∃ hj : j < es.length, y = .tuple [.int (j : Int), es[j].d] := by
  rw [List.getElem?_mapIdx] at h
  cases e : (es.map Ev.d)[j]? with
  | none => rw [e] at h; cases h
  | some x =>
    rw [e] at h
    cases h
    obtain ⟨hj, e2⟩ := List.getElem?_eq_some_iff.mp e
    rw [List.length_map] at hj
    exact ⟨hj, by rw [← e2, List.getElem_map]⟩
/-! ### the program -/
theorem places_wk {h : Hist} (f : Fit h) : WK (callK FSS fuel (k + 1)) f_places_of [h.d] fun d outs => d = .tuple (sds h.names) ∧ outs = [none] := by
  have hz := sz
  have hsl : h.start.length ≤ 7 := by
    have : h.names.length = h.start.length := List.length_map _
    have := f.few
    omega
  refine wk_of (fd := d_places_of) rfl rfl ?_
  dsimp only [d_places_of]
  show WB _ _ _ [some h.d, none, none] _
  refine z_ret (x_op (x_oe rfl (x_comp (fun j ys e => ∃ (o1 o2 : Option PyData), e = [some h.d, o1, o2] ∧ ys = sds ((h.start.take j).map (·.1))) ?_)))
  (repeat (first | refine x_op ?_ | refine x_oe rfl ?_ | refine x_v rfl ?_ | refine x_k ?_ | refine x_onil ?_ | refine x_ob rfl ?_ | refine z_set ?_ | refine z_ret ?_ | refine x_econs ?_ | refine x_enil ?_ | refine x_call ?_ | refine x_kcall ?_ | refine x_and ?_ | refine x_or ?_ | refine x_not ?_ | refine x_ite ?_ | refine x_isa rfl ?_ | refine x_isab rfl ?_ | refine x_optN ?_ | refine x_optS ?_ | refine x_sl rfl ?_ | refine x_slb rfl ?_ | refine x_dget rfl ?_ | refine x_dct ?_ | refine x_pd ?_ | refine x_rng ?_ | refine x_enm ?_ | refine x_zip ?_ | refine x_seq rfl ?_ | refine x_ifN ?_ | refine x_ifS ?_ | refine x_ch ?_ | refine z_retN ?_ | refine z_ex ?_ | refine z_pass ?_ | refine z_brk ?_ | refine z_cont ?_ | refine z_par ?_ | refine z_unp ?_ | refine z_setix ?_ | refine z_setk ?_ | refine z_unp2 ?_ | refine z_par3 ?_ | refine z_app rfl ?_ | refine z_ins rfl ?_ | refine x_tup ?_ | refine x_lst ?_); try dsimp only [wback, List.set, List.cons_append, List.nil_append])
  refine ⟨_, h_ix0, ?_⟩
  refine ⟨_, rfl, by rw [List.length_map]; omega, ⟨none, none, rfl, rfl⟩, fun j y hy ys e hI => ?_, fun ys e hI => ?_⟩
  · obtain ⟨o1, o2, rfl, rfl⟩ := hI
    have hj := (List.getElem?_eq_some_iff.mp hy).1
    rw [List.length_map] at hj
    rw [List.getElem?_map, List.getElem?_eq_getElem hj] at hy
    cases hy
    refine ⟨_, rfl, x_ifN ⟨fun _ => ?_, fun q => (by cases q)⟩⟩
    (try dsimp only [wback, List.set, List.cons_append, List.nil_append])
    refine x_v rfl ⟨_, _, rfl, ?_⟩
    have ht : h.start.take (j + 1) = h.start.take j ++ [h.start[j]] := by rw [List.take_add_one, List.getElem?_eq_getElem hj]; rfl
    rw [ht]
    simp only [sds, List.map_append, List.map_cons, List.map_nil]
  · obtain ⟨o1, o2, rfl, rfl⟩ := hI
    rw [List.length_map, List.take_length]
    refine x_onil ⟨_, rfl, _, rfl, rfl, rfl⟩
theorem is_report_wk {e : Ev} : WK (callK FSS fuel (k + 1)) f_is_report [e.d] fun d outs => d = .bool e.rep ∧ outs = [none] := by
  refine wk_of (fd := d_is_report) rfl rfl ?_
  dsimp only [d_is_report]
  show WB _ _ _ [some e.d] _
  refine z_ret (x_orB ?_)
  (repeat (first | refine x_op ?_ | refine x_oe rfl ?_ | refine x_v rfl ?_ | refine x_k ?_ | refine x_onil ?_ | refine x_ob rfl ?_ | refine z_set ?_ | refine z_ret ?_ | refine x_econs ?_ | refine x_enil ?_ | refine x_call ?_ | refine x_kcall ?_ | refine x_and ?_ | refine x_or ?_ | refine x_not ?_ | refine x_ite ?_ | refine x_isa rfl ?_ | refine x_isab rfl ?_ | refine x_optN ?_ | refine x_optS ?_ | refine x_sl rfl ?_ | refine x_slb rfl ?_ | refine x_dget rfl ?_ | refine x_dct ?_ | refine x_pd ?_ | refine x_rng ?_ | refine x_enm ?_ | refine x_zip ?_ | refine x_seq rfl ?_ | refine x_ifN ?_ | refine x_ifS ?_ | refine x_ch ?_ | refine z_retN ?_ | refine z_ex ?_ | refine z_pass ?_ | refine z_brk ?_ | refine z_cont ?_ | refine z_par ?_ | refine z_unp ?_ | refine z_setix ?_ | refine z_setk ?_ | refine z_unp2 ?_ | refine z_par3 ?_ | refine z_app rfl ?_ | refine z_ins rfl ?_ | refine x_tup ?_ | refine x_lst ?_); try dsimp only [wback, List.set, List.cons_append, List.nil_append])
  refine ⟨_, Ev.ix0, ?_⟩
  (repeat (first | refine x_op ?_ | refine x_oe rfl ?_ | refine x_v rfl ?_ | refine x_k ?_ | refine x_onil ?_ | refine x_ob rfl ?_ | refine z_set ?_ | refine z_ret ?_ | refine x_econs ?_ | refine x_enil ?_ | refine x_call ?_ | refine x_kcall ?_ | refine x_and ?_ | refine x_or ?_ | refine x_not ?_ | refine x_ite ?_ | refine x_isa rfl ?_ | refine x_isab rfl ?_ | refine x_optN ?_ | refine x_optS ?_ | refine x_sl rfl ?_ | refine x_slb rfl ?_ | refine x_dget rfl ?_ | refine x_dct ?_ | refine x_pd ?_ | refine x_rng ?_ | refine x_enm ?_ | refine x_zip ?_ | refine x_seq rfl ?_ | refine x_ifN ?_ | refine x_ifS ?_ | refine x_ch ?_ | refine z_retN ?_ | refine z_ex ?_ | refine z_pass ?_ | refine z_brk ?_ | refine z_cont ?_ | refine z_par ?_ | refine z_unp ?_ | refine z_setix ?_ | refine z_setk ?_ | refine z_unp2 ?_ | refine z_par3 ?_ | refine z_app rfl ?_ | refine z_ins rfl ?_ | refine x_tup ?_ | refine x_lst ?_); try dsimp only [wback, List.set, List.cons_append, List.nil_append])
  refine ⟨_, Ev.eqK nm_look, _, rfl, ?_⟩
  (repeat (first | refine x_op ?_ | refine x_oe rfl ?_ | refine x_v rfl ?_ | refine x_k ?_ | refine x_onil ?_ | refine x_ob rfl ?_ | refine z_set ?_ | refine z_ret ?_ | refine x_econs ?_ | refine x_enil ?_ | refine x_call ?_ | refine x_kcall ?_ | refine x_and ?_ | refine x_or ?_ | refine x_not ?_ | refine x_ite ?_ | refine x_isa rfl ?_ | refine x_isab rfl ?_ | refine x_optN ?_ | refine x_optS ?_ | refine x_sl rfl ?_ | refine x_slb rfl ?_ | refine x_dget rfl ?_ | refine x_dct ?_ | refine x_pd ?_ | refine x_rng ?_ | refine x_enm ?_ | refine x_zip ?_ | refine x_seq rfl ?_ | refine x_ifN ?_ | refine x_ifS ?_ | refine x_ch ?_ | refine z_retN ?_ | refine z_ex ?_ | refine z_pass ?_ | refine z_brk ?_ | refine z_cont ?_ | refine z_par ?_ | refine z_unp ?_ | refine z_setix ?_ | refine z_setk ?_ | refine z_unp2 ?_ | refine z_par3 ?_ | refine z_app rfl ?_ | refine z_ins rfl ?_ | refine x_tup ?_ | refine x_lst ?_); try dsimp only [wback, List.set, List.cons_append, List.nil_append])
  refine ⟨_, Ev.ix0, ?_⟩
  (repeat (first | refine x_op ?_ | refine x_oe rfl ?_ | refine x_v rfl ?_ | refine x_k ?_ | refine x_onil ?_ | refine x_ob rfl ?_ | refine z_set ?_ | refine z_ret ?_ | refine x_econs ?_ | refine x_enil ?_ | refine x_call ?_ | refine x_kcall ?_ | refine x_and ?_ | refine x_or ?_ | refine x_not ?_ | refine x_ite ?_ | refine x_isa rfl ?_ | refine x_isab rfl ?_ | refine x_optN ?_ | refine x_optS ?_ | refine x_sl rfl ?_ | refine x_slb rfl ?_ | refine x_dget rfl ?_ | refine x_dct ?_ | refine x_pd ?_ | refine x_rng ?_ | refine x_enm ?_ | refine x_zip ?_ | refine x_seq rfl ?_ | refine x_ifN ?_ | refine x_ifS ?_ | refine x_ch ?_ | refine z_retN ?_ | refine z_ex ?_ | refine z_pass ?_ | refine z_brk ?_ | refine z_cont ?_ | refine z_par ?_ | refine z_unp ?_ | refine z_setix ?_ | refine z_setk ?_ | refine z_unp2 ?_ | refine z_par3 ?_ | refine z_app rfl ?_ | refine z_ins rfl ?_ | refine x_tup ?_ | refine x_lst ?_); try dsimp only [wback, List.set, List.cons_append, List.nil_append])
  refine ⟨_, Ev.eqK nm_pour, _, rfl, rfl, _, rfl, ?_, rfl⟩
  refine congrArg PyData.bool ?_
  cases e
  · show ((("mix" : Str) == "look") || (("mix" : Str) == "pour")) = false; decide +kernel
  · show ((("new" : Str) == "look") || (("new" : Str) == "pour")) = false; decide +kernel
  · show ((("look" : Str) == "look") || (("look" : Str) == "pour")) = true; decide +kernel
  · show ((("pour" : Str) == "look") || (("pour" : Str) == "pour")) = true; decide +kernel
theorem reports_of_wk {h : Hist} (hl : h.evs.length ≤ 1000) : WK (callK FSS fuel (k + 2)) f_reports_of [h.d] fun d outs => d = .tuple ((reps h.evs).map natD) ∧ outs = [none] := by
  have hz := sz
  refine wk_of (fd := d_reports_of) rfl rfl ?_
  dsimp only [d_reports_of]
  show WB _ _ _ [some h.d, none, none] _
  refine z_ret (x_op (x_oe rfl (x_comp (fun j ys e => ∃ (o1 o2 : Option PyData), e = [some h.d, o1, o2] ∧ ys = ((List.range j).filter (repAt h.evs)).map natD) ?_)))
  refine x_enm ?_
  (repeat (first | refine x_op ?_ | refine x_oe rfl ?_ | refine x_v rfl ?_ | refine x_k ?_ | refine x_onil ?_ | refine x_ob rfl ?_ | refine z_set ?_ | refine z_ret ?_ | refine x_econs ?_ | refine x_enil ?_ | refine x_call ?_ | refine x_kcall ?_ | refine x_and ?_ | refine x_or ?_ | refine x_not ?_ | refine x_ite ?_ | refine x_isa rfl ?_ | refine x_isab rfl ?_ | refine x_optN ?_ | refine x_optS ?_ | refine x_sl rfl ?_ | refine x_slb rfl ?_ | refine x_dget rfl ?_ | refine x_dct ?_ | refine x_pd ?_ | refine x_rng ?_ | refine x_enm ?_ | refine x_zip ?_ | refine x_seq rfl ?_ | refine x_ifN ?_ | refine x_ifS ?_ | refine x_ch ?_ | refine z_retN ?_ | refine z_ex ?_ | refine z_pass ?_ | refine z_brk ?_ | refine z_cont ?_ | refine z_par ?_ | refine z_unp ?_ | refine z_setix ?_ | refine z_setk ?_ | refine z_unp2 ?_ | refine z_par3 ?_ | refine z_app rfl ?_ | refine z_ins rfl ?_ | refine x_tup ?_ | refine x_lst ?_); try dsimp only [wback, List.set, List.cons_append, List.nil_append])
  refine ⟨_, h_ix1, x_enil ?_⟩
  refine ⟨_, rfl, by rw [List.length_mapIdx, List.length_map]; omega, ⟨none, none, rfl, rfl⟩, fun j y hy ys e hI => ?_, fun ys e hI => ?_⟩
  · obtain ⟨o1, o2, rfl, rfl⟩ := hI
    obtain ⟨hj, rfl⟩ := enm_evs hy
    have hra : repAt h.evs j = (h.evs[j]).rep := by unfold repAt; rw [List.getElem?_eq_getElem hj]
    refine ⟨_, rfl, x_ifS ?_⟩
    (try dsimp only [wback, List.set, List.cons_append, List.nil_append])
    (repeat (first | refine x_op ?_ | refine x_oe rfl ?_ | refine x_v rfl ?_ | refine x_k ?_ | refine x_onil ?_ | refine x_ob rfl ?_ | refine z_set ?_ | refine z_ret ?_ | refine x_econs ?_ | refine x_enil ?_ | refine x_call ?_ | refine x_kcall ?_ | refine x_and ?_ | refine x_or ?_ | refine x_not ?_ | refine x_ite ?_ | refine x_isa rfl ?_ | refine x_isab rfl ?_ | refine x_optN ?_ | refine x_optS ?_ | refine x_sl rfl ?_ | refine x_slb rfl ?_ | refine x_dget rfl ?_ | refine x_dct ?_ | refine x_pd ?_ | refine x_rng ?_ | refine x_enm ?_ | refine x_zip ?_ | refine x_seq rfl ?_ | refine x_ifN ?_ | refine x_ifS ?_ | refine x_ch ?_ | refine z_retN ?_ | refine z_ex ?_ | refine z_pass ?_ | refine z_brk ?_ | refine z_cont ?_ | refine z_par ?_ | refine z_unp ?_ | refine z_setix ?_ | refine z_setk ?_ | refine z_unp2 ?_ | refine z_par3 ?_ | refine z_app rfl ?_ | refine z_ins rfl ?_ | refine x_tup ?_ | refine x_lst ?_); try dsimp only [wback, List.set, List.cons_append, List.nil_append])
    refine is_report_wk.mono ?_
    rintro _ _ ⟨rfl, rfl⟩
    rw [← hra]
    refine ⟨_, rfl, fun q => ?_, fun q => ?_⟩
    · refine x_v rfl ⟨_, _, rfl, ?_⟩
      rw [List.range_succ, List.filter_append, List.map_append, List.filter_cons, if_pos q]; rfl
    · refine ⟨_, _, rfl, ?_⟩
      rw [List.range_succ, List.filter_append, List.map_append, List.filter_cons, if_neg (by rw [q]; simp)]; simp
  · obtain ⟨o1, o2, rfl, rfl⟩ := hI
    rw [List.length_mapIdx, List.length_map]
    refine x_onil ⟨_, rfl, _, rfl, rfl, rfl⟩
/-- the reports by some persons -/
def byG (es : List Ev) (g : List Str) : List Nat := (reps es).filter fun a => match es[a]? with
  | some e => g.contains e.one
  | none => false
theorem by_at {es : List Ev} {g : List Str} {a : Nat} (h : a < es.length) : (match es[a]? with | some e => g.contains e.one | none => false) = g.contains es[a].one := by
  rw [List.getElem?_eq_getElem h]
theorem reports_by_wk {h : Hist} {g : List Str} (f : Fit h) (hg : ∀ s ∈ g, Nm s) : WK (callK FSS fuel (k + 3)) f_reports_by [h.d, .tuple (sds g)] fun d outs => d = .tuple ((byG h.evs g).map natD) ∧ outs = [none, none] := by
  have hz := sz
  have hev := f.evs
  have hrl : (reps h.evs).length ≤ 14 := by
    have := List.length_filter_le (repAt h.evs) (List.range h.evs.length)
    rw [List.length_range] at this
    unfold reps
    omega
  refine wk_of (fd := d_reports_by) rfl rfl ?_
  dsimp only [d_reports_by]
  show WB _ _ _ [some h.d, some (.tuple (sds g)), none] _
  refine z_ret (x_op (x_oe rfl (x_compM (reps h.evs) natD (fun a => match h.evs[a]? with | some e => g.contains e.one | none => false) natD (show 2 < 3 by decide) ?_)))
  (repeat (first | refine x_op ?_ | refine x_oe rfl ?_ | refine x_v rfl ?_ | refine x_k ?_ | refine x_onil ?_ | refine x_ob rfl ?_ | refine z_set ?_ | refine z_ret ?_ | refine x_econs ?_ | refine x_enil ?_ | refine x_call ?_ | refine x_kcall ?_ | refine x_and ?_ | refine x_or ?_ | refine x_not ?_ | refine x_ite ?_ | refine x_isa rfl ?_ | refine x_isab rfl ?_ | refine x_optN ?_ | refine x_optS ?_ | refine x_sl rfl ?_ | refine x_slb rfl ?_ | refine x_dget rfl ?_ | refine x_dct ?_ | refine x_pd ?_ | refine x_rng ?_ | refine x_enm ?_ | refine x_zip ?_ | refine x_seq rfl ?_ | refine x_ifN ?_ | refine x_ifS ?_ | refine x_ch ?_ | refine z_retN ?_ | refine z_ex ?_ | refine z_pass ?_ | refine z_brk ?_ | refine z_cont ?_ | refine z_par ?_ | refine z_unp ?_ | refine z_setix ?_ | refine z_setk ?_ | refine z_unp2 ?_ | refine z_par3 ?_ | refine z_app rfl ?_ | refine z_ins rfl ?_ | refine x_tup ?_ | refine x_lst ?_); try dsimp only [wback, List.set, List.cons_append, List.nil_append])
  refine (reports_of_wk (k := k) (by omega)).mono ?_
  rintro _ _ ⟨rfl, rfl⟩
  refine ⟨_, rfl, rfl, rfl, by omega, fun a ha => ?_, fun x hx _ => x_v rfl ⟨rfl, rfl⟩, ?_⟩
  · have hlt := reps_lt ha
    rw [by_at hlt]
    refine x_ifS ?_
    (repeat (first | refine x_op ?_ | refine x_oe rfl ?_ | refine x_v rfl ?_ | refine x_k ?_ | refine x_onil ?_ | refine x_ob rfl ?_ | refine z_set ?_ | refine z_ret ?_ | refine x_econs ?_ | refine x_enil ?_ | refine x_call ?_ | refine x_kcall ?_ | refine x_and ?_ | refine x_or ?_ | refine x_not ?_ | refine x_ite ?_ | refine x_isa rfl ?_ | refine x_isab rfl ?_ | refine x_optN ?_ | refine x_optS ?_ | refine x_sl rfl ?_ | refine x_slb rfl ?_ | refine x_dget rfl ?_ | refine x_dct ?_ | refine x_pd ?_ | refine x_rng ?_ | refine x_enm ?_ | refine x_zip ?_ | refine x_seq rfl ?_ | refine x_ifN ?_ | refine x_ifS ?_ | refine x_ch ?_ | refine z_retN ?_ | refine z_ex ?_ | refine z_pass ?_ | refine z_brk ?_ | refine z_cont ?_ | refine z_par ?_ | refine z_unp ?_ | refine z_setix ?_ | refine z_setk ?_ | refine z_unp2 ?_ | refine z_par3 ?_ | refine z_app rfl ?_ | refine z_ins rfl ?_ | refine x_tup ?_ | refine x_lst ?_); try dsimp only [wback, List.set, List.cons_append, List.nil_append])
    refine ⟨_, h_ix1, ?_⟩
    (repeat (first | refine x_op ?_ | refine x_oe rfl ?_ | refine x_v rfl ?_ | refine x_k ?_ | refine x_onil ?_ | refine x_ob rfl ?_ | refine z_set ?_ | refine z_ret ?_ | refine x_econs ?_ | refine x_enil ?_ | refine x_call ?_ | refine x_kcall ?_ | refine x_and ?_ | refine x_or ?_ | refine x_not ?_ | refine x_ite ?_ | refine x_isa rfl ?_ | refine x_isab rfl ?_ | refine x_optN ?_ | refine x_optS ?_ | refine x_sl rfl ?_ | refine x_slb rfl ?_ | refine x_dget rfl ?_ | refine x_dct ?_ | refine x_pd ?_ | refine x_rng ?_ | refine x_enm ?_ | refine x_zip ?_ | refine x_seq rfl ?_ | refine x_ifN ?_ | refine x_ifS ?_ | refine x_ch ?_ | refine z_retN ?_ | refine z_ex ?_ | refine z_pass ?_ | refine z_brk ?_ | refine z_cont ?_ | refine z_par ?_ | refine z_unp ?_ | refine z_setix ?_ | refine z_setk ?_ | refine z_unp2 ?_ | refine z_par3 ?_ | refine z_app rfl ?_ | refine z_ins rfl ?_ | refine x_tup ?_ | refine x_lst ?_); try dsimp only [wback, List.set, List.cons_append, List.nil_append])
    refine ⟨_, ev_at hlt, ?_⟩
    (repeat (first | refine x_op ?_ | refine x_oe rfl ?_ | refine x_v rfl ?_ | refine x_k ?_ | refine x_onil ?_ | refine x_ob rfl ?_ | refine z_set ?_ | refine z_ret ?_ | refine x_econs ?_ | refine x_enil ?_ | refine x_call ?_ | refine x_kcall ?_ | refine x_and ?_ | refine x_or ?_ | refine x_not ?_ | refine x_ite ?_ | refine x_isa rfl ?_ | refine x_isab rfl ?_ | refine x_optN ?_ | refine x_optS ?_ | refine x_sl rfl ?_ | refine x_slb rfl ?_ | refine x_dget rfl ?_ | refine x_dct ?_ | refine x_pd ?_ | refine x_rng ?_ | refine x_enm ?_ | refine x_zip ?_ | refine x_seq rfl ?_ | refine x_ifN ?_ | refine x_ifS ?_ | refine x_ch ?_ | refine z_retN ?_ | refine z_ex ?_ | refine z_pass ?_ | refine z_brk ?_ | refine z_cont ?_ | refine z_par ?_ | refine z_unp ?_ | refine z_setix ?_ | refine z_setk ?_ | refine z_unp2 ?_ | refine z_par3 ?_ | refine z_app rfl ?_ | refine z_ins rfl ?_ | refine x_tup ?_ | refine x_lst ?_); try dsimp only [wback, List.set, List.cons_append, List.nil_append])
    refine ⟨_, ix1, ?_⟩
    (repeat (first | refine x_op ?_ | refine x_oe rfl ?_ | refine x_v rfl ?_ | refine x_k ?_ | refine x_onil ?_ | refine x_ob rfl ?_ | refine z_set ?_ | refine z_ret ?_ | refine x_econs ?_ | refine x_enil ?_ | refine x_call ?_ | refine x_kcall ?_ | refine x_and ?_ | refine x_or ?_ | refine x_not ?_ | refine x_ite ?_ | refine x_isa rfl ?_ | refine x_isab rfl ?_ | refine x_optN ?_ | refine x_optS ?_ | refine x_sl rfl ?_ | refine x_slb rfl ?_ | refine x_dget rfl ?_ | refine x_dct ?_ | refine x_pd ?_ | refine x_rng ?_ | refine x_enm ?_ | refine x_zip ?_ | refine x_seq rfl ?_ | refine x_ifN ?_ | refine x_ifS ?_ | refine x_ch ?_ | refine z_retN ?_ | refine z_ex ?_ | refine z_pass ?_ | refine z_brk ?_ | refine z_cont ?_ | refine z_par ?_ | refine z_unp ?_ | refine z_setix ?_ | refine z_setk ?_ | refine z_unp2 ?_ | refine z_par3 ?_ | refine z_app rfl ?_ | refine z_ins rfl ?_ | refine x_tup ?_ | refine x_lst ?_); try dsimp only [wback, List.set, List.cons_append, List.nil_append])
    exact ⟨_, in_sdsT hg (one_nm f.ok.nm (f.ok.ev _ (List.getElem_mem hlt))), _, rfl, rfl, rfl⟩
  · refine x_onil ⟨_, rfl, _, rfl, rfl, rfl⟩
/-! ### sorted names -/
theorem srt_perm {a b : List Str} (h : a.Perm b) : srtS a = srtS b := by
  have h2 : ∀ l : List Str, (srtS l).Pairwise fun a b => decide (a.cps.toList ≤ b.cps.toList) = true := fun l =>
    List.pairwise_mergeSort (le := fun a b : Str => decide (a.cps.toList ≤ b.cps.toList)) (fun a b c h h' => decide_eq_true (List.le_trans (of_decide_eq_true h) (of_decide_eq_true h'))) (fun a b => by
      simp only [Bool.or_eq_true, decide_eq_true_eq]
      exact List.le_total _ _) l
  refine (((List.mergeSort_perm a _).trans h).trans (List.mergeSort_perm b _).symm).eq_of_pairwise (fun x y _ _ h h' => ?_) (h2 a) (h2 b)
  exact cps_inj (List.le_antisymm (of_decide_eq_true h) (of_decide_eq_true h'))
theorem insL_nodup {l : List Str} {x : Str} (h : l.Nodup) : (insL l x).Nodup := by
  unfold insL
  split
  · exact h
  · rename_i hx; exact List.nodup_cons.mpr ⟨hx, h⟩
theorem insAll_nodup : ∀ {zs l : List Str}, l.Nodup → (insAll l zs).Nodup
  | [], _, h => h
  | z :: zs, l, h => insAll_nodup (zs := zs) (insL_nodup (x := z) h)
def appL (l : List Str) (x : Str) : List Str := if x ∈ l then l else l ++ [x]
def trues (l : List Str) : List (PyData × PyData) := l.map fun x => (.str x, .bool true)
theorem any_trues {x : Str} : ∀ {l : List Str}, ((trues l).any (isK x)) = l.contains x
  | [] => rfl
  | y :: l => by
    unfold trues
    rw [List.map_cons, List.any_cons, List.contains_cons, show ((l.map fun x => (PyData.str x, PyData.bool true)).any (isK x)) = l.contains x from any_trues]
    congr 1
    show decide (y = x) = (x == y)
    by_cases h : y = x
    · rw [decide_eq_true h, h]; exact (beq_self_eq_true x).symm
    · rw [decide_eq_false h]; exact (beq_eq_false_iff_ne.mpr (Ne.symm h)).symm
theorem put_trues {l : List Str} {x : Str} : dPut (trues l) x (.bool true) = trues (appL l x) := by
  unfold dPut appL
  rw [any_trues]
  by_cases h : x ∈ l
  · rw [if_pos (List.contains_iff_mem.mpr h), if_pos h]
    unfold trues
    rw [List.map_map]
    refine List.map_congr_left fun y _ => ?_
    show (if isK x (PyData.str y, PyData.bool true) = true then _ else _) = _
    split <;> rfl
  · rw [if_neg (by rw [List.contains_iff_mem]; exact h), if_neg h]
    unfold trues
    rw [List.map_append]; rfl
theorem mk_trues : ∀ (zs l : List Str), (zs.map fun x => (x, PyData.bool true)).foldl (fun m p => dPut m p.1 p.2) (trues l) = trues (zs.foldl appL l)
  | [], _ => rfl
  | z :: zs, l => by
    rw [List.map_cons, List.foldl_cons, List.foldl_cons, put_trues, mk_trues zs]
theorem appL_ok {l : List Str} {x : Str} (h : l.Nodup) : (appL l x).Nodup ∧ ∀ y, y ∈ appL l x ↔ y ∈ l ∨ y = x := by
  unfold appL
  split
  · rename_i hx
    exact ⟨h, fun y => ⟨.inl, fun q => q.elim id fun e => e ▸ hx⟩⟩
  · rename_i hx
    refine ⟨List.nodup_append.mpr ⟨h, List.nodup_cons.mpr ⟨by simp, List.nodup_nil⟩, fun a ha b hb => by rw [List.mem_singleton.mp hb]; exact fun z => hx (z ▸ ha)⟩, fun y => ?_⟩
    rw [List.mem_append, List.mem_singleton]
theorem appAll_ok : ∀ (zs l : List Str), l.Nodup → (zs.foldl appL l).Nodup ∧ ∀ y, y ∈ zs.foldl appL l ↔ y ∈ l ∨ y ∈ zs
  | [], l, h => ⟨h, fun y => by simp⟩
  | z :: zs, l, h => by
    obtain ⟨h1, h2⟩ := appL_ok (x := z) h
    obtain ⟨h3, h4⟩ := appAll_ok zs _ h1
    refine ⟨h3, fun y => ?_⟩
    rw [List.foldl_cons, h4, h2, List.mem_cons, or_assoc]
theorem appAll_len : ∀ (zs l : List Str), (zs.foldl appL l).length ≤ l.length + zs.length
  | [], l => Nat.le_refl _
  | z :: zs, l => by
    have h1 := appAll_len zs (appL l z)
    have h2 : (appL l z).length ≤ l.length + 1 := by
      unfold appL
      split
      · omega
      · rw [List.length_append]; exact Nat.le_refl _
    rw [List.foldl_cons, List.length_cons]
    omega
theorem keys_trues : ∀ (l : List Str), keysS (trues l) = some l
  | [] => rfl
  | x :: l => by
    show (keysS (trues l)).map (x :: ·) = _
    rw [keys_trues l]; rfl
theorem same_who (zs : List Str) : srtS (zs.foldl appL []) = srtS (insAll [] zs) := by
  obtain ⟨h1, h2⟩ := appAll_ok zs [] List.nodup_nil
  refine srt_perm ((List.perm_ext_iff_of_nodup h1 (insAll_nodup List.nodup_nil)).mpr fun y => ?_)
  rw [h2, insAll_mem]
theorem whos_len {es : List Ev} : (whos es).length ≤ es.length := by
  unfold whos
  rw [List.length_map]
  exact List.length_filter_le _ _
/-- the persons, in order -/
def folk (es : List Ev) : List Str := srtS (insAll [] (whos es))
theorem pairs_who : ∀ (zs : List Str), pairsD (zs.map fun x => PyData.tuple [.str x, .bool true]) = some (zs.map fun x => (x, PyData.bool true))
  | [] => rfl
  | z :: zs => by
    show (pairsD (zs.map fun x => PyData.tuple [.str x, .bool true])).map _ = _
    rw [pairs_who zs]; rfl
theorem persons_wk {h : Hist} (f : Fit h) : WK (callK FSS fuel (k + 1)) f_persons_of [h.d] fun d outs => d = .tuple (sds (folk h.evs)) ∧ outs = [none] := by
  have hz := sz
  have hev := f.evs
  refine wk_of (fd := d_persons_of) rfl rfl ?_
  dsimp only [d_persons_of]
  show WB _ _ _ [some h.d, none, none] _
  refine z_set (x_dcm (fun j ys e => ∃ (o2 : Option PyData), e = [some h.d, none, o2] ∧ ys = (whos (h.evs.take j)).map fun x => .tuple [.str x, .bool true]) ?_)
  (repeat (first | refine x_op ?_ | refine x_oe rfl ?_ | refine x_v rfl ?_ | refine x_k ?_ | refine x_onil ?_ | refine x_ob rfl ?_ | refine z_set ?_ | refine z_ret ?_ | refine x_econs ?_ | refine x_enil ?_ | refine x_call ?_ | refine x_kcall ?_ | refine x_and ?_ | refine x_or ?_ | refine x_not ?_ | refine x_ite ?_ | refine x_isa rfl ?_ | refine x_isab rfl ?_ | refine x_optN ?_ | refine x_optS ?_ | refine x_sl rfl ?_ | refine x_slb rfl ?_ | refine x_dget rfl ?_ | refine x_dct ?_ | refine x_pd ?_ | refine x_rng ?_ | refine x_enm ?_ | refine x_zip ?_ | refine x_seq rfl ?_ | refine x_ifN ?_ | refine x_ifS ?_ | refine x_ch ?_ | refine z_retN ?_ | refine z_ex ?_ | refine z_pass ?_ | refine z_brk ?_ | refine z_cont ?_ | refine z_par ?_ | refine z_unp ?_ | refine z_setix ?_ | refine z_setk ?_ | refine z_unp2 ?_ | refine z_par3 ?_ | refine z_app rfl ?_ | refine z_ins rfl ?_ | refine x_tup ?_ | refine x_lst ?_); try dsimp only [wback, List.set, List.cons_append, List.nil_append])
  refine ⟨_, h_ix1, ?_⟩
  refine ⟨_, rfl, by rw [List.length_map]; omega, ⟨none, rfl, rfl⟩, fun j y hy ys e hI => ?_, fun ys e hI => ?_⟩
  · obtain ⟨o2, rfl, rfl⟩ := hI
    have hj := (List.getElem?_eq_some_iff.mp hy).1
    rw [List.length_map] at hj
    rw [List.getElem?_map, List.getElem?_eq_getElem hj] at hy
    cases hy
    have ht : whos (h.evs.take (j + 1)) = whos (h.evs.take j) ++ (if old h.evs[j] = true then [h.evs[j].one] else []) := by
      unfold whos
      rw [List.take_add_one, List.getElem?_eq_getElem hj, List.filter_append, List.map_append]
      congr 1
      show (([h.evs[j]] : List Ev).filter old).map Ev.one = _
      rw [List.filter_cons]
      split <;> rfl
    refine ⟨_, rfl, x_ifS ?_⟩
    (try dsimp only [wback, List.set, List.cons_append, List.nil_append])
    (repeat (first | refine x_op ?_ | refine x_oe rfl ?_ | refine x_v rfl ?_ | refine x_k ?_ | refine x_onil ?_ | refine x_ob rfl ?_ | refine z_set ?_ | refine z_ret ?_ | refine x_econs ?_ | refine x_enil ?_ | refine x_call ?_ | refine x_kcall ?_ | refine x_and ?_ | refine x_or ?_ | refine x_not ?_ | refine x_ite ?_ | refine x_isa rfl ?_ | refine x_isab rfl ?_ | refine x_optN ?_ | refine x_optS ?_ | refine x_sl rfl ?_ | refine x_slb rfl ?_ | refine x_dget rfl ?_ | refine x_dct ?_ | refine x_pd ?_ | refine x_rng ?_ | refine x_enm ?_ | refine x_zip ?_ | refine x_seq rfl ?_ | refine x_ifN ?_ | refine x_ifS ?_ | refine x_ch ?_ | refine z_retN ?_ | refine z_ex ?_ | refine z_pass ?_ | refine z_brk ?_ | refine z_cont ?_ | refine z_par ?_ | refine z_unp ?_ | refine z_setix ?_ | refine z_setk ?_ | refine z_unp2 ?_ | refine z_par3 ?_ | refine z_app rfl ?_ | refine z_ins rfl ?_ | refine x_tup ?_ | refine x_lst ?_); try dsimp only [wback, List.set, List.cons_append, List.nil_append])
    refine ⟨_, Ev.ix0, ?_⟩
    (repeat (first | refine x_op ?_ | refine x_oe rfl ?_ | refine x_v rfl ?_ | refine x_k ?_ | refine x_onil ?_ | refine x_ob rfl ?_ | refine z_set ?_ | refine z_ret ?_ | refine x_econs ?_ | refine x_enil ?_ | refine x_call ?_ | refine x_kcall ?_ | refine x_and ?_ | refine x_or ?_ | refine x_not ?_ | refine x_ite ?_ | refine x_isa rfl ?_ | refine x_isab rfl ?_ | refine x_optN ?_ | refine x_optS ?_ | refine x_sl rfl ?_ | refine x_slb rfl ?_ | refine x_dget rfl ?_ | refine x_dct ?_ | refine x_pd ?_ | refine x_rng ?_ | refine x_enm ?_ | refine x_zip ?_ | refine x_seq rfl ?_ | refine x_ifN ?_ | refine x_ifS ?_ | refine x_ch ?_ | refine z_retN ?_ | refine z_ex ?_ | refine z_pass ?_ | refine z_brk ?_ | refine z_cont ?_ | refine z_par ?_ | refine z_unp ?_ | refine z_setix ?_ | refine z_setk ?_ | refine z_unp2 ?_ | refine z_par3 ?_ | refine z_app rfl ?_ | refine z_ins rfl ?_ | refine x_tup ?_ | refine x_lst ?_); try dsimp only [wback, List.set, List.cons_append, List.nil_append])
    refine ⟨_, ne_new, _, rfl, fun q => ?_, fun q => ?_⟩
    · (repeat (first | refine x_op ?_ | refine x_oe rfl ?_ | refine x_v rfl ?_ | refine x_k ?_ | refine x_onil ?_ | refine x_ob rfl ?_ | refine z_set ?_ | refine z_ret ?_ | refine x_econs ?_ | refine x_enil ?_ | refine x_call ?_ | refine x_kcall ?_ | refine x_and ?_ | refine x_or ?_ | refine x_not ?_ | refine x_ite ?_ | refine x_isa rfl ?_ | refine x_isab rfl ?_ | refine x_optN ?_ | refine x_optS ?_ | refine x_sl rfl ?_ | refine x_slb rfl ?_ | refine x_dget rfl ?_ | refine x_dct ?_ | refine x_pd ?_ | refine x_rng ?_ | refine x_enm ?_ | refine x_zip ?_ | refine x_seq rfl ?_ | refine x_ifN ?_ | refine x_ifS ?_ | refine x_ch ?_ | refine z_retN ?_ | refine z_ex ?_ | refine z_pass ?_ | refine z_brk ?_ | refine z_cont ?_ | refine z_par ?_ | refine z_unp ?_ | refine z_setix ?_ | refine z_setk ?_ | refine z_unp2 ?_ | refine z_par3 ?_ | refine z_app rfl ?_ | refine z_ins rfl ?_ | refine x_tup ?_ | refine x_lst ?_); try dsimp only [wback, List.set, List.cons_append, List.nil_append])
      refine ⟨_, ix1, ?_⟩
      refine x_k ⟨_, rfl, ?_⟩
      rw [ht, if_pos q, List.map_append]; rfl
    · refine ⟨_, rfl, ?_⟩
      rw [ht, if_neg (by rw [q]; simp), List.append_nil]
  · obtain ⟨o2, rfl, rfl⟩ := hI
    rw [List.length_map, List.take_length]
    refine ⟨_, pairs_who _, ?_⟩
    have hmk : dMk ((whos h.evs).map fun x => (x, PyData.bool true)) = trues ((whos h.evs).foldl appL []) := mk_trues (whos h.evs) []
    rw [hmk]
    dsimp only [tgSlots, backE]
    (try dsimp only [wback, List.set, List.cons_append, List.nil_append])
    have few : ((whos h.evs).foldl appL []).length < 64 := by
      have := appAll_len (whos h.evs) []
      have := whos_len (es := h.evs)
      simp only [List.length_nil] at *
      omega
    have es : evOp .srt [.dict (trues ((whos h.evs).foldl appL []))] = some (.list (sds (folk h.evs))) := by
      show sortD (.dict _) = _
      simp only [sortD, keys_trues]
      rw [if_pos few, same_who]; rfl
    refine z_ret (x_op (x_oe rfl (x_op (x_oe rfl (x_v rfl (x_onil ⟨_, es, ?_⟩))))))
    refine x_onil ⟨_, rfl, _, rfl, rfl, rfl⟩
/-! ### the law's own -/
theorem names_wk {h : Hist} (f : Fit h) : WK (callK FSS fuel (k + 1)) f__law_names [h.d] fun d outs => d = .list (sds h.names) ∧ outs = [none] := by
  have hz := sz
  have hsl : h.start.length ≤ 7 := by
    have : h.names.length = h.start.length := List.length_map _
    have := f.few
    omega
  refine wk_of (fd := d__law_names) rfl rfl ?_
  dsimp only [d__law_names]
  show WB _ _ _ [some h.d, none] _
  refine z_ret (x_compM h.start pD (fun _ => true) (fun p => .str p.1) (show 1 < 2 by decide) ?_)
  (repeat (first | refine x_op ?_ | refine x_oe rfl ?_ | refine x_v rfl ?_ | refine x_k ?_ | refine x_onil ?_ | refine x_ob rfl ?_ | refine z_set ?_ | refine z_ret ?_ | refine x_econs ?_ | refine x_enil ?_ | refine x_call ?_ | refine x_kcall ?_ | refine x_and ?_ | refine x_or ?_ | refine x_not ?_ | refine x_ite ?_ | refine x_isa rfl ?_ | refine x_isab rfl ?_ | refine x_optN ?_ | refine x_optS ?_ | refine x_sl rfl ?_ | refine x_slb rfl ?_ | refine x_dget rfl ?_ | refine x_dct ?_ | refine x_pd ?_ | refine x_rng ?_ | refine x_enm ?_ | refine x_zip ?_ | refine x_seq rfl ?_ | refine x_ifN ?_ | refine x_ifS ?_ | refine x_ch ?_ | refine z_retN ?_ | refine z_ex ?_ | refine z_pass ?_ | refine z_brk ?_ | refine z_cont ?_ | refine z_par ?_ | refine z_unp ?_ | refine z_setix ?_ | refine z_setk ?_ | refine z_unp2 ?_ | refine z_par3 ?_ | refine z_app rfl ?_ | refine z_ins rfl ?_ | refine x_tup ?_ | refine x_lst ?_); try dsimp only [wback, List.set, List.cons_append, List.nil_append])
  refine ⟨_, h_ix0, ?_⟩
  refine ⟨_, rfl, rfl, rfl, by omega, fun x hx => wf_none ⟨rfl, rfl⟩, fun x hx _ => ?_, ?_⟩
  · (repeat (first | refine x_op ?_ | refine x_oe rfl ?_ | refine x_v rfl ?_ | refine x_k ?_ | refine x_onil ?_ | refine x_ob rfl ?_ | refine z_set ?_ | refine z_ret ?_ | refine x_econs ?_ | refine x_enil ?_ | refine x_call ?_ | refine x_kcall ?_ | refine x_and ?_ | refine x_or ?_ | refine x_not ?_ | refine x_ite ?_ | refine x_isa rfl ?_ | refine x_isab rfl ?_ | refine x_optN ?_ | refine x_optS ?_ | refine x_sl rfl ?_ | refine x_slb rfl ?_ | refine x_dget rfl ?_ | refine x_dct ?_ | refine x_pd ?_ | refine x_rng ?_ | refine x_enm ?_ | refine x_zip ?_ | refine x_seq rfl ?_ | refine x_ifN ?_ | refine x_ifS ?_ | refine x_ch ?_ | refine z_retN ?_ | refine z_ex ?_ | refine z_pass ?_ | refine z_brk ?_ | refine z_cont ?_ | refine z_par ?_ | refine z_unp ?_ | refine z_setix ?_ | refine z_setk ?_ | refine z_unp2 ?_ | refine z_par3 ?_ | refine z_app rfl ?_ | refine z_ins rfl ?_ | refine x_tup ?_ | refine x_lst ?_); try dsimp only [wback, List.set, List.cons_append, List.nil_append])
    exact ⟨_, rfl, rfl, rfl⟩
  · rw [List.filter_eq_self.mpr (fun _ _ => rfl)]
    refine ⟨_, rfl, ?_, rfl⟩
    show PyData.list _ = .list (sds (h.start.map (·.1)))
    rw [sds, List.map_map]; rfl
theorem law_reports_wk {h : Hist} (hl : h.evs.length ≤ 1000) : WK (callK FSS fuel (k + 1)) f__law_reports [h.d] fun d outs => d = .list ((reps h.evs).map natD) ∧ outs = [none] := by
  have hz := sz
  refine wk_of (fd := d__law_reports) rfl rfl ?_
  dsimp only [d__law_reports]
  show WB _ _ _ [some h.d, none] _
  refine z_ret (x_compM (List.range h.evs.length) natD (repAt h.evs) natD (show 1 < 2 by decide) ?_)
  (repeat (first | refine x_op ?_ | refine x_oe rfl ?_ | refine x_v rfl ?_ | refine x_k ?_ | refine x_onil ?_ | refine x_ob rfl ?_ | refine z_set ?_ | refine z_ret ?_ | refine x_econs ?_ | refine x_enil ?_ | refine x_call ?_ | refine x_kcall ?_ | refine x_and ?_ | refine x_or ?_ | refine x_not ?_ | refine x_ite ?_ | refine x_isa rfl ?_ | refine x_isab rfl ?_ | refine x_optN ?_ | refine x_optS ?_ | refine x_sl rfl ?_ | refine x_slb rfl ?_ | refine x_dget rfl ?_ | refine x_dct ?_ | refine x_pd ?_ | refine x_rng ?_ | refine x_enm ?_ | refine x_zip ?_ | refine x_seq rfl ?_ | refine x_ifN ?_ | refine x_ifS ?_ | refine x_ch ?_ | refine z_retN ?_ | refine z_ex ?_ | refine z_pass ?_ | refine z_brk ?_ | refine z_cont ?_ | refine z_par ?_ | refine z_unp ?_ | refine z_setix ?_ | refine z_setk ?_ | refine z_unp2 ?_ | refine z_par3 ?_ | refine z_app rfl ?_ | refine z_ins rfl ?_ | refine x_tup ?_ | refine x_lst ?_); try dsimp only [wback, List.set, List.cons_append, List.nil_append])
  refine ⟨_, h_ix1, ?_⟩
  (repeat (first | refine x_op ?_ | refine x_oe rfl ?_ | refine x_v rfl ?_ | refine x_k ?_ | refine x_onil ?_ | refine x_ob rfl ?_ | refine z_set ?_ | refine z_ret ?_ | refine x_econs ?_ | refine x_enil ?_ | refine x_call ?_ | refine x_kcall ?_ | refine x_and ?_ | refine x_or ?_ | refine x_not ?_ | refine x_ite ?_ | refine x_isa rfl ?_ | refine x_isab rfl ?_ | refine x_optN ?_ | refine x_optS ?_ | refine x_sl rfl ?_ | refine x_slb rfl ?_ | refine x_dget rfl ?_ | refine x_dct ?_ | refine x_pd ?_ | refine x_rng ?_ | refine x_enm ?_ | refine x_zip ?_ | refine x_seq rfl ?_ | refine x_ifN ?_ | refine x_ifS ?_ | refine x_ch ?_ | refine z_retN ?_ | refine z_ex ?_ | refine z_pass ?_ | refine z_brk ?_ | refine z_cont ?_ | refine z_par ?_ | refine z_unp ?_ | refine z_setix ?_ | refine z_setk ?_ | refine z_unp2 ?_ | refine z_par3 ?_ | refine z_app rfl ?_ | refine z_ins rfl ?_ | refine x_tup ?_ | refine x_lst ?_); try dsimp only [wback, List.set, List.cons_append, List.nil_append])
  refine ⟨_, len_evs, ?_⟩
  (repeat (first | refine x_op ?_ | refine x_oe rfl ?_ | refine x_v rfl ?_ | refine x_k ?_ | refine x_onil ?_ | refine x_ob rfl ?_ | refine z_set ?_ | refine z_ret ?_ | refine x_econs ?_ | refine x_enil ?_ | refine x_call ?_ | refine x_kcall ?_ | refine x_and ?_ | refine x_or ?_ | refine x_not ?_ | refine x_ite ?_ | refine x_isa rfl ?_ | refine x_isab rfl ?_ | refine x_optN ?_ | refine x_optS ?_ | refine x_sl rfl ?_ | refine x_slb rfl ?_ | refine x_dget rfl ?_ | refine x_dct ?_ | refine x_pd ?_ | refine x_rng ?_ | refine x_enm ?_ | refine x_zip ?_ | refine x_seq rfl ?_ | refine x_ifN ?_ | refine x_ifS ?_ | refine x_ch ?_ | refine z_retN ?_ | refine z_ex ?_ | refine z_pass ?_ | refine z_brk ?_ | refine z_cont ?_ | refine z_par ?_ | refine z_unp ?_ | refine z_setix ?_ | refine z_setk ?_ | refine z_unp2 ?_ | refine z_par3 ?_ | refine z_app rfl ?_ | refine z_ins rfl ?_ | refine x_tup ?_ | refine x_lst ?_); try dsimp only [wback, List.set, List.cons_append, List.nil_append])
  refine ⟨_, rng1 (by omega) (by omega), rfl, by rw [Int.toNat_natCast], by rw [List.length_range]; omega, fun a ha => ?_, fun x hx _ => x_v rfl ⟨rfl, rfl⟩, ⟨_, rfl, rfl, rfl⟩⟩
  have hlt := List.mem_range.mp ha
  have hra : repAt h.evs a = (h.evs[a]).rep := by unfold repAt; rw [List.getElem?_eq_getElem hlt]
  rw [hra]
  refine x_ifS ?_
  (repeat (first | refine x_op ?_ | refine x_oe rfl ?_ | refine x_v rfl ?_ | refine x_k ?_ | refine x_onil ?_ | refine x_ob rfl ?_ | refine z_set ?_ | refine z_ret ?_ | refine x_econs ?_ | refine x_enil ?_ | refine x_call ?_ | refine x_kcall ?_ | refine x_and ?_ | refine x_or ?_ | refine x_not ?_ | refine x_ite ?_ | refine x_isa rfl ?_ | refine x_isab rfl ?_ | refine x_optN ?_ | refine x_optS ?_ | refine x_sl rfl ?_ | refine x_slb rfl ?_ | refine x_dget rfl ?_ | refine x_dct ?_ | refine x_pd ?_ | refine x_rng ?_ | refine x_enm ?_ | refine x_zip ?_ | refine x_seq rfl ?_ | refine x_ifN ?_ | refine x_ifS ?_ | refine x_ch ?_ | refine z_retN ?_ | refine z_ex ?_ | refine z_pass ?_ | refine z_brk ?_ | refine z_cont ?_ | refine z_par ?_ | refine z_unp ?_ | refine z_setix ?_ | refine z_setk ?_ | refine z_unp2 ?_ | refine z_par3 ?_ | refine z_app rfl ?_ | refine z_ins rfl ?_ | refine x_tup ?_ | refine x_lst ?_); try dsimp only [wback, List.set, List.cons_append, List.nil_append])
  refine ⟨_, h_ix1, ?_⟩
  (repeat (first | refine x_op ?_ | refine x_oe rfl ?_ | refine x_v rfl ?_ | refine x_k ?_ | refine x_onil ?_ | refine x_ob rfl ?_ | refine z_set ?_ | refine z_ret ?_ | refine x_econs ?_ | refine x_enil ?_ | refine x_call ?_ | refine x_kcall ?_ | refine x_and ?_ | refine x_or ?_ | refine x_not ?_ | refine x_ite ?_ | refine x_isa rfl ?_ | refine x_isab rfl ?_ | refine x_optN ?_ | refine x_optS ?_ | refine x_sl rfl ?_ | refine x_slb rfl ?_ | refine x_dget rfl ?_ | refine x_dct ?_ | refine x_pd ?_ | refine x_rng ?_ | refine x_enm ?_ | refine x_zip ?_ | refine x_seq rfl ?_ | refine x_ifN ?_ | refine x_ifS ?_ | refine x_ch ?_ | refine z_retN ?_ | refine z_ex ?_ | refine z_pass ?_ | refine z_brk ?_ | refine z_cont ?_ | refine z_par ?_ | refine z_unp ?_ | refine z_setix ?_ | refine z_setk ?_ | refine z_unp2 ?_ | refine z_par3 ?_ | refine z_app rfl ?_ | refine z_ins rfl ?_ | refine x_tup ?_ | refine x_lst ?_); try dsimp only [wback, List.set, List.cons_append, List.nil_append])
  refine ⟨_, ev_at hlt, ?_⟩
  (repeat (first | refine x_op ?_ | refine x_oe rfl ?_ | refine x_v rfl ?_ | refine x_k ?_ | refine x_onil ?_ | refine x_ob rfl ?_ | refine z_set ?_ | refine z_ret ?_ | refine x_econs ?_ | refine x_enil ?_ | refine x_call ?_ | refine x_kcall ?_ | refine x_and ?_ | refine x_or ?_ | refine x_not ?_ | refine x_ite ?_ | refine x_isa rfl ?_ | refine x_isab rfl ?_ | refine x_optN ?_ | refine x_optS ?_ | refine x_sl rfl ?_ | refine x_slb rfl ?_ | refine x_dget rfl ?_ | refine x_dct ?_ | refine x_pd ?_ | refine x_rng ?_ | refine x_enm ?_ | refine x_zip ?_ | refine x_seq rfl ?_ | refine x_ifN ?_ | refine x_ifS ?_ | refine x_ch ?_ | refine z_retN ?_ | refine z_ex ?_ | refine z_pass ?_ | refine z_brk ?_ | refine z_cont ?_ | refine z_par ?_ | refine z_unp ?_ | refine z_setix ?_ | refine z_setk ?_ | refine z_unp2 ?_ | refine z_par3 ?_ | refine z_app rfl ?_ | refine z_ins rfl ?_ | refine x_tup ?_ | refine x_lst ?_); try dsimp only [wback, List.set, List.cons_append, List.nil_append])
  refine ⟨_, Ev.ix0, ?_⟩
  (repeat (first | refine x_op ?_ | refine x_oe rfl ?_ | refine x_v rfl ?_ | refine x_k ?_ | refine x_onil ?_ | refine x_ob rfl ?_ | refine z_set ?_ | refine z_ret ?_ | refine x_econs ?_ | refine x_enil ?_ | refine x_call ?_ | refine x_kcall ?_ | refine x_and ?_ | refine x_or ?_ | refine x_not ?_ | refine x_ite ?_ | refine x_isa rfl ?_ | refine x_isab rfl ?_ | refine x_optN ?_ | refine x_optS ?_ | refine x_sl rfl ?_ | refine x_slb rfl ?_ | refine x_dget rfl ?_ | refine x_dct ?_ | refine x_pd ?_ | refine x_rng ?_ | refine x_enm ?_ | refine x_zip ?_ | refine x_seq rfl ?_ | refine x_ifN ?_ | refine x_ifS ?_ | refine x_ch ?_ | refine z_retN ?_ | refine z_ex ?_ | refine z_pass ?_ | refine z_brk ?_ | refine z_cont ?_ | refine z_par ?_ | refine z_unp ?_ | refine z_setix ?_ | refine z_setk ?_ | refine z_unp2 ?_ | refine z_par3 ?_ | refine z_app rfl ?_ | refine z_ins rfl ?_ | refine x_tup ?_ | refine x_lst ?_); try dsimp only [wback, List.set, List.cons_append, List.nil_append])
  refine ⟨Nat.le_of_ble_eq_true rfl, ?_⟩
  (repeat (first | refine x_op ?_ | refine x_oe rfl ?_ | refine x_v rfl ?_ | refine x_k ?_ | refine x_onil ?_ | refine x_ob rfl ?_ | refine z_set ?_ | refine z_ret ?_ | refine x_econs ?_ | refine x_enil ?_ | refine x_call ?_ | refine x_kcall ?_ | refine x_and ?_ | refine x_or ?_ | refine x_not ?_ | refine x_ite ?_ | refine x_isa rfl ?_ | refine x_isab rfl ?_ | refine x_optN ?_ | refine x_optS ?_ | refine x_sl rfl ?_ | refine x_slb rfl ?_ | refine x_dget rfl ?_ | refine x_dct ?_ | refine x_pd ?_ | refine x_rng ?_ | refine x_enm ?_ | refine x_zip ?_ | refine x_seq rfl ?_ | refine x_ifN ?_ | refine x_ifS ?_ | refine x_ch ?_ | refine z_retN ?_ | refine z_ex ?_ | refine z_pass ?_ | refine z_brk ?_ | refine z_cont ?_ | refine z_par ?_ | refine z_unp ?_ | refine z_setix ?_ | refine z_setk ?_ | refine z_unp2 ?_ | refine z_par3 ?_ | refine z_app rfl ?_ | refine z_ins rfl ?_ | refine x_tup ?_ | refine x_lst ?_); try dsimp only [wback, List.set, List.cons_append, List.nil_append])
  exact ⟨_, Ev.in2, _, rfl, rfl, rfl⟩
theorem person_wk {e : Ev} (h : old e = true) : WK (callK FSS fuel (k + 1)) f__law_person [e.d] fun d outs => d = .str e.one ∧ outs = [none] := by
  refine wk_of (fd := d__law_person) rfl rfl ?_
  dsimp only [d__law_person]
  show WB _ _ _ [some e.d] _
  refine z_ret (x_ite ?_)
  (repeat (first | refine x_op ?_ | refine x_oe rfl ?_ | refine x_v rfl ?_ | refine x_k ?_ | refine x_onil ?_ | refine x_ob rfl ?_ | refine z_set ?_ | refine z_ret ?_ | refine x_econs ?_ | refine x_enil ?_ | refine x_call ?_ | refine x_kcall ?_ | refine x_and ?_ | refine x_or ?_ | refine x_not ?_ | refine x_ite ?_ | refine x_isa rfl ?_ | refine x_isab rfl ?_ | refine x_optN ?_ | refine x_optS ?_ | refine x_sl rfl ?_ | refine x_slb rfl ?_ | refine x_dget rfl ?_ | refine x_dct ?_ | refine x_pd ?_ | refine x_rng ?_ | refine x_enm ?_ | refine x_zip ?_ | refine x_seq rfl ?_ | refine x_ifN ?_ | refine x_ifS ?_ | refine x_ch ?_ | refine z_retN ?_ | refine z_ex ?_ | refine z_pass ?_ | refine z_brk ?_ | refine z_cont ?_ | refine z_par ?_ | refine z_unp ?_ | refine z_setix ?_ | refine z_setk ?_ | refine z_unp2 ?_ | refine z_par3 ?_ | refine z_app rfl ?_ | refine z_ins rfl ?_ | refine x_tup ?_ | refine x_lst ?_); try dsimp only [wback, List.set, List.cons_append, List.nil_append])
  refine ⟨_, Ev.ix0, ?_⟩
  (repeat (first | refine x_op ?_ | refine x_oe rfl ?_ | refine x_v rfl ?_ | refine x_k ?_ | refine x_onil ?_ | refine x_ob rfl ?_ | refine z_set ?_ | refine z_ret ?_ | refine x_econs ?_ | refine x_enil ?_ | refine x_call ?_ | refine x_kcall ?_ | refine x_and ?_ | refine x_or ?_ | refine x_not ?_ | refine x_ite ?_ | refine x_isa rfl ?_ | refine x_isab rfl ?_ | refine x_optN ?_ | refine x_optS ?_ | refine x_sl rfl ?_ | refine x_slb rfl ?_ | refine x_dget rfl ?_ | refine x_dct ?_ | refine x_pd ?_ | refine x_rng ?_ | refine x_enm ?_ | refine x_zip ?_ | refine x_seq rfl ?_ | refine x_ifN ?_ | refine x_ifS ?_ | refine x_ch ?_ | refine z_retN ?_ | refine z_ex ?_ | refine z_pass ?_ | refine z_brk ?_ | refine z_cont ?_ | refine z_par ?_ | refine z_unp ?_ | refine z_setix ?_ | refine z_setk ?_ | refine z_unp2 ?_ | refine z_par3 ?_ | refine z_app rfl ?_ | refine z_ins rfl ?_ | refine x_tup ?_ | refine x_lst ?_); try dsimp only [wback, List.set, List.cons_append, List.nil_append])
  have h2 : (e.kind == "new") = false := by simpa [old] using h
  refine ⟨_, Ev.eqK nm_new, _, rfl, fun q => (by rw [h2] at q; cases q), fun _ => ?_⟩
  (repeat (first | refine x_op ?_ | refine x_oe rfl ?_ | refine x_v rfl ?_ | refine x_k ?_ | refine x_onil ?_ | refine x_ob rfl ?_ | refine z_set ?_ | refine z_ret ?_ | refine x_econs ?_ | refine x_enil ?_ | refine x_call ?_ | refine x_kcall ?_ | refine x_and ?_ | refine x_or ?_ | refine x_not ?_ | refine x_ite ?_ | refine x_isa rfl ?_ | refine x_isab rfl ?_ | refine x_optN ?_ | refine x_optS ?_ | refine x_sl rfl ?_ | refine x_slb rfl ?_ | refine x_dget rfl ?_ | refine x_dct ?_ | refine x_pd ?_ | refine x_rng ?_ | refine x_enm ?_ | refine x_zip ?_ | refine x_seq rfl ?_ | refine x_ifN ?_ | refine x_ifS ?_ | refine x_ch ?_ | refine z_retN ?_ | refine z_ex ?_ | refine z_pass ?_ | refine z_brk ?_ | refine z_cont ?_ | refine z_par ?_ | refine z_unp ?_ | refine z_setix ?_ | refine z_setk ?_ | refine z_unp2 ?_ | refine z_par3 ?_ | refine z_app rfl ?_ | refine z_ins rfl ?_ | refine x_tup ?_ | refine x_lst ?_); try dsimp only [wback, List.set, List.cons_append, List.nil_append])
  exact ⟨_, ix1, _, rfl, rfl, rfl⟩
theorem limited_wk {h : Hist} (f : Fit h) : WK (callK FSS fuel (k + 1)) f__law_limited [h.d] fun d outs => (∃ h', d = Hist.d h' ∧ Fit h') ∧ outs = [none] := by
  have hz := sz
  have hev := f.evs
  refine wk_of (fd := d__law_limited) rfl rfl ?_
  dsimp only [d__law_limited]
  show WB _ _ _ [some h.d, none, none, none] _
  refine z_par (x_lst (x_enil ⟨Nat.le_of_ble_eq_true rfl, x_k ?_⟩))
  (try dsimp only [wback, List.set, List.cons_append, List.nil_append])
  refine z_for (fun j e => ∃ (o1 : Option PyData) (es : List Ev) (c : Int), e = [some h.d, o1, some (.list (es.map Ev.d)), some (.int c)] ∧ es.Sublist (h.evs.take j)) ?_
  (repeat (first | refine x_op ?_ | refine x_oe rfl ?_ | refine x_v rfl ?_ | refine x_k ?_ | refine x_onil ?_ | refine x_ob rfl ?_ | refine z_set ?_ | refine z_ret ?_ | refine x_econs ?_ | refine x_enil ?_ | refine x_call ?_ | refine x_kcall ?_ | refine x_and ?_ | refine x_or ?_ | refine x_not ?_ | refine x_ite ?_ | refine x_isa rfl ?_ | refine x_isab rfl ?_ | refine x_optN ?_ | refine x_optS ?_ | refine x_sl rfl ?_ | refine x_slb rfl ?_ | refine x_dget rfl ?_ | refine x_dct ?_ | refine x_pd ?_ | refine x_rng ?_ | refine x_enm ?_ | refine x_zip ?_ | refine x_seq rfl ?_ | refine x_ifN ?_ | refine x_ifS ?_ | refine x_ch ?_ | refine z_retN ?_ | refine z_ex ?_ | refine z_pass ?_ | refine z_brk ?_ | refine z_cont ?_ | refine z_par ?_ | refine z_unp ?_ | refine z_setix ?_ | refine z_setk ?_ | refine z_unp2 ?_ | refine z_par3 ?_ | refine z_app rfl ?_ | refine z_ins rfl ?_ | refine x_tup ?_ | refine x_lst ?_); try dsimp only [wback, List.set, List.cons_append, List.nil_append])
  refine ⟨_, h_ix1, ?_⟩
  refine ⟨_, rfl, ⟨none, [], 0, rfl, List.nil_sublist _⟩, fun j y hy e hI => ?_, fun e hI => ?_⟩
  · obtain ⟨o1, es, c, rfl, hS⟩ := hI
    have hj := (List.getElem?_eq_some_iff.mp hy).1
    rw [List.length_map] at hj
    rw [List.getElem?_map, List.getElem?_eq_getElem hj] at hy
    cases hy
    have ht : h.evs.take (j + 1) = h.evs.take j ++ [h.evs[j]] := by rw [List.take_add_one, List.getElem?_eq_getElem hj]; rfl
    have hel := hS.length_le
    rw [List.length_take] at hel
    generalize h.evs[j] = ev at ht
    refine ⟨_, rfl, ?_⟩
    (try dsimp only [wback, List.set, List.cons_append, List.nil_append])
    refine z_set ?_
    (repeat (first | refine x_op ?_ | refine x_oe rfl ?_ | refine x_v rfl ?_ | refine x_k ?_ | refine x_onil ?_ | refine x_ob rfl ?_ | refine z_set ?_ | refine z_ret ?_ | refine x_econs ?_ | refine x_enil ?_ | refine x_call ?_ | refine x_kcall ?_ | refine x_and ?_ | refine x_or ?_ | refine x_not ?_ | refine x_ite ?_ | refine x_isa rfl ?_ | refine x_isab rfl ?_ | refine x_optN ?_ | refine x_optS ?_ | refine x_sl rfl ?_ | refine x_slb rfl ?_ | refine x_dget rfl ?_ | refine x_dct ?_ | refine x_pd ?_ | refine x_rng ?_ | refine x_enm ?_ | refine x_zip ?_ | refine x_seq rfl ?_ | refine x_ifN ?_ | refine x_ifS ?_ | refine x_ch ?_ | refine z_retN ?_ | refine z_ex ?_ | refine z_pass ?_ | refine z_brk ?_ | refine z_cont ?_ | refine z_par ?_ | refine z_unp ?_ | refine z_setix ?_ | refine z_setk ?_ | refine z_unp2 ?_ | refine z_par3 ?_ | refine z_app rfl ?_ | refine z_ins rfl ?_ | refine x_tup ?_ | refine x_lst ?_); try dsimp only [wback, List.set, List.cons_append, List.nil_append])
    refine ⟨_, Ev.ix0, ?_⟩
    (repeat (first | refine x_op ?_ | refine x_oe rfl ?_ | refine x_v rfl ?_ | refine x_k ?_ | refine x_onil ?_ | refine x_ob rfl ?_ | refine z_set ?_ | refine z_ret ?_ | refine x_econs ?_ | refine x_enil ?_ | refine x_call ?_ | refine x_kcall ?_ | refine x_and ?_ | refine x_or ?_ | refine x_not ?_ | refine x_ite ?_ | refine x_isa rfl ?_ | refine x_isab rfl ?_ | refine x_optN ?_ | refine x_optS ?_ | refine x_sl rfl ?_ | refine x_slb rfl ?_ | refine x_dget rfl ?_ | refine x_dct ?_ | refine x_pd ?_ | refine x_rng ?_ | refine x_enm ?_ | refine x_zip ?_ | refine x_seq rfl ?_ | refine x_ifN ?_ | refine x_ifS ?_ | refine x_ch ?_ | refine z_retN ?_ | refine z_ex ?_ | refine z_pass ?_ | refine z_brk ?_ | refine z_cont ?_ | refine z_par ?_ | refine z_unp ?_ | refine z_setix ?_ | refine z_setk ?_ | refine z_unp2 ?_ | refine z_par3 ?_ | refine z_app rfl ?_ | refine z_ins rfl ?_ | refine x_tup ?_ | refine x_lst ?_); try dsimp only [wback, List.set, List.cons_append, List.nil_append])
    refine ⟨Nat.le_of_ble_eq_true rfl, ?_⟩
    (repeat (first | refine x_op ?_ | refine x_oe rfl ?_ | refine x_v rfl ?_ | refine x_k ?_ | refine x_onil ?_ | refine x_ob rfl ?_ | refine z_set ?_ | refine z_ret ?_ | refine x_econs ?_ | refine x_enil ?_ | refine x_call ?_ | refine x_kcall ?_ | refine x_and ?_ | refine x_or ?_ | refine x_not ?_ | refine x_ite ?_ | refine x_isa rfl ?_ | refine x_isab rfl ?_ | refine x_optN ?_ | refine x_optS ?_ | refine x_sl rfl ?_ | refine x_slb rfl ?_ | refine x_dget rfl ?_ | refine x_dct ?_ | refine x_pd ?_ | refine x_rng ?_ | refine x_enm ?_ | refine x_zip ?_ | refine x_seq rfl ?_ | refine x_ifN ?_ | refine x_ifS ?_ | refine x_ch ?_ | refine z_retN ?_ | refine z_ex ?_ | refine z_pass ?_ | refine z_brk ?_ | refine z_cont ?_ | refine z_par ?_ | refine z_unp ?_ | refine z_setix ?_ | refine z_setk ?_ | refine z_unp2 ?_ | refine z_par3 ?_ | refine z_app rfl ?_ | refine z_ins rfl ?_ | refine x_tup ?_ | refine x_lst ?_); try dsimp only [wback, List.set, List.cons_append, List.nil_append])
    refine ⟨_, Ev.in2, ?_⟩
    (repeat (first | refine x_op ?_ | refine x_oe rfl ?_ | refine x_v rfl ?_ | refine x_k ?_ | refine x_onil ?_ | refine x_ob rfl ?_ | refine z_set ?_ | refine z_ret ?_ | refine x_econs ?_ | refine x_enil ?_ | refine x_call ?_ | refine x_kcall ?_ | refine x_and ?_ | refine x_or ?_ | refine x_not ?_ | refine x_ite ?_ | refine x_isa rfl ?_ | refine x_isab rfl ?_ | refine x_optN ?_ | refine x_optS ?_ | refine x_sl rfl ?_ | refine x_slb rfl ?_ | refine x_dget rfl ?_ | refine x_dct ?_ | refine x_pd ?_ | refine x_rng ?_ | refine x_enm ?_ | refine x_zip ?_ | refine x_seq rfl ?_ | refine x_ifN ?_ | refine x_ifS ?_ | refine x_ch ?_ | refine z_retN ?_ | refine z_ex ?_ | refine z_pass ?_ | refine z_brk ?_ | refine z_cont ?_ | refine z_par ?_ | refine z_unp ?_ | refine z_setix ?_ | refine z_setk ?_ | refine z_unp2 ?_ | refine z_par3 ?_ | refine z_app rfl ?_ | refine z_ins rfl ?_ | refine x_tup ?_ | refine x_lst ?_); try dsimp only [wback, List.set, List.cons_append, List.nil_append])
    obtain ⟨w, hw⟩ : ∃ w : Int, evOp .int [.bool ev.rep] = some (.int w) := by
      cases ev.rep
      · exact ⟨0, rfl⟩
      · exact ⟨1, rfl⟩
    refine ⟨_, hw, ?_⟩
    refine x_onil ⟨_, rfl, ?_⟩
    (try dsimp only [wback, List.set, List.cons_append, List.nil_append])
    have nin : evOp .notIn [.str ev.kind, .tuple [.str "look", .str "pour"]] = some (.bool (!ev.rep)) := by
      show notinD _ _ = _
      unfold notinD
      rw [show inD (.str ev.kind) (.tuple [.str "look", .str "pour"]) = _ from Ev.in2]; rfl
    refine z_ite (x_orB ?_)
    (repeat (first | refine x_op ?_ | refine x_oe rfl ?_ | refine x_v rfl ?_ | refine x_k ?_ | refine x_onil ?_ | refine x_ob rfl ?_ | refine z_set ?_ | refine z_ret ?_ | refine x_econs ?_ | refine x_enil ?_ | refine x_call ?_ | refine x_kcall ?_ | refine x_and ?_ | refine x_or ?_ | refine x_not ?_ | refine x_ite ?_ | refine x_isa rfl ?_ | refine x_isab rfl ?_ | refine x_optN ?_ | refine x_optS ?_ | refine x_sl rfl ?_ | refine x_slb rfl ?_ | refine x_dget rfl ?_ | refine x_dct ?_ | refine x_pd ?_ | refine x_rng ?_ | refine x_enm ?_ | refine x_zip ?_ | refine x_seq rfl ?_ | refine x_ifN ?_ | refine x_ifS ?_ | refine x_ch ?_ | refine z_retN ?_ | refine z_ex ?_ | refine z_pass ?_ | refine z_brk ?_ | refine z_cont ?_ | refine z_par ?_ | refine z_unp ?_ | refine z_setix ?_ | refine z_setk ?_ | refine z_unp2 ?_ | refine z_par3 ?_ | refine z_app rfl ?_ | refine z_ins rfl ?_ | refine x_tup ?_ | refine x_lst ?_); try dsimp only [wback, List.set, List.cons_append, List.nil_append])
    refine ⟨_, rfl, _, rfl, ?_⟩
    (repeat (first | refine x_op ?_ | refine x_oe rfl ?_ | refine x_v rfl ?_ | refine x_k ?_ | refine x_onil ?_ | refine x_ob rfl ?_ | refine z_set ?_ | refine z_ret ?_ | refine x_econs ?_ | refine x_enil ?_ | refine x_call ?_ | refine x_kcall ?_ | refine x_and ?_ | refine x_or ?_ | refine x_not ?_ | refine x_ite ?_ | refine x_isa rfl ?_ | refine x_isab rfl ?_ | refine x_optN ?_ | refine x_optS ?_ | refine x_sl rfl ?_ | refine x_slb rfl ?_ | refine x_dget rfl ?_ | refine x_dct ?_ | refine x_pd ?_ | refine x_rng ?_ | refine x_enm ?_ | refine x_zip ?_ | refine x_seq rfl ?_ | refine x_ifN ?_ | refine x_ifS ?_ | refine x_ch ?_ | refine z_retN ?_ | refine z_ex ?_ | refine z_pass ?_ | refine z_brk ?_ | refine z_cont ?_ | refine z_par ?_ | refine z_unp ?_ | refine z_setix ?_ | refine z_setk ?_ | refine z_unp2 ?_ | refine z_par3 ?_ | refine z_app rfl ?_ | refine z_ins rfl ?_ | refine x_tup ?_ | refine x_lst ?_); try dsimp only [wback, List.set, List.cons_append, List.nil_append])
    refine ⟨_, Ev.ix0, ?_⟩
    (repeat (first | refine x_op ?_ | refine x_oe rfl ?_ | refine x_v rfl ?_ | refine x_k ?_ | refine x_onil ?_ | refine x_ob rfl ?_ | refine z_set ?_ | refine z_ret ?_ | refine x_econs ?_ | refine x_enil ?_ | refine x_call ?_ | refine x_kcall ?_ | refine x_and ?_ | refine x_or ?_ | refine x_not ?_ | refine x_ite ?_ | refine x_isa rfl ?_ | refine x_isab rfl ?_ | refine x_optN ?_ | refine x_optS ?_ | refine x_sl rfl ?_ | refine x_slb rfl ?_ | refine x_dget rfl ?_ | refine x_dct ?_ | refine x_pd ?_ | refine x_rng ?_ | refine x_enm ?_ | refine x_zip ?_ | refine x_seq rfl ?_ | refine x_ifN ?_ | refine x_ifS ?_ | refine x_ch ?_ | refine z_retN ?_ | refine z_ex ?_ | refine z_pass ?_ | refine z_brk ?_ | refine z_cont ?_ | refine z_par ?_ | refine z_unp ?_ | refine z_setix ?_ | refine z_setk ?_ | refine z_unp2 ?_ | refine z_par3 ?_ | refine z_app rfl ?_ | refine z_ins rfl ?_ | refine x_tup ?_ | refine x_lst ?_); try dsimp only [wback, List.set, List.cons_append, List.nil_append])
    refine ⟨Nat.le_of_ble_eq_true rfl, ?_⟩
    (repeat (first | refine x_op ?_ | refine x_oe rfl ?_ | refine x_v rfl ?_ | refine x_k ?_ | refine x_onil ?_ | refine x_ob rfl ?_ | refine z_set ?_ | refine z_ret ?_ | refine x_econs ?_ | refine x_enil ?_ | refine x_call ?_ | refine x_kcall ?_ | refine x_and ?_ | refine x_or ?_ | refine x_not ?_ | refine x_ite ?_ | refine x_isa rfl ?_ | refine x_isab rfl ?_ | refine x_optN ?_ | refine x_optS ?_ | refine x_sl rfl ?_ | refine x_slb rfl ?_ | refine x_dget rfl ?_ | refine x_dct ?_ | refine x_pd ?_ | refine x_rng ?_ | refine x_enm ?_ | refine x_zip ?_ | refine x_seq rfl ?_ | refine x_ifN ?_ | refine x_ifS ?_ | refine x_ch ?_ | refine z_retN ?_ | refine z_ex ?_ | refine z_pass ?_ | refine z_brk ?_ | refine z_cont ?_ | refine z_par ?_ | refine z_unp ?_ | refine z_setix ?_ | refine z_setk ?_ | refine z_unp2 ?_ | refine z_par3 ?_ | refine z_app rfl ?_ | refine z_ins rfl ?_ | refine x_tup ?_ | refine x_lst ?_); try dsimp only [wback, List.set, List.cons_append, List.nil_append])
    refine ⟨_, nin, _, rfl, rfl, _, rfl, fun _ => ?_, fun _ => ?_⟩
    · refine z_app rfl (x_v rfl ⟨_, rfl, by rw [List.length_map]; omega, ?_⟩)
      (try dsimp only [wback, List.set, List.cons_append, List.nil_append])
      refine z_nil ⟨some ev.d, es ++ [ev], c + w, by rw [List.map_append]; rfl, ?_⟩
      rw [ht]
      exact hS.append (List.Sublist.refl _)
    · refine z_nil ⟨_, es, c + w, rfl, ?_⟩
      rw [ht]
      exact hS.trans (List.sublist_append_left _ _)
  · obtain ⟨o1, es, c, rfl, hS⟩ := hI
    rw [List.length_map, List.take_length] at hS
    refine z_ret (x_tup ?_)
    (repeat (first | refine x_op ?_ | refine x_oe rfl ?_ | refine x_v rfl ?_ | refine x_k ?_ | refine x_onil ?_ | refine x_ob rfl ?_ | refine z_set ?_ | refine z_ret ?_ | refine x_econs ?_ | refine x_enil ?_ | refine x_call ?_ | refine x_kcall ?_ | refine x_and ?_ | refine x_or ?_ | refine x_not ?_ | refine x_ite ?_ | refine x_isa rfl ?_ | refine x_isab rfl ?_ | refine x_optN ?_ | refine x_optS ?_ | refine x_sl rfl ?_ | refine x_slb rfl ?_ | refine x_dget rfl ?_ | refine x_dct ?_ | refine x_pd ?_ | refine x_rng ?_ | refine x_enm ?_ | refine x_zip ?_ | refine x_seq rfl ?_ | refine x_ifN ?_ | refine x_ifS ?_ | refine x_ch ?_ | refine z_retN ?_ | refine z_ex ?_ | refine z_pass ?_ | refine z_brk ?_ | refine z_cont ?_ | refine z_par ?_ | refine z_unp ?_ | refine z_setix ?_ | refine z_setk ?_ | refine z_unp2 ?_ | refine z_par3 ?_ | refine z_app rfl ?_ | refine z_ins rfl ?_ | refine x_tup ?_ | refine x_lst ?_); try dsimp only [wback, List.set, List.cons_append, List.nil_append])
    refine ⟨_, h_ix0, ?_⟩
    (repeat (first | refine x_op ?_ | refine x_oe rfl ?_ | refine x_v rfl ?_ | refine x_k ?_ | refine x_onil ?_ | refine x_ob rfl ?_ | refine z_set ?_ | refine z_ret ?_ | refine x_econs ?_ | refine x_enil ?_ | refine x_call ?_ | refine x_kcall ?_ | refine x_and ?_ | refine x_or ?_ | refine x_not ?_ | refine x_ite ?_ | refine x_isa rfl ?_ | refine x_isab rfl ?_ | refine x_optN ?_ | refine x_optS ?_ | refine x_sl rfl ?_ | refine x_slb rfl ?_ | refine x_dget rfl ?_ | refine x_dct ?_ | refine x_pd ?_ | refine x_rng ?_ | refine x_enm ?_ | refine x_zip ?_ | refine x_seq rfl ?_ | refine x_ifN ?_ | refine x_ifS ?_ | refine x_ch ?_ | refine z_retN ?_ | refine z_ex ?_ | refine z_pass ?_ | refine z_brk ?_ | refine z_cont ?_ | refine z_par ?_ | refine z_unp ?_ | refine z_setix ?_ | refine z_setk ?_ | refine z_unp2 ?_ | refine z_par3 ?_ | refine z_app rfl ?_ | refine z_ins rfl ?_ | refine x_tup ?_ | refine x_lst ?_); try dsimp only [wback, List.set, List.cons_append, List.nil_append])
    refine ⟨_, rfl, ?_⟩
    refine ⟨_, rfl, x_enil ⟨Nat.le_of_ble_eq_true rfl, ?_⟩⟩
    refine ⟨_, rfl, ⟨⟨h.start, es⟩, rfl, ⟨f.ok.nm, f.ok.asc, f.ok.mks, fun e he => f.ok.ev e (hS.subset he)⟩, f.few, ?_⟩, rfl⟩
    show es.length ≤ 14
    have := hS.length_le
    omega
/-! ### the law -/
def five : List Str := ["ann", "bob", "cy", "eve", "zed"]
theorem five_nm : ∀ s ∈ five, Nm s := by decide +kernel
theorem first_fit : ∃ h, (PyData.tuple [.tuple [.tuple [.str "a", .none]], .tuple []]) = Hist.d h ∧ Fit h := by
  refine ⟨⟨[("a", none)], []⟩, rfl, ⟨?_, ⟨?_, ?_⟩, ?_, by simp⟩, by decide, by decide⟩
  · decide +kernel
  · decide +kernel
  · decide +kernel
  · intro p hp
    rw [List.mem_singleton.mp hp]; trivial
theorem second_fit : ∃ h, (PyData.tuple [.tuple [.tuple [.str "a", .int 1], .tuple [.str "b", .int 0]], .tuple [.tuple [.str "mix", .str "zed", .tuple [.str "a", .str "b"]], .tuple [.str "new", .str "a", .none], .tuple [.str "mix", .str "ann", .tuple [.str "a", .str "b"]]]]) = Hist.d h ∧ Fit h := by
  have ab : Asc ["a", "b"] := ⟨by decide +kernel, by decide +kernel⟩
  refine ⟨⟨[("a", some 1), ("b", some 0)], [.mix "zed" ["a", "b"], .new "a" none, .mix "ann" ["a", "b"]]⟩, rfl, ⟨?_, ab, ?_, ?_⟩, by decide, by decide⟩
  · decide +kernel
  · intro p hp
    simp only [List.mem_cons, List.not_mem_nil, or_false] at hp
    rcases hp with rfl | rfl
    · exact .inr rfl
    · exact .inl rfl
  · have mx : ∀ w : Str, Nm w → (Ev.mix w ["a", "b"]).Ok ["a", "b"] := fun w hw => ⟨hw, fun s hs => hs, ab, by decide, by decide⟩
    intro e he
    simp only [List.mem_cons, List.not_mem_nil, or_false] at he
    rcases he with rfl | rfl | rfl
    · exact mx _ (by decide +kernel)
    · exact ⟨List.mem_cons_self, trivial⟩
    · exact mx _ (by decide +kernel)
/-- groups of names -/
def Grp (n : Nat) (d : PyData) : Prop := ∃ g : List Str, d = .tuple (sds g) ∧ (∀ s ∈ g, Nm s) ∧ g.length ≤ n
theorem nats_ok {l : List Nat} (h : ∀ a ∈ l, a < 1000) (hl : l.length ≤ 20) : Ok 1 4120 (.tuple (l.map natD)) := by
  refine (OkA.of (D := 0) (w := 205) (n := 20) (fun x hx => ?_) (by rw [List.length_map]; exact hl)).tuple
  obtain ⟨a, ha, rfl⟩ := List.mem_map.mp hx
  have := h a ha
  exact Ok.int (by omega)
theorem repr_at {D W : Nat} {d : PyData} (h : Ok D W d) (hD : D ≤ 60) (hW : W ≤ 131072) : ∃ s, evOp .repr [d] = some (.str s) := ⟨_, h.repr hD hW⟩
theorem cut_sub {α : Type} (xs : List α) (lo hi : Option Int) : (cutL xs lo hi).Sublist xs := (List.take_sublist _ _).trans (List.drop_sublist _ _)
theorem cut_map {α β : Type} (f : α → β) (xs : List α) (lo hi : Option Int) : cutL (xs.map f) lo hi = (cutL xs lo hi).map f := by
  unfold cutL
  rw [List.length_map, ← List.map_drop, ← List.map_take]
theorem folk_ok {h : Hist} (f : Fit h) : (∀ s ∈ folk h.evs, Nm s) ∧ (folk h.evs).length ≤ 14 := by
  have hp : (folk h.evs).Perm (insAll [] (whos h.evs)) := List.mergeSort_perm _ _
  refine ⟨fun s hs => ?_, ?_⟩
  · have := hp.mem_iff.mp hs
    rw [insAll_mem] at this
    rcases this with q | q
    · cases q
    · obtain ⟨e, he, rfl⟩ := List.mem_map.mp q
      exact one_nm f.ok.nm (f.ok.ev e (List.mem_filter.mp he).1)
  · rw [hp.length_eq]
    have h1 := insAll_len (zs := whos h.evs) (l := [])
    have h2 := whos_len (es := h.evs)
    have h3 := f.evs
    simp only [List.length_nil] at h1
    omega
set_option maxHeartbeats 4000000 in
theorem law_wk {ns : List Int} (hns : ns.length ≤ 63) : WK (callK FSS 100000 60) f_law [.list (ns.map .int)] fun d outs => d = .bool true := by
  have hz := sz
  refine wk_of (k := 59) (fd := d_law) rfl rfl ?_
  show WB (callK FSS 100000 59) 100000 d_law.body [some (.list (ns.map .int)), none, none, none, none, none, none, none, none, none, none, none, none, none, none] _
  dsimp only [d_law]
  generalize hscr : PyData.list (ns.map .int) = script
  refine z_set ?_
  (repeat (first | refine x_op ?_ | refine x_oe rfl ?_ | refine x_v rfl ?_ | refine x_k ?_ | refine x_onil ?_ | refine x_ob rfl ?_ | refine z_set ?_ | refine z_ret ?_ | refine x_econs ?_ | refine x_enil ?_ | refine x_call ?_ | refine x_kcall ?_ | refine x_and ?_ | refine x_or ?_ | refine x_not ?_ | refine x_ite ?_ | refine x_isa rfl ?_ | refine x_isab rfl ?_ | refine x_optN ?_ | refine x_optS ?_ | refine x_sl rfl ?_ | refine x_slb rfl ?_ | refine x_dget rfl ?_ | refine x_dct ?_ | refine x_pd ?_ | refine x_rng ?_ | refine x_enm ?_ | refine x_zip ?_ | refine x_seq rfl ?_ | refine x_ifN ?_ | refine x_ifS ?_ | refine x_ch ?_ | refine z_retN ?_ | refine z_ex ?_ | refine z_pass ?_ | refine z_brk ?_ | refine z_cont ?_ | refine z_par ?_ | refine z_unp ?_ | refine z_setix ?_ | refine z_setk ?_ | refine z_unp2 ?_ | refine z_par3 ?_ | refine z_app rfl ?_ | refine z_ins rfl ?_ | refine x_tup ?_ | refine x_lst ?_); try dsimp only [wback, List.set, List.cons_append, List.nil_append])
  subst hscr
  refine (reader_wk (k := 58) rfl hns).mono ?_
  generalize PyData.list (ns.map .int) = script
  rintro r0 _ ⟨rfl, hr0⟩
  (try dsimp only [wback, List.set, List.cons_append, List.nil_append])
  refine z_set ?_
  (repeat (first | refine x_op ?_ | refine x_oe rfl ?_ | refine x_v rfl ?_ | refine x_k ?_ | refine x_onil ?_ | refine x_ob rfl ?_ | refine x_econs ?_ | refine x_enil ?_ | refine x_call ?_ | refine x_kcall ?_ | refine x_and ?_ | refine x_or ?_ | refine x_not ?_ | refine x_ite ?_ | refine x_isa rfl ?_ | refine x_isab rfl ?_ | refine x_optN ?_ | refine x_optS ?_ | refine x_sl rfl ?_ | refine x_slb rfl ?_ | refine x_dget rfl ?_ | refine x_dct ?_ | refine x_pd ?_ | refine x_rng ?_ | refine x_enm ?_ | refine x_zip ?_ | refine x_seq rfl ?_ | refine x_ifN ?_ | refine x_ifS ?_ | refine x_ch ?_ | refine x_tup ?_ | refine x_lst ?_ | refine ⟨_, rfl, ?_⟩ | refine ⟨_, md _, ?_⟩ | refine ⟨_, fd _, ?_⟩ | refine ⟨_, _, _, rfl, rfl, rfl, ?_⟩ | refine ⟨Nat.le_of_ble_eq_true rfl, ?_⟩); try dsimp only [wback, List.set, List.cons_append, List.nil_append])
  refine z_set ?_
  (repeat (first | refine x_op ?_ | refine x_oe rfl ?_ | refine x_v rfl ?_ | refine x_k ?_ | refine x_onil ?_ | refine x_ob rfl ?_ | refine x_econs ?_ | refine x_enil ?_ | refine x_call ?_ | refine x_kcall ?_ | refine x_and ?_ | refine x_or ?_ | refine x_not ?_ | refine x_ite ?_ | refine x_isa rfl ?_ | refine x_isab rfl ?_ | refine x_optN ?_ | refine x_optS ?_ | refine x_sl rfl ?_ | refine x_slb rfl ?_ | refine x_dget rfl ?_ | refine x_dct ?_ | refine x_pd ?_ | refine x_rng ?_ | refine x_enm ?_ | refine x_zip ?_ | refine x_seq rfl ?_ | refine x_ifN ?_ | refine x_ifS ?_ | refine x_ch ?_ | refine x_tup ?_ | refine x_lst ?_ | refine ⟨_, rfl, ?_⟩ | refine ⟨_, md _, ?_⟩ | refine ⟨_, fd _, ?_⟩ | refine ⟨_, _, _, rfl, rfl, rfl, ?_⟩ | refine ⟨Nat.le_of_ble_eq_true rfl, ?_⟩); try dsimp only [wback, List.set, List.cons_append, List.nil_append])
  (try dsimp only [wback, List.set, List.cons_append, List.nil_append])
  obtain ⟨ha, ea, fa⟩ := first_fit
  obtain ⟨hb, eb, fb⟩ := second_fit
  refine z_for (fun j e => ∃ (r : PyData) (S : List PyData) (o3 : Option PyData), e = [some script, some r, some (.list S), o3, none, none, none, none, none, none, none, none, none, none, none] ∧ (∀ y ∈ S, ∃ h, y = Hist.d h ∧ Fit h) ∧ S.length = 2 + j ∧ Rdr (j * 20000) r) ?_
  (repeat (first | refine x_op ?_ | refine x_oe rfl ?_ | refine x_v rfl ?_ | refine x_k ?_ | refine x_onil ?_ | refine x_ob rfl ?_ | refine z_set ?_ | refine z_ret ?_ | refine x_econs ?_ | refine x_enil ?_ | refine x_call ?_ | refine x_kcall ?_ | refine x_and ?_ | refine x_or ?_ | refine x_not ?_ | refine x_ite ?_ | refine x_isa rfl ?_ | refine x_isab rfl ?_ | refine x_optN ?_ | refine x_optS ?_ | refine x_sl rfl ?_ | refine x_slb rfl ?_ | refine x_dget rfl ?_ | refine x_dct ?_ | refine x_pd ?_ | refine x_rng ?_ | refine x_enm ?_ | refine x_zip ?_ | refine x_seq rfl ?_ | refine x_ifN ?_ | refine x_ifS ?_ | refine x_ch ?_ | refine z_retN ?_ | refine z_ex ?_ | refine z_pass ?_ | refine z_brk ?_ | refine z_cont ?_ | refine z_par ?_ | refine z_unp ?_ | refine z_setix ?_ | refine z_setk ?_ | refine z_unp2 ?_ | refine z_par3 ?_ | refine z_app rfl ?_ | refine z_ins rfl ?_ | refine x_tup ?_ | refine x_lst ?_); try dsimp only [wback, List.set, List.cons_append, List.nil_append])
  refine ⟨_, rng1 (x := 6) (by omega) (by omega), ⟨r0, _, none, rfl, fun y hy => ?_, rfl, by simpa using hr0⟩, fun j y hy e hI => ?_, fun e hI => ?_⟩
  · simp only [List.cons_append, List.nil_append, List.mem_cons, List.not_mem_nil, or_false] at hy
    rcases hy with rfl | rfl
    · exact ⟨ha, ea, fa⟩
    · exact ⟨hb, eb, fb⟩
  · obtain ⟨r, S, o3, rfl, hS, hl, hr⟩ := hI
    have hj : j < 6 := (List.getElem?_eq_some_iff.mp hy).1
    refine ⟨_, rfl, ?_⟩
    (try dsimp only [wback, List.set, List.cons_append, List.nil_append])
    refine z_app rfl ?_
    (repeat (first | refine x_op ?_ | refine x_oe rfl ?_ | refine x_v rfl ?_ | refine x_k ?_ | refine x_onil ?_ | refine x_ob rfl ?_ | refine x_econs ?_ | refine x_enil ?_ | refine x_call ?_ | refine x_kcall ?_ | refine x_and ?_ | refine x_or ?_ | refine x_not ?_ | refine x_ite ?_ | refine x_isa rfl ?_ | refine x_isab rfl ?_ | refine x_optN ?_ | refine x_optS ?_ | refine x_sl rfl ?_ | refine x_slb rfl ?_ | refine x_dget rfl ?_ | refine x_dct ?_ | refine x_pd ?_ | refine x_rng ?_ | refine x_enm ?_ | refine x_zip ?_ | refine x_seq rfl ?_ | refine x_ifN ?_ | refine x_ifS ?_ | refine x_ch ?_ | refine x_tup ?_ | refine x_lst ?_ | refine ⟨_, rfl, ?_⟩ | refine ⟨_, md _, ?_⟩ | refine ⟨_, fd _, ?_⟩ | refine ⟨_, _, _, rfl, rfl, rfl, ?_⟩ | refine ⟨Nat.le_of_ble_eq_true rfl, ?_⟩); try dsimp only [wback, List.set, List.cons_append, List.nil_append])
    refine (history_wk (k := 55) (fD := 6) (fE := 8) (fS := 7) (mp := 7) (me := 14) rfl rfl rfl rfl hr (by omega) (by omega) (by omega) (by omega) (by omega)).mono ?_
    rintro _ _ ⟨h, r1, rfl, rfl, ho, l1, l2, l3, l4, hr1⟩
    (try dsimp only [wback, List.set, List.cons_append, List.nil_append])
    refine x_onil ?_
    refine (limited_wk (k := 58) (h := h) ⟨ho, by omega, by omega⟩).mono ?_
    rintro _ _ ⟨⟨h', rfl, f'⟩, rfl⟩
    refine ⟨_, rfl, by omega, ?_⟩
    (try dsimp only [wback, List.set, List.cons_append, List.nil_append])
    exact z_nil ⟨r1, _, _, rfl, fun y hy => (List.mem_append.mp hy).elim (hS y) fun q => ⟨h', List.mem_singleton.mp q, f'⟩, by rw [List.length_append]; show _ + 1 = _; omega, hr1.mono (by omega)⟩
  · obtain ⟨r, S, o3, rfl, hS, hl, hr⟩ := hI
    refine z_for (fun j e => ∃ (o3 o4 o5 o6 o7 o8 o9 o10 o11 o12 : Option PyData), e = [some script, some r, some (.list S), o3, o4, o5, o6, o7, o8, o9, o10, o11, o12, none, none]) ?_
    refine x_seqb rfl rfl ⟨⟨_, _, _, _, _, _, _, _, _, _, rfl⟩, fun j y hy e hI => ?_, fun e hI => ?_⟩
    · obtain ⟨o3, o4, o5, o6, o7, o8, o9, o10, o11, o12, rfl⟩ := hI
      obtain ⟨h, rfl, f⟩ := hS y (List.mem_of_getElem? hy)
      have hev := f.evs
      have hh := hist_ok f
      obtain ⟨sv, esv⟩ := repr_at hh (by omega) (by omega)
      refine ⟨_, rfl, ?_⟩
      (try dsimp only [wback, List.set, List.cons_append, List.nil_append])
      refine z_unp (x_tup ?_)
      (repeat (first | refine x_op ?_ | refine x_oe rfl ?_ | refine x_v rfl ?_ | refine x_k ?_ | refine x_onil ?_ | refine x_ob rfl ?_ | refine z_set ?_ | refine z_ret ?_ | refine x_econs ?_ | refine x_enil ?_ | refine x_call ?_ | refine x_kcall ?_ | refine x_and ?_ | refine x_or ?_ | refine x_not ?_ | refine x_ite ?_ | refine x_isa rfl ?_ | refine x_isab rfl ?_ | refine x_optN ?_ | refine x_optS ?_ | refine x_sl rfl ?_ | refine x_slb rfl ?_ | refine x_dget rfl ?_ | refine x_dct ?_ | refine x_pd ?_ | refine x_rng ?_ | refine x_enm ?_ | refine x_zip ?_ | refine x_seq rfl ?_ | refine x_ifN ?_ | refine x_ifS ?_ | refine x_ch ?_ | refine z_retN ?_ | refine z_ex ?_ | refine z_pass ?_ | refine z_brk ?_ | refine z_cont ?_ | refine z_par ?_ | refine z_unp ?_ | refine z_setix ?_ | refine z_setk ?_ | refine z_unp2 ?_ | refine z_par3 ?_ | refine z_app rfl ?_ | refine z_ins rfl ?_ | refine x_tup ?_ | refine x_lst ?_); try dsimp only [wback, List.set, List.cons_append, List.nil_append])
      refine ⟨_, esv, ?_⟩
      (repeat (first | refine x_op ?_ | refine x_oe rfl ?_ | refine x_v rfl ?_ | refine x_k ?_ | refine x_onil ?_ | refine x_ob rfl ?_ | refine z_set ?_ | refine z_ret ?_ | refine x_econs ?_ | refine x_enil ?_ | refine x_call ?_ | refine x_kcall ?_ | refine x_and ?_ | refine x_or ?_ | refine x_not ?_ | refine x_ite ?_ | refine x_isa rfl ?_ | refine x_isab rfl ?_ | refine x_optN ?_ | refine x_optS ?_ | refine x_sl rfl ?_ | refine x_slb rfl ?_ | refine x_dget rfl ?_ | refine x_dct ?_ | refine x_pd ?_ | refine x_rng ?_ | refine x_enm ?_ | refine x_zip ?_ | refine x_seq rfl ?_ | refine x_ifN ?_ | refine x_ifS ?_ | refine x_ch ?_ | refine z_retN ?_ | refine z_ex ?_ | refine z_pass ?_ | refine z_brk ?_ | refine z_cont ?_ | refine z_par ?_ | refine z_unp ?_ | refine z_setix ?_ | refine z_setk ?_ | refine z_unp2 ?_ | refine z_par3 ?_ | refine z_app rfl ?_ | refine z_ins rfl ?_ | refine x_tup ?_ | refine x_lst ?_); try dsimp only [wback, List.set, List.cons_append, List.nil_append])
      refine ⟨_, h_ix1, ?_⟩
      refine x_enil ⟨Nat.le_of_ble_eq_true rfl, ?_⟩
      refine ⟨_, rfl, ?_⟩
      (try dsimp only [wback, List.set, List.cons_append, List.nil_append])
      -- the persons
      refine z_set (x_op (x_oe rfl (x_compM h.evs Ev.d old (fun e => .str e.one) (show 13 < 15 by decide) ?_)))
      refine x_seq rfl (x_v rfl ⟨_, rfl, rfl, rfl, by omega, fun e he => ?_, fun e he q => ?_, ?_⟩)
      · refine x_ifS ?_
        (repeat (first | refine x_op ?_ | refine x_oe rfl ?_ | refine x_v rfl ?_ | refine x_k ?_ | refine x_onil ?_ | refine x_ob rfl ?_ | refine z_set ?_ | refine z_ret ?_ | refine x_econs ?_ | refine x_enil ?_ | refine x_call ?_ | refine x_kcall ?_ | refine x_and ?_ | refine x_or ?_ | refine x_not ?_ | refine x_ite ?_ | refine x_isa rfl ?_ | refine x_isab rfl ?_ | refine x_optN ?_ | refine x_optS ?_ | refine x_sl rfl ?_ | refine x_slb rfl ?_ | refine x_dget rfl ?_ | refine x_dct ?_ | refine x_pd ?_ | refine x_rng ?_ | refine x_enm ?_ | refine x_zip ?_ | refine x_seq rfl ?_ | refine x_ifN ?_ | refine x_ifS ?_ | refine x_ch ?_ | refine z_retN ?_ | refine z_ex ?_ | refine z_pass ?_ | refine z_brk ?_ | refine z_cont ?_ | refine z_par ?_ | refine z_unp ?_ | refine z_setix ?_ | refine z_setk ?_ | refine z_unp2 ?_ | refine z_par3 ?_ | refine z_app rfl ?_ | refine z_ins rfl ?_ | refine x_tup ?_ | refine x_lst ?_); try dsimp only [wback, List.set, List.cons_append, List.nil_append])
        refine ⟨_, Ev.ix0, ?_⟩
        (repeat (first | refine x_op ?_ | refine x_oe rfl ?_ | refine x_v rfl ?_ | refine x_k ?_ | refine x_onil ?_ | refine x_ob rfl ?_ | refine z_set ?_ | refine z_ret ?_ | refine x_econs ?_ | refine x_enil ?_ | refine x_call ?_ | refine x_kcall ?_ | refine x_and ?_ | refine x_or ?_ | refine x_not ?_ | refine x_ite ?_ | refine x_isa rfl ?_ | refine x_isab rfl ?_ | refine x_optN ?_ | refine x_optS ?_ | refine x_sl rfl ?_ | refine x_slb rfl ?_ | refine x_dget rfl ?_ | refine x_dct ?_ | refine x_pd ?_ | refine x_rng ?_ | refine x_enm ?_ | refine x_zip ?_ | refine x_seq rfl ?_ | refine x_ifN ?_ | refine x_ifS ?_ | refine x_ch ?_ | refine z_retN ?_ | refine z_ex ?_ | refine z_pass ?_ | refine z_brk ?_ | refine z_cont ?_ | refine z_par ?_ | refine z_unp ?_ | refine z_setix ?_ | refine z_setk ?_ | refine z_unp2 ?_ | refine z_par3 ?_ | refine z_app rfl ?_ | refine z_ins rfl ?_ | refine x_tup ?_ | refine x_lst ?_); try dsimp only [wback, List.set, List.cons_append, List.nil_append])
        exact ⟨_, ne_new, _, rfl, rfl, rfl⟩
      · (repeat (first | refine x_op ?_ | refine x_oe rfl ?_ | refine x_v rfl ?_ | refine x_k ?_ | refine x_onil ?_ | refine x_ob rfl ?_ | refine z_set ?_ | refine z_ret ?_ | refine x_econs ?_ | refine x_enil ?_ | refine x_call ?_ | refine x_kcall ?_ | refine x_and ?_ | refine x_or ?_ | refine x_not ?_ | refine x_ite ?_ | refine x_isa rfl ?_ | refine x_isab rfl ?_ | refine x_optN ?_ | refine x_optS ?_ | refine x_sl rfl ?_ | refine x_slb rfl ?_ | refine x_dget rfl ?_ | refine x_dct ?_ | refine x_pd ?_ | refine x_rng ?_ | refine x_enm ?_ | refine x_zip ?_ | refine x_seq rfl ?_ | refine x_ifN ?_ | refine x_ifS ?_ | refine x_ch ?_ | refine z_retN ?_ | refine z_ex ?_ | refine z_pass ?_ | refine z_brk ?_ | refine z_cont ?_ | refine z_par ?_ | refine z_unp ?_ | refine z_setix ?_ | refine z_setk ?_ | refine z_unp2 ?_ | refine z_par3 ?_ | refine z_app rfl ?_ | refine z_ins rfl ?_ | refine x_tup ?_ | refine x_lst ?_); try dsimp only [wback, List.set, List.cons_append, List.nil_append])
        refine (person_wk q).mono ?_
        rintro _ _ ⟨rfl, rfl⟩
        exact ⟨rfl, rfl⟩
      have wl := whos_len (es := h.evs)
      have hsrs : evOp .srs [.list ((h.evs.filter old).map fun e => PyData.str e.one)] = some (.list (sds (folk h.evs))) := by
        have e1 : ((h.evs.filter old).map fun e => PyData.str e.one) = (whos h.evs).map .str := by
          unfold whos
          rw [List.map_map]; rfl
        rw [e1]
        show srsD (.list _) = _
        simp only [srsD, strsD_map]
        rw [if_pos (by omega)]; rfl
      refine x_onil ⟨_, hsrs, ?_⟩
      (try dsimp only [wback, List.set, List.cons_append, List.nil_append])
      refine z_set (x_lst ?_)
      (repeat (first | refine x_op ?_ | refine x_oe rfl ?_ | refine x_v rfl ?_ | refine x_k ?_ | refine x_onil ?_ | refine x_ob rfl ?_ | refine z_set ?_ | refine z_ret ?_ | refine x_econs ?_ | refine x_enil ?_ | refine x_call ?_ | refine x_kcall ?_ | refine x_and ?_ | refine x_or ?_ | refine x_not ?_ | refine x_ite ?_ | refine x_isa rfl ?_ | refine x_isab rfl ?_ | refine x_optN ?_ | refine x_optS ?_ | refine x_sl rfl ?_ | refine x_slb rfl ?_ | refine x_dget rfl ?_ | refine x_dct ?_ | refine x_pd ?_ | refine x_rng ?_ | refine x_enm ?_ | refine x_zip ?_ | refine x_seq rfl ?_ | refine x_ifN ?_ | refine x_ifS ?_ | refine x_ch ?_ | refine z_retN ?_ | refine z_ex ?_ | refine z_pass ?_ | refine z_brk ?_ | refine z_cont ?_ | refine z_par ?_ | refine z_unp ?_ | refine z_setix ?_ | refine z_setk ?_ | refine z_unp2 ?_ | refine z_par3 ?_ | refine z_app rfl ?_ | refine z_ins rfl ?_ | refine x_tup ?_ | refine x_lst ?_); try dsimp only [wback, List.set, List.cons_append, List.nil_append])
      refine (names_wk (k := 58) f).mono ?_
      rintro _ _ ⟨rfl, rfl⟩
      (repeat (first | refine x_op ?_ | refine x_oe rfl ?_ | refine x_v rfl ?_ | refine x_k ?_ | refine x_onil ?_ | refine x_ob rfl ?_ | refine z_set ?_ | refine z_ret ?_ | refine x_econs ?_ | refine x_enil ?_ | refine x_call ?_ | refine x_kcall ?_ | refine x_and ?_ | refine x_or ?_ | refine x_not ?_ | refine x_ite ?_ | refine x_isa rfl ?_ | refine x_isab rfl ?_ | refine x_optN ?_ | refine x_optS ?_ | refine x_sl rfl ?_ | refine x_slb rfl ?_ | refine x_dget rfl ?_ | refine x_dct ?_ | refine x_pd ?_ | refine x_rng ?_ | refine x_enm ?_ | refine x_zip ?_ | refine x_seq rfl ?_ | refine x_ifN ?_ | refine x_ifS ?_ | refine x_ch ?_ | refine z_retN ?_ | refine z_ex ?_ | refine z_pass ?_ | refine z_brk ?_ | refine z_cont ?_ | refine z_par ?_ | refine z_unp ?_ | refine z_setix ?_ | refine z_setk ?_ | refine z_unp2 ?_ | refine z_par3 ?_ | refine z_app rfl ?_ | refine z_ins rfl ?_ | refine x_tup ?_ | refine x_lst ?_); try dsimp only [wback, List.set, List.cons_append, List.nil_append])
      refine ⟨_, rfl, ?_⟩
      (repeat (first | refine x_op ?_ | refine x_oe rfl ?_ | refine x_v rfl ?_ | refine x_k ?_ | refine x_onil ?_ | refine x_ob rfl ?_ | refine z_set ?_ | refine z_ret ?_ | refine x_econs ?_ | refine x_enil ?_ | refine x_call ?_ | refine x_kcall ?_ | refine x_and ?_ | refine x_or ?_ | refine x_not ?_ | refine x_ite ?_ | refine x_isa rfl ?_ | refine x_isab rfl ?_ | refine x_optN ?_ | refine x_optS ?_ | refine x_sl rfl ?_ | refine x_slb rfl ?_ | refine x_dget rfl ?_ | refine x_dct ?_ | refine x_pd ?_ | refine x_rng ?_ | refine x_enm ?_ | refine x_zip ?_ | refine x_seq rfl ?_ | refine x_ifN ?_ | refine x_ifS ?_ | refine x_ch ?_ | refine z_retN ?_ | refine z_ex ?_ | refine z_pass ?_ | refine z_brk ?_ | refine z_cont ?_ | refine z_par ?_ | refine z_unp ?_ | refine z_setix ?_ | refine z_setk ?_ | refine z_unp2 ?_ | refine z_par3 ?_ | refine z_app rfl ?_ | refine z_ins rfl ?_ | refine x_tup ?_ | refine x_lst ?_); try dsimp only [wback, List.set, List.cons_append, List.nil_append])
      refine ⟨_, rfl, ?_⟩
      (repeat (first | refine x_op ?_ | refine x_oe rfl ?_ | refine x_v rfl ?_ | refine x_k ?_ | refine x_onil ?_ | refine x_ob rfl ?_ | refine z_set ?_ | refine z_ret ?_ | refine x_econs ?_ | refine x_enil ?_ | refine x_call ?_ | refine x_kcall ?_ | refine x_and ?_ | refine x_or ?_ | refine x_not ?_ | refine x_ite ?_ | refine x_isa rfl ?_ | refine x_isab rfl ?_ | refine x_optN ?_ | refine x_optS ?_ | refine x_sl rfl ?_ | refine x_slb rfl ?_ | refine x_dget rfl ?_ | refine x_dct ?_ | refine x_pd ?_ | refine x_rng ?_ | refine x_enm ?_ | refine x_zip ?_ | refine x_seq rfl ?_ | refine x_ifN ?_ | refine x_ifS ?_ | refine x_ch ?_ | refine z_retN ?_ | refine z_ex ?_ | refine z_pass ?_ | refine z_brk ?_ | refine z_cont ?_ | refine z_par ?_ | refine z_unp ?_ | refine z_setix ?_ | refine z_setk ?_ | refine z_unp2 ?_ | refine z_par3 ?_ | refine z_app rfl ?_ | refine z_ins rfl ?_ | refine x_tup ?_ | refine x_lst ?_); try dsimp only [wback, List.set, List.cons_append, List.nil_append])
      refine (law_reports_wk (k := 58) (by omega)).mono ?_
      rintro _ _ ⟨rfl, rfl⟩
      (repeat (first | refine x_op ?_ | refine x_oe rfl ?_ | refine x_v rfl ?_ | refine x_k ?_ | refine x_onil ?_ | refine x_ob rfl ?_ | refine z_set ?_ | refine z_ret ?_ | refine x_econs ?_ | refine x_enil ?_ | refine x_call ?_ | refine x_kcall ?_ | refine x_and ?_ | refine x_or ?_ | refine x_not ?_ | refine x_ite ?_ | refine x_isa rfl ?_ | refine x_isab rfl ?_ | refine x_optN ?_ | refine x_optS ?_ | refine x_sl rfl ?_ | refine x_slb rfl ?_ | refine x_dget rfl ?_ | refine x_dct ?_ | refine x_pd ?_ | refine x_rng ?_ | refine x_enm ?_ | refine x_zip ?_ | refine x_seq rfl ?_ | refine x_ifN ?_ | refine x_ifS ?_ | refine x_ch ?_ | refine z_retN ?_ | refine z_ex ?_ | refine z_pass ?_ | refine z_brk ?_ | refine z_cont ?_ | refine z_par ?_ | refine z_unp ?_ | refine z_setix ?_ | refine z_setk ?_ | refine z_unp2 ?_ | refine z_par3 ?_ | refine z_app rfl ?_ | refine z_ins rfl ?_ | refine x_tup ?_ | refine x_lst ?_); try dsimp only [wback, List.set, List.cons_append, List.nil_append])
      refine ⟨_, rfl, ?_⟩
      refine x_enil ⟨Nat.le_of_ble_eq_true rfl, ?_⟩
      (try dsimp only [wback, List.set, List.cons_append, List.nil_append])
      have hrl : (reps h.evs).length ≤ 14 := by
        have := List.length_filter_le (repAt h.evs) (List.range h.evs.length)
        rw [List.length_range] at this
        unfold reps
        omega
      have hfew := f.few
      obtain ⟨k1, k2⟩ := folk_ok f
      have w3 : Ok 2 12363 (.list [.tuple (sds h.names), .tuple (sds (folk h.evs)), .tuple ((reps h.evs).map natD)]) := (OkA.of (xs := [.tuple (sds h.names), .tuple (sds (folk h.evs)), .tuple ((reps h.evs).map natD)]) (D := 1) (w := 4120) (n := 3) (fun x hx => by
        simp only [List.mem_cons, List.not_mem_nil, or_false] at hx
        rcases hx with rfl | rfl | rfl
        · exact (sds_ok f.ok.nm).tuple.mono (by omega) (by omega)
        · exact (sds_ok k1).tuple.mono (by omega) (by omega)
        · exact nats_ok (fun a ha => by have := reps_lt ha; omega) (by omega)) (show 3 ≤ 3 by omega)).list
      obtain ⟨s3, e3⟩ := repr_at w3 (by omega) (by omega)
      refine z_ite ?_
      (repeat (first | refine x_op ?_ | refine x_oe rfl ?_ | refine x_v rfl ?_ | refine x_k ?_ | refine x_onil ?_ | refine x_ob rfl ?_ | refine z_set ?_ | refine z_ret ?_ | refine x_econs ?_ | refine x_enil ?_ | refine x_call ?_ | refine x_kcall ?_ | refine x_and ?_ | refine x_or ?_ | refine x_not ?_ | refine x_ite ?_ | refine x_isa rfl ?_ | refine x_isab rfl ?_ | refine x_optN ?_ | refine x_optS ?_ | refine x_sl rfl ?_ | refine x_slb rfl ?_ | refine x_dget rfl ?_ | refine x_dct ?_ | refine x_pd ?_ | refine x_rng ?_ | refine x_enm ?_ | refine x_zip ?_ | refine x_seq rfl ?_ | refine x_ifN ?_ | refine x_ifS ?_ | refine x_ch ?_ | refine z_retN ?_ | refine z_ex ?_ | refine z_pass ?_ | refine z_brk ?_ | refine z_cont ?_ | refine z_par ?_ | refine z_unp ?_ | refine z_setix ?_ | refine z_setk ?_ | refine z_unp2 ?_ | refine z_par3 ?_ | refine z_app rfl ?_ | refine z_ins rfl ?_ | refine x_tup ?_ | refine x_lst ?_); try dsimp only [wback, List.set, List.cons_append, List.nil_append])
      refine (places_wk (k := 58) f).mono ?_
      rintro _ _ ⟨rfl, rfl⟩
      (repeat (first | refine x_op ?_ | refine x_oe rfl ?_ | refine x_v rfl ?_ | refine x_k ?_ | refine x_onil ?_ | refine x_ob rfl ?_ | refine z_set ?_ | refine z_ret ?_ | refine x_econs ?_ | refine x_enil ?_ | refine x_call ?_ | refine x_kcall ?_ | refine x_and ?_ | refine x_or ?_ | refine x_not ?_ | refine x_ite ?_ | refine x_isa rfl ?_ | refine x_isab rfl ?_ | refine x_optN ?_ | refine x_optS ?_ | refine x_sl rfl ?_ | refine x_slb rfl ?_ | refine x_dget rfl ?_ | refine x_dct ?_ | refine x_pd ?_ | refine x_rng ?_ | refine x_enm ?_ | refine x_zip ?_ | refine x_seq rfl ?_ | refine x_ifN ?_ | refine x_ifS ?_ | refine x_ch ?_ | refine z_retN ?_ | refine z_ex ?_ | refine z_pass ?_ | refine z_brk ?_ | refine z_cont ?_ | refine z_par ?_ | refine z_unp ?_ | refine z_setix ?_ | refine z_setk ?_ | refine z_unp2 ?_ | refine z_par3 ?_ | refine z_app rfl ?_ | refine z_ins rfl ?_ | refine x_tup ?_ | refine x_lst ?_); try dsimp only [wback, List.set, List.cons_append, List.nil_append])
      refine (persons_wk (k := 58) f).mono ?_
      rintro _ _ ⟨rfl, rfl⟩
      (repeat (first | refine x_op ?_ | refine x_oe rfl ?_ | refine x_v rfl ?_ | refine x_k ?_ | refine x_onil ?_ | refine x_ob rfl ?_ | refine z_set ?_ | refine z_ret ?_ | refine x_econs ?_ | refine x_enil ?_ | refine x_call ?_ | refine x_kcall ?_ | refine x_and ?_ | refine x_or ?_ | refine x_not ?_ | refine x_ite ?_ | refine x_isa rfl ?_ | refine x_isab rfl ?_ | refine x_optN ?_ | refine x_optS ?_ | refine x_sl rfl ?_ | refine x_slb rfl ?_ | refine x_dget rfl ?_ | refine x_dct ?_ | refine x_pd ?_ | refine x_rng ?_ | refine x_enm ?_ | refine x_zip ?_ | refine x_seq rfl ?_ | refine x_ifN ?_ | refine x_ifS ?_ | refine x_ch ?_ | refine z_retN ?_ | refine z_ex ?_ | refine z_pass ?_ | refine z_brk ?_ | refine z_cont ?_ | refine z_par ?_ | refine z_unp ?_ | refine z_setix ?_ | refine z_setk ?_ | refine z_unp2 ?_ | refine z_par3 ?_ | refine z_app rfl ?_ | refine z_ins rfl ?_ | refine x_tup ?_ | refine x_lst ?_); try dsimp only [wback, List.set, List.cons_append, List.nil_append])
      refine (reports_of_wk (k := 57) (by omega)).mono ?_
      rintro _ _ ⟨rfl, rfl⟩
      refine x_enil ⟨Nat.le_of_ble_eq_true rfl, ?_⟩
      (repeat (first | refine x_op ?_ | refine x_oe rfl ?_ | refine x_v rfl ?_ | refine x_k ?_ | refine x_onil ?_ | refine x_ob rfl ?_ | refine z_set ?_ | refine z_ret ?_ | refine x_econs ?_ | refine x_enil ?_ | refine x_call ?_ | refine x_kcall ?_ | refine x_and ?_ | refine x_or ?_ | refine x_not ?_ | refine x_ite ?_ | refine x_isa rfl ?_ | refine x_isab rfl ?_ | refine x_optN ?_ | refine x_optS ?_ | refine x_sl rfl ?_ | refine x_slb rfl ?_ | refine x_dget rfl ?_ | refine x_dct ?_ | refine x_pd ?_ | refine x_rng ?_ | refine x_enm ?_ | refine x_zip ?_ | refine x_seq rfl ?_ | refine x_ifN ?_ | refine x_ifS ?_ | refine x_ch ?_ | refine z_retN ?_ | refine z_ex ?_ | refine z_pass ?_ | refine z_brk ?_ | refine z_cont ?_ | refine z_par ?_ | refine z_unp ?_ | refine z_setix ?_ | refine z_setk ?_ | refine z_unp2 ?_ | refine z_par3 ?_ | refine z_app rfl ?_ | refine z_ins rfl ?_ | refine x_tup ?_ | refine x_lst ?_); try dsimp only [wback, List.set, List.cons_append, List.nil_append])
      refine ⟨_, e3, ?_⟩
      (repeat (first | refine x_op ?_ | refine x_oe rfl ?_ | refine x_v rfl ?_ | refine x_k ?_ | refine x_onil ?_ | refine x_ob rfl ?_ | refine z_set ?_ | refine z_ret ?_ | refine x_econs ?_ | refine x_enil ?_ | refine x_call ?_ | refine x_kcall ?_ | refine x_and ?_ | refine x_or ?_ | refine x_not ?_ | refine x_ite ?_ | refine x_isa rfl ?_ | refine x_isab rfl ?_ | refine x_optN ?_ | refine x_optS ?_ | refine x_sl rfl ?_ | refine x_slb rfl ?_ | refine x_dget rfl ?_ | refine x_dct ?_ | refine x_pd ?_ | refine x_rng ?_ | refine x_enm ?_ | refine x_zip ?_ | refine x_seq rfl ?_ | refine x_ifN ?_ | refine x_ifS ?_ | refine x_ch ?_ | refine z_retN ?_ | refine z_ex ?_ | refine z_pass ?_ | refine z_brk ?_ | refine z_cont ?_ | refine z_par ?_ | refine z_unp ?_ | refine z_setix ?_ | refine z_setk ?_ | refine z_unp2 ?_ | refine z_par3 ?_ | refine z_app rfl ?_ | refine z_ins rfl ?_ | refine x_tup ?_ | refine x_lst ?_); try dsimp only [wback, List.set, List.cons_append, List.nil_append])
      refine ⟨_, e3, ?_⟩
      (repeat (first | refine x_op ?_ | refine x_oe rfl ?_ | refine x_v rfl ?_ | refine x_k ?_ | refine x_onil ?_ | refine x_ob rfl ?_ | refine z_set ?_ | refine z_ret ?_ | refine x_econs ?_ | refine x_enil ?_ | refine x_call ?_ | refine x_kcall ?_ | refine x_and ?_ | refine x_or ?_ | refine x_not ?_ | refine x_ite ?_ | refine x_isa rfl ?_ | refine x_isab rfl ?_ | refine x_optN ?_ | refine x_optS ?_ | refine x_sl rfl ?_ | refine x_slb rfl ?_ | refine x_dget rfl ?_ | refine x_dct ?_ | refine x_pd ?_ | refine x_rng ?_ | refine x_enm ?_ | refine x_zip ?_ | refine x_seq rfl ?_ | refine x_ifN ?_ | refine x_ifS ?_ | refine x_ch ?_ | refine z_retN ?_ | refine z_ex ?_ | refine z_pass ?_ | refine z_brk ?_ | refine z_cont ?_ | refine z_par ?_ | refine z_unp ?_ | refine z_setix ?_ | refine z_setk ?_ | refine z_unp2 ?_ | refine z_par3 ?_ | refine z_app rfl ?_ | refine z_ins rfl ?_ | refine x_tup ?_ | refine x_lst ?_); try dsimp only [wback, List.set, List.cons_append, List.nil_append])
      refine ⟨_, ne_selfS, _, rfl, fun q => (by cases q), fun _ => ?_⟩
      (try dsimp only [wback, List.set, List.cons_append, List.nil_append])
      refine z_set (x_lst (x_econs (x_tup (x_enil ⟨Nat.le_of_ble_eq_true rfl, x_enil ⟨Nat.le_of_ble_eq_true rfl, ?_⟩⟩))))
      (try dsimp only [wback, List.set, List.cons_append, List.nil_append])
      -- the groups
      refine z_for (fun i e => ∃ (G : List PyData) (o8 : Option PyData), e = [some script, some r, some (.list S), o3, some h.d, some (.list (sds (folk h.evs))), some (.list [.tuple (sds h.names), .tuple (sds (folk h.evs)), .tuple ((reps h.evs).map natD)]), some (.list G), o8, o9, o10, some (.str sv), some (.tuple (h.evs.map Ev.d)), none, none] ∧ (∀ y ∈ G, Grp i y) ∧ G.length = 2 ^ i) ?_
      (repeat (first | refine x_op ?_ | refine x_oe rfl ?_ | refine x_v rfl ?_ | refine x_k ?_ | refine x_onil ?_ | refine x_ob rfl ?_ | refine z_set ?_ | refine z_ret ?_ | refine x_econs ?_ | refine x_enil ?_ | refine x_call ?_ | refine x_kcall ?_ | refine x_and ?_ | refine x_or ?_ | refine x_not ?_ | refine x_ite ?_ | refine x_isa rfl ?_ | refine x_isab rfl ?_ | refine x_optN ?_ | refine x_optS ?_ | refine x_sl rfl ?_ | refine x_slb rfl ?_ | refine x_dget rfl ?_ | refine x_dct ?_ | refine x_pd ?_ | refine x_rng ?_ | refine x_enm ?_ | refine x_zip ?_ | refine x_seq rfl ?_ | refine x_ifN ?_ | refine x_ifS ?_ | refine x_ch ?_ | refine z_retN ?_ | refine z_ex ?_ | refine z_pass ?_ | refine z_brk ?_ | refine z_cont ?_ | refine z_par ?_ | refine z_unp ?_ | refine z_setix ?_ | refine z_setk ?_ | refine z_unp2 ?_ | refine z_par3 ?_ | refine z_app rfl ?_ | refine z_ins rfl ?_ | refine x_tup ?_ | refine x_lst ?_ | refine ⟨_, rfl, ?_⟩ | refine ⟨_, md _, ?_⟩ | refine ⟨_, fd _, ?_⟩ | refine ⟨_, _, _, rfl, rfl, rfl, ?_⟩ | refine ⟨Nat.le_of_ble_eq_true rfl, ?_⟩); try dsimp only [wback, List.set, List.cons_append, List.nil_append])
      refine ⟨⟨_, _, rfl, fun y hy => ⟨[], by rw [List.mem_singleton.mp hy]; rfl, by simp, by simp⟩, rfl⟩, fun i y hy e hI => ?_, fun e hI => ?_⟩
      · obtain ⟨G, o8, rfl, hG, hGl⟩ := hI
        have hi : i < 5 := (List.getElem?_eq_some_iff.mp hy).1
        have hi2 : (2 : Nat) ^ i ≤ 16 := by
          have : i = 0 ∨ i = 1 ∨ i = 2 ∨ i = 3 ∨ i = 4 := by omega
          rcases this with rfl | rfl | rfl | rfl | rfl <;> decide
        obtain ⟨p, rfl, hp⟩ : ∃ p, y = .str p ∧ Nm p := by
          have hm : y ∈ sds five := List.mem_of_getElem? hy
          obtain ⟨p, hp, rfl⟩ := List.mem_map.mp hm
          exact ⟨p, rfl, five_nm p hp⟩
        refine ⟨_, rfl, ?_⟩
        (try dsimp only [wback, List.set, List.cons_append, List.nil_append])
        refine z_set (x_op (x_oe rfl (x_v rfl (x_oe rfl (x_compM G id (fun _ => true) (fun d => match d with | .tuple xs => .tuple (xs ++ [.str p]) | d => d) (show 10 < 15 by decide) ?_)))))
        refine x_seq rfl (x_v rfl ⟨_, rfl, rfl, (List.map_id _).symm, by omega, fun x hx => wf_none ⟨rfl, rfl⟩, fun x hx _ => ?_, ?_⟩)
        · obtain ⟨g, rfl, g1, g2⟩ := hG x hx
          refine x_op (x_oe rfl (x_v rfl (x_oe rfl (x_tup (x_econs (x_v rfl (x_enil ⟨Nat.le_of_ble_eq_true rfl, ?_⟩)))))))
          exact x_onil ⟨_, addT (by rw [List.length_map]; show g.length + 1 ≤ _; omega), rfl, rfl⟩
        · rw [List.filter_eq_self.mpr (fun _ _ => rfl)]
          refine x_onil ⟨_, addL (by rw [List.length_map]; omega), ?_⟩
          (try dsimp only [wback, List.set, List.cons_append, List.nil_append])
          refine z_nil ⟨_, _, rfl, fun y hy => ?_, by rw [List.length_append, List.length_map, Nat.pow_succ]; omega⟩
          rcases List.mem_append.mp hy with hy | hy
          · obtain ⟨g, rfl, g1, g2⟩ := hG y hy
            exact ⟨g, rfl, g1, by omega⟩
          · obtain ⟨x, hx, rfl⟩ := List.mem_map.mp hy
            obtain ⟨g, rfl, g1, g2⟩ := hG x hx
            refine ⟨g ++ [p], ?_, fun s hs => (List.mem_append.mp hs).elim (g1 s) fun q => by rw [List.mem_singleton.mp q]; exact hp, by rw [List.length_append]; show _ + 1 ≤ _; omega⟩
            show PyData.tuple (sds g ++ [.str p]) = _
            simp [sds]
      · obtain ⟨G, o8, rfl, hG, hGl⟩ := hI
        have hG : ∀ y ∈ G, Grp 7 y := fun y hy => by
          obtain ⟨g, e, g1, g2⟩ := hG y hy
          exact ⟨g, e, g1, Nat.le_trans g2 (by decide)⟩
        have hGl : G.length = 32 := hGl
        refine z_set (x_op (x_oe rfl (x_sl rfl ?_)))
        (repeat (first | refine x_op ?_ | refine x_oe rfl ?_ | refine x_v rfl ?_ | refine x_k ?_ | refine x_onil ?_ | refine x_ob rfl ?_ | refine z_set ?_ | refine z_ret ?_ | refine x_econs ?_ | refine x_enil ?_ | refine x_call ?_ | refine x_kcall ?_ | refine x_and ?_ | refine x_or ?_ | refine x_not ?_ | refine x_ite ?_ | refine x_isa rfl ?_ | refine x_isab rfl ?_ | refine x_optN ?_ | refine x_optS ?_ | refine x_sl rfl ?_ | refine x_slb rfl ?_ | refine x_dget rfl ?_ | refine x_dct ?_ | refine x_pd ?_ | refine x_rng ?_ | refine x_enm ?_ | refine x_zip ?_ | refine x_seq rfl ?_ | refine x_ifN ?_ | refine x_ifS ?_ | refine x_ch ?_ | refine z_retN ?_ | refine z_ex ?_ | refine z_pass ?_ | refine z_brk ?_ | refine z_cont ?_ | refine z_par ?_ | refine z_unp ?_ | refine z_setix ?_ | refine z_setk ?_ | refine z_unp2 ?_ | refine z_par3 ?_ | refine z_app rfl ?_ | refine z_ins rfl ?_ | refine x_tup ?_ | refine x_lst ?_); try dsimp only [wback, List.set, List.cons_append, List.nil_append])
        refine (names_wk (k := 58) f).mono ?_
        rintro _ _ ⟨rfl, rfl⟩
        refine x_optN (x_optS (x_k ⟨_, rfl, ?_⟩))
        refine x_onil ⟨_, rfl, ?_⟩
        (try dsimp only [wback, List.set, List.cons_append, List.nil_append])
        have hcm : cutL (sds h.names) none (some 3) = sds (cutL h.names none (some 3)) := cut_map _ _ _ _
        rw [hcm]
        have pg : ∀ s ∈ cutL h.names none (some 3), Nm s := fun s hs => f.ok.nm s ((cut_sub _ _ _).subset hs)
        have pl : (cutL h.names none (some 3)).length ≤ 7 := Nat.le_trans (cut_sub _ _ _).length_le f.few
        generalize cutL h.names none (some 3) = pls at pg pl
        refine z_for (fun i e => ∃ (o6 o10 : Option PyData), e = [some script, some r, some (.list S), o3, some h.d, some (.list (sds (folk h.evs))), o6, some (.list G), o8, some (.tuple (sds pls)), o10, some (.str sv), some (.tuple (h.evs.map Ev.d)), none, none]) ?_
        refine x_seq rfl (x_op (x_oe rfl (x_v rfl (x_oe rfl (x_lst ?_)))))
        refine x_econs (x_tup (x_econs (x_k (x_enil ⟨Nat.le_of_ble_eq_true rfl, ?_⟩))))
        refine x_econs (x_tup (x_econs (x_k (x_econs (x_k (x_econs (x_k (x_enil ⟨Nat.le_of_ble_eq_true rfl, ?_⟩))))))))
        refine x_econs (x_v rfl (x_econs (x_sl rfl (x_v rfl (x_optN (x_optS (x_k ⟨_, rfl, ?_⟩)))))))
        refine x_enil ⟨Nat.le_of_ble_eq_true rfl, ?_⟩
        refine x_onil ⟨_, addL (by show G.length + 4 ≤ _; omega), ?_⟩
        have hcm2 : cutL (sds pls) none (some 1) = sds (cutL pls none (some 1)) := cut_map _ _ _ _
        refine ⟨_, rfl, ⟨_, _, rfl⟩, fun i y hy e hI => ?_, fun e hI => ?_⟩
        · obtain ⟨o6, o10, rfl⟩ := hI
          obtain ⟨g, rfl, g1, g2⟩ : Grp 7 y := by
            rcases List.mem_append.mp (List.mem_of_getElem? hy) with q | q
            · exact hG y q
            · simp only [List.mem_cons, List.not_mem_nil, or_false] at q
              rcases q with rfl | rfl | rfl | rfl
              · exact ⟨["nobody"], rfl, by decide +kernel, by decide⟩
              · exact ⟨["ann", "nobody", "zed"], rfl, by decide +kernel, by decide⟩
              · exact ⟨pls, rfl, pg, pl⟩
              · rw [hcm2]
                exact ⟨_, rfl, fun s hs => pg s ((cut_sub _ _ _).subset hs), Nat.le_trans (cut_sub _ _ _).length_le pl⟩
          refine ⟨_, rfl, ?_⟩
          (try dsimp only [wback, List.set, List.cons_append, List.nil_append])
          have bl : (byG h.evs g).length ≤ 14 := Nat.le_trans (List.length_filter_le _ _) hrl
          have wb : Ok 1 4120 (.tuple ((byG h.evs g).map natD)) := nats_ok (fun a ha => by have := reps_lt (List.mem_filter.mp ha).1; omega) (by omega)
          obtain ⟨sb, eb2⟩ := repr_at wb (by omega) (by omega)
          refine z_set (x_op (x_oe rfl (x_compM (reps h.evs) natD (fun a => match h.evs[a]? with | some e => g.contains e.one | none => false) natD (show 14 < 15 by decide) ?_)))
          (repeat (first | refine x_op ?_ | refine x_oe rfl ?_ | refine x_v rfl ?_ | refine x_k ?_ | refine x_onil ?_ | refine x_ob rfl ?_ | refine z_set ?_ | refine z_ret ?_ | refine x_econs ?_ | refine x_enil ?_ | refine x_call ?_ | refine x_kcall ?_ | refine x_and ?_ | refine x_or ?_ | refine x_not ?_ | refine x_ite ?_ | refine x_isa rfl ?_ | refine x_isab rfl ?_ | refine x_optN ?_ | refine x_optS ?_ | refine x_sl rfl ?_ | refine x_slb rfl ?_ | refine x_dget rfl ?_ | refine x_dct ?_ | refine x_pd ?_ | refine x_rng ?_ | refine x_enm ?_ | refine x_zip ?_ | refine x_seq rfl ?_ | refine x_ifN ?_ | refine x_ifS ?_ | refine x_ch ?_ | refine z_retN ?_ | refine z_ex ?_ | refine z_pass ?_ | refine z_brk ?_ | refine z_cont ?_ | refine z_par ?_ | refine z_unp ?_ | refine z_setix ?_ | refine z_setk ?_ | refine z_unp2 ?_ | refine z_par3 ?_ | refine z_app rfl ?_ | refine z_ins rfl ?_ | refine x_tup ?_ | refine x_lst ?_); try dsimp only [wback, List.set, List.cons_append, List.nil_append])
          refine (law_reports_wk (k := 58) (by omega)).mono ?_
          rintro _ _ ⟨rfl, rfl⟩
          refine ⟨_, rfl, rfl, rfl, by omega, fun a ha => ?_, fun x hx _ => x_v rfl ⟨rfl, rfl⟩, ?_⟩
          · have hlt := reps_lt ha
            rw [by_at hlt]
            refine x_ifS ?_
            (repeat (first | refine x_op ?_ | refine x_oe rfl ?_ | refine x_v rfl ?_ | refine x_k ?_ | refine x_onil ?_ | refine x_ob rfl ?_ | refine z_set ?_ | refine z_ret ?_ | refine x_econs ?_ | refine x_enil ?_ | refine x_call ?_ | refine x_kcall ?_ | refine x_and ?_ | refine x_or ?_ | refine x_not ?_ | refine x_ite ?_ | refine x_isa rfl ?_ | refine x_isab rfl ?_ | refine x_optN ?_ | refine x_optS ?_ | refine x_sl rfl ?_ | refine x_slb rfl ?_ | refine x_dget rfl ?_ | refine x_dct ?_ | refine x_pd ?_ | refine x_rng ?_ | refine x_enm ?_ | refine x_zip ?_ | refine x_seq rfl ?_ | refine x_ifN ?_ | refine x_ifS ?_ | refine x_ch ?_ | refine z_retN ?_ | refine z_ex ?_ | refine z_pass ?_ | refine z_brk ?_ | refine z_cont ?_ | refine z_par ?_ | refine z_unp ?_ | refine z_setix ?_ | refine z_setk ?_ | refine z_unp2 ?_ | refine z_par3 ?_ | refine z_app rfl ?_ | refine z_ins rfl ?_ | refine x_tup ?_ | refine x_lst ?_); try dsimp only [wback, List.set, List.cons_append, List.nil_append])
            refine ⟨_, ev_at hlt, ?_⟩
            (repeat (first | refine x_op ?_ | refine x_oe rfl ?_ | refine x_v rfl ?_ | refine x_k ?_ | refine x_onil ?_ | refine x_ob rfl ?_ | refine z_set ?_ | refine z_ret ?_ | refine x_econs ?_ | refine x_enil ?_ | refine x_call ?_ | refine x_kcall ?_ | refine x_and ?_ | refine x_or ?_ | refine x_not ?_ | refine x_ite ?_ | refine x_isa rfl ?_ | refine x_isab rfl ?_ | refine x_optN ?_ | refine x_optS ?_ | refine x_sl rfl ?_ | refine x_slb rfl ?_ | refine x_dget rfl ?_ | refine x_dct ?_ | refine x_pd ?_ | refine x_rng ?_ | refine x_enm ?_ | refine x_zip ?_ | refine x_seq rfl ?_ | refine x_ifN ?_ | refine x_ifS ?_ | refine x_ch ?_ | refine z_retN ?_ | refine z_ex ?_ | refine z_pass ?_ | refine z_brk ?_ | refine z_cont ?_ | refine z_par ?_ | refine z_unp ?_ | refine z_setix ?_ | refine z_setk ?_ | refine z_unp2 ?_ | refine z_par3 ?_ | refine z_app rfl ?_ | refine z_ins rfl ?_ | refine x_tup ?_ | refine x_lst ?_); try dsimp only [wback, List.set, List.cons_append, List.nil_append])
            refine ⟨_, ix1, ?_⟩
            (repeat (first | refine x_op ?_ | refine x_oe rfl ?_ | refine x_v rfl ?_ | refine x_k ?_ | refine x_onil ?_ | refine x_ob rfl ?_ | refine z_set ?_ | refine z_ret ?_ | refine x_econs ?_ | refine x_enil ?_ | refine x_call ?_ | refine x_kcall ?_ | refine x_and ?_ | refine x_or ?_ | refine x_not ?_ | refine x_ite ?_ | refine x_isa rfl ?_ | refine x_isab rfl ?_ | refine x_optN ?_ | refine x_optS ?_ | refine x_sl rfl ?_ | refine x_slb rfl ?_ | refine x_dget rfl ?_ | refine x_dct ?_ | refine x_pd ?_ | refine x_rng ?_ | refine x_enm ?_ | refine x_zip ?_ | refine x_seq rfl ?_ | refine x_ifN ?_ | refine x_ifS ?_ | refine x_ch ?_ | refine z_retN ?_ | refine z_ex ?_ | refine z_pass ?_ | refine z_brk ?_ | refine z_cont ?_ | refine z_par ?_ | refine z_unp ?_ | refine z_setix ?_ | refine z_setk ?_ | refine z_unp2 ?_ | refine z_par3 ?_ | refine z_app rfl ?_ | refine z_ins rfl ?_ | refine x_tup ?_ | refine x_lst ?_); try dsimp only [wback, List.set, List.cons_append, List.nil_append])
            exact ⟨_, in_sdsT g1 (one_nm f.ok.nm (f.ok.ev _ (List.getElem_mem hlt))), _, rfl, rfl, rfl⟩
          · refine x_onil ⟨_, rfl, ?_⟩
            (try dsimp only [wback, List.set, List.cons_append, List.nil_append])
            refine z_ite (x_orB ?_)
            (repeat (first | refine x_op ?_ | refine x_oe rfl ?_ | refine x_v rfl ?_ | refine x_k ?_ | refine x_onil ?_ | refine x_ob rfl ?_ | refine z_set ?_ | refine z_ret ?_ | refine x_econs ?_ | refine x_enil ?_ | refine x_call ?_ | refine x_kcall ?_ | refine x_and ?_ | refine x_or ?_ | refine x_not ?_ | refine x_ite ?_ | refine x_isa rfl ?_ | refine x_isab rfl ?_ | refine x_optN ?_ | refine x_optS ?_ | refine x_sl rfl ?_ | refine x_slb rfl ?_ | refine x_dget rfl ?_ | refine x_dct ?_ | refine x_pd ?_ | refine x_rng ?_ | refine x_enm ?_ | refine x_zip ?_ | refine x_seq rfl ?_ | refine x_ifN ?_ | refine x_ifS ?_ | refine x_ch ?_ | refine z_retN ?_ | refine z_ex ?_ | refine z_pass ?_ | refine z_brk ?_ | refine z_cont ?_ | refine z_par ?_ | refine z_unp ?_ | refine z_setix ?_ | refine z_setk ?_ | refine z_unp2 ?_ | refine z_par3 ?_ | refine z_app rfl ?_ | refine z_ins rfl ?_ | refine x_tup ?_ | refine x_lst ?_); try dsimp only [wback, List.set, List.cons_append, List.nil_append])
            refine (reports_by_wk (k := 56) f g1).mono ?_
            rintro _ _ ⟨rfl, rfl⟩
            (repeat (first | refine x_op ?_ | refine x_oe rfl ?_ | refine x_v rfl ?_ | refine x_k ?_ | refine x_onil ?_ | refine x_ob rfl ?_ | refine z_set ?_ | refine z_ret ?_ | refine x_econs ?_ | refine x_enil ?_ | refine x_call ?_ | refine x_kcall ?_ | refine x_and ?_ | refine x_or ?_ | refine x_not ?_ | refine x_ite ?_ | refine x_isa rfl ?_ | refine x_isab rfl ?_ | refine x_optN ?_ | refine x_optS ?_ | refine x_sl rfl ?_ | refine x_slb rfl ?_ | refine x_dget rfl ?_ | refine x_dct ?_ | refine x_pd ?_ | refine x_rng ?_ | refine x_enm ?_ | refine x_zip ?_ | refine x_seq rfl ?_ | refine x_ifN ?_ | refine x_ifS ?_ | refine x_ch ?_ | refine z_retN ?_ | refine z_ex ?_ | refine z_pass ?_ | refine z_brk ?_ | refine z_cont ?_ | refine z_par ?_ | refine z_unp ?_ | refine z_setix ?_ | refine z_setk ?_ | refine z_unp2 ?_ | refine z_par3 ?_ | refine z_app rfl ?_ | refine z_ins rfl ?_ | refine x_tup ?_ | refine x_lst ?_); try dsimp only [wback, List.set, List.cons_append, List.nil_append])
            refine ⟨_, eb2, ?_⟩
            (repeat (first | refine x_op ?_ | refine x_oe rfl ?_ | refine x_v rfl ?_ | refine x_k ?_ | refine x_onil ?_ | refine x_ob rfl ?_ | refine z_set ?_ | refine z_ret ?_ | refine x_econs ?_ | refine x_enil ?_ | refine x_call ?_ | refine x_kcall ?_ | refine x_and ?_ | refine x_or ?_ | refine x_not ?_ | refine x_ite ?_ | refine x_isa rfl ?_ | refine x_isab rfl ?_ | refine x_optN ?_ | refine x_optS ?_ | refine x_sl rfl ?_ | refine x_slb rfl ?_ | refine x_dget rfl ?_ | refine x_dct ?_ | refine x_pd ?_ | refine x_rng ?_ | refine x_enm ?_ | refine x_zip ?_ | refine x_seq rfl ?_ | refine x_ifN ?_ | refine x_ifS ?_ | refine x_ch ?_ | refine z_retN ?_ | refine z_ex ?_ | refine z_pass ?_ | refine z_brk ?_ | refine z_cont ?_ | refine z_par ?_ | refine z_unp ?_ | refine z_setix ?_ | refine z_setk ?_ | refine z_unp2 ?_ | refine z_par3 ?_ | refine z_app rfl ?_ | refine z_ins rfl ?_ | refine x_tup ?_ | refine x_lst ?_); try dsimp only [wback, List.set, List.cons_append, List.nil_append])
            refine ⟨_, eb2, ?_⟩
            (repeat (first | refine x_op ?_ | refine x_oe rfl ?_ | refine x_v rfl ?_ | refine x_k ?_ | refine x_onil ?_ | refine x_ob rfl ?_ | refine z_set ?_ | refine z_ret ?_ | refine x_econs ?_ | refine x_enil ?_ | refine x_call ?_ | refine x_kcall ?_ | refine x_and ?_ | refine x_or ?_ | refine x_not ?_ | refine x_ite ?_ | refine x_isa rfl ?_ | refine x_isab rfl ?_ | refine x_optN ?_ | refine x_optS ?_ | refine x_sl rfl ?_ | refine x_slb rfl ?_ | refine x_dget rfl ?_ | refine x_dct ?_ | refine x_pd ?_ | refine x_rng ?_ | refine x_enm ?_ | refine x_zip ?_ | refine x_seq rfl ?_ | refine x_ifN ?_ | refine x_ifS ?_ | refine x_ch ?_ | refine z_retN ?_ | refine z_ex ?_ | refine z_pass ?_ | refine z_brk ?_ | refine z_cont ?_ | refine z_par ?_ | refine z_unp ?_ | refine z_setix ?_ | refine z_setk ?_ | refine z_unp2 ?_ | refine z_par3 ?_ | refine z_app rfl ?_ | refine z_ins rfl ?_ | refine x_tup ?_ | refine x_lst ?_); try dsimp only [wback, List.set, List.cons_append, List.nil_append])
            refine ⟨_, ne_selfS, _, rfl, ?_⟩
            (repeat (first | refine x_op ?_ | refine x_oe rfl ?_ | refine x_v rfl ?_ | refine x_k ?_ | refine x_onil ?_ | refine x_ob rfl ?_ | refine z_set ?_ | refine z_ret ?_ | refine x_econs ?_ | refine x_enil ?_ | refine x_call ?_ | refine x_kcall ?_ | refine x_and ?_ | refine x_or ?_ | refine x_not ?_ | refine x_ite ?_ | refine x_isa rfl ?_ | refine x_isab rfl ?_ | refine x_optN ?_ | refine x_optS ?_ | refine x_sl rfl ?_ | refine x_slb rfl ?_ | refine x_dget rfl ?_ | refine x_dct ?_ | refine x_pd ?_ | refine x_rng ?_ | refine x_enm ?_ | refine x_zip ?_ | refine x_seq rfl ?_ | refine x_ifN ?_ | refine x_ifS ?_ | refine x_ch ?_ | refine z_retN ?_ | refine z_ex ?_ | refine z_pass ?_ | refine z_brk ?_ | refine z_cont ?_ | refine z_par ?_ | refine z_unp ?_ | refine z_setix ?_ | refine z_setk ?_ | refine z_unp2 ?_ | refine z_par3 ?_ | refine z_app rfl ?_ | refine z_ins rfl ?_ | refine x_tup ?_ | refine x_lst ?_); try dsimp only [wback, List.set, List.cons_append, List.nil_append])
            refine ⟨_, esv, ?_⟩
            (repeat (first | refine x_op ?_ | refine x_oe rfl ?_ | refine x_v rfl ?_ | refine x_k ?_ | refine x_onil ?_ | refine x_ob rfl ?_ | refine z_set ?_ | refine z_ret ?_ | refine x_econs ?_ | refine x_enil ?_ | refine x_call ?_ | refine x_kcall ?_ | refine x_and ?_ | refine x_or ?_ | refine x_not ?_ | refine x_ite ?_ | refine x_isa rfl ?_ | refine x_isab rfl ?_ | refine x_optN ?_ | refine x_optS ?_ | refine x_sl rfl ?_ | refine x_slb rfl ?_ | refine x_dget rfl ?_ | refine x_dct ?_ | refine x_pd ?_ | refine x_rng ?_ | refine x_enm ?_ | refine x_zip ?_ | refine x_seq rfl ?_ | refine x_ifN ?_ | refine x_ifS ?_ | refine x_ch ?_ | refine z_retN ?_ | refine z_ex ?_ | refine z_pass ?_ | refine z_brk ?_ | refine z_cont ?_ | refine z_par ?_ | refine z_unp ?_ | refine z_setix ?_ | refine z_setk ?_ | refine z_unp2 ?_ | refine z_par3 ?_ | refine z_app rfl ?_ | refine z_ins rfl ?_ | refine x_tup ?_ | refine x_lst ?_); try dsimp only [wback, List.set, List.cons_append, List.nil_append])
            refine ⟨_, ne_selfS, _, rfl, rfl, _, rfl, fun q => (by cases q), fun _ => ?_⟩
            exact z_nil ⟨_, _, rfl⟩
        · obtain ⟨o6, o10, rfl⟩ := hI
          exact z_nil ⟨_, _, _, _, _, _, _, _, _, _, rfl⟩
    · obtain ⟨o3, o4, o5, o6, o7, o8, o9, o10, o11, o12, rfl⟩ := hI
      refine z_ret (x_k ?_)
      exact ⟨_, rfl, rfl⟩
theorem pure_ : ∀ ns : List Int, ns.length ≤ 63 → (∀ z ∈ ns, Builtin.Int.intBits z ≤ 1048576) → ∃ outs, callK (fss.map (·.fd)) 100000 60 f_law [.list (ns.map .int)] = .ok (.bool true) outs := by
  intro ns h _
  obtain ⟨d, outs, h1, h2⟩ := (law_wk h).r
  subst h2
  exact ⟨outs, h1⟩
end K03
end
section
set_option maxHeartbeats 0
open PySem PySem.W PySem.Calls PyProof.Rows
theorem PySem.Challenge.cw_mixedbags_k03_reports_and_persons_holds : PySem.Challenge.rw_mixedbags_k03_reports_and_persons.Holds := by
  w_on; o_law
  refine HandSHeadRun.head_any (r := OpenLaw.row PySem.Challenge.rw_mixedbags_k03_reports_and_persons) (q := view (OpenLaw.row PySem.Challenge.rw_mixedbags_k03_reports_and_persons).prog [16]) (H := K03.hk) (ob := K03.ob) (M := 8000) (loose := ((["places_of", "persons_of", "reports_of", "reports_by", "is_report", "_law_reader", "_law_draw", "_law_subset", "_law_event", "_law_history", "_law_names", "_law_reports", "_law_person", "_law_limited"] : List PySem.Str))) (d := HandSHeadRun.topDef (OpenLaw.row PySem.Challenge.rw_mixedbags_k03_reports_and_persons).prog 16) (kwd := []) K03.ob_eq
    (by kernel_rfl) (fun s => by kernel_rfl) K03.run (by kernel_rfl) (by kernel_rfl) (by kernel_rfl) (by rfl) (by first | assumption | decide +kernel) (by decide +kernel) ⟨rfl, rfl, rfl, rfl, rfl, by decide +kernel⟩ ?hw ?hc
  case hw => w_witness2
  case hc =>
    refine Dv.law_of (l := PySem.Challenge.rw_mixedbags_k03_reports_and_persons) (n := 63) (k := 60) (L := K03.f_law) (fuel := 100000) (fss := K03.fss) rfl (by decide) (by kernel_rfl) ⟨rfl, by decide, by decide⟩ rfl (by kernel_rfl) rfl rfl K03.ck K03.bnds ?F K03.pure_
    intro w mg h Y G
    obtain ⟨K, KX, c⟩ := Y
    exact ⟨K, KX, Dv.fnsAt_of KX G c⟩
end
