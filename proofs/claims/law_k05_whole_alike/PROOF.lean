import PyProof.Rows.All
import Wide.All
import OpenK.AllK
import Wide.FinOn
import Lean
import PyProof.EqAt
import PyProof.EqKinds
import PyProof.TupleCall
import PySem.Challenge.RW_tellscolumns_k05_whole_alike
import PyProof.Rows.SetFrom
import PyProof.Rows.SortShell
import PyProof.CollectIter
import PyProof.ZipIter
import PyProof.Rows.SortWalk
import KE.KSortTup
import PyProof.DictFindH
import PyProof.IsRules
import PyProof.MeetsSeq
import PyProof.FactsAll.list_3
import PyProof.P3In
import PyProof.WalkInts
import PyProof.SeqI3
import KE.KItemsList
import PyProof.StationsW
import PyProof.ExcClass
import PyProof.Rows.TopTwo
import PyProof.RulesAs
import PyProof.Rows.Catch
import KE.KIsAll
import PyProof.ExcAttrAll.ValueError
import PyProof.ExcArgsOwn
import PyProof.ConsumeWalk
set_option Elab.async false
set_option linter.all false
set_option maxRecDepth 100000
/-! THE HAND LAYER, for ints, bools, texts, own classes, LISTS and tuples (index, slices, in, append, pop ..), calls, loops. Paste it whole ahead of your own text; what your proof does not reach may be deleted. -/
namespace L2
open PySem PySem.Spec PyProof.Rows

/-- a key: an int or a str -/
abbrev Key := Sum Int Str
def keyIs : Key → Value → Bool
  | .inl k, v => Value.isInt k v
  | .inr x, v => Value.isStrOf x v
def keyH (w : World) : Key → Int
  | .inl k => hashInt k
  | .inr x => hashStr w x
theorem keyIs_shape : ∀ {k : Key} {v : Value}, keyIs k v = true → (∃ i t, k = Sum.inl i ∧ v = Value.int i t) ∨ (∃ x t, k = Sum.inr x ∧ v = Value.str x t)
  | .inl i, v, h => by
    obtain ⟨t, e⟩ := Value.isInt_shape (k := i) (v := v) h
    exact .inl ⟨i, t, rfl, e⟩
  | .inr x, v, h => by
    obtain ⟨t, e⟩ := Value.isStrOf_shape (x := x) (v := v) h
    exact .inr ⟨x, t, rfl, e⟩
theorem keyIs_int (i : Int) (t : Tok) : keyIs (.inl i) (.int i t) = true := by simp [keyIs, Value.isInt]
theorem keyIs_str (x : Str) (t : Tok) : keyIs (.inr x) (.str x t) = true := by simp [keyIs, Value.isStrOf]
theorem key_ll (a b : Int) : decide ((Sum.inl a : Key) = Sum.inl b) = (a == b) := by
  by_cases e : a = b
  · subst e; simp
  · have h : ¬ (Sum.inl a : Key) = Sum.inl b := fun q => e (Sum.inl.inj q)
    rw [decide_eq_false h]
    exact (beq_eq_false_iff_ne.mpr e).symm
theorem key_rr (a b : Str) : decide ((Sum.inr a : Key) = Sum.inr b) = decide (a = b) := by
  by_cases e : a = b
  · subst e; simp
  · have h : ¬ (Sum.inr a : Key) = Sum.inr b := fun q => e (Sum.inr.inj q)
    rw [decide_eq_false h, decide_eq_false e]
theorem key_lr (a : Int) (b : Str) : decide ((Sum.inl a : Key) = Sum.inr b) = false := decide_eq_false (fun q => nomatch q)
theorem key_rl (a : Str) (b : Int) : decide ((Sum.inr a : Key) = Sum.inl b) = false := decide_eq_false (fun q => nomatch q)

def mixKind (prog : Program) (w : World) : PySem.KeyKind prog w Key where
  is := keyIs
  hash := keyH w
  inj := fun v a b ha hb => by
    rcases keyIs_shape ha with ⟨i, t, rfl, rfl⟩ | ⟨x, t, rfl, rfl⟩
    · rcases keyIs_shape hb with ⟨j, u, rfl, e⟩ | ⟨y, u, rfl, e⟩
      · injection e with e1 _; rw [e1]
      · exact nomatch e
    · rcases keyIs_shape hb with ⟨j, u, rfl, e⟩ | ⟨y, u, rfl, e⟩
      · exact nomatch e
      · injection e with e1 _; rw [e1]
  byValue := fun k v h => by
    rcases keyIs_shape h with ⟨i, t, rfl, rfl⟩ | ⟨x, t, rfl, rfl⟩ <;> rfl
  pyHash := fun hv h => by
    rcases keyIs_shape hv with ⟨i, t, rfl, rfl⟩ | ⟨x, t, rfl, rfl⟩
    · exact wpAny_pyHash_int h
    · exact wpAny_pyHash_str h
  eqBool := fun hu hv h => by
    rcases keyIs_shape hu with ⟨i, t, rfl, rfl⟩ | ⟨x, t, rfl, rfl⟩
    · rcases keyIs_shape hv with ⟨j, u, rfl, rfl⟩ | ⟨y, u, rfl, rfl⟩
      · rw [key_ll] at h; exact wpAny_eqBool_int h
      · rw [key_lr] at h; exact SeqAt.EqAt.int_str i t y u _ _ _ _ h
    · rcases keyIs_shape hv with ⟨j, u, rfl, rfl⟩ | ⟨y, u, rfl, rfl⟩
      · rw [key_rl] at h; exact SeqAt.EqAt.str_int x t j u _ _ _ _ h
      · rw [key_rr] at h; exact wpAny_eqBool_str h
  «strs» := fun k x t v h => by
    rcases keyIs_shape h with ⟨i, u, rfl, e⟩ | ⟨y, u, rfl, e⟩
    · exact nomatch e
    · injection e with e1 _
      subst e1
      cases v <;> rfl

theorem mixKind_int (prog : Program) (w : World) (i : Int) (t : Tok) : (mixKind prog w).is (.inl i) (.int i t) = true := keyIs_int i t
theorem mixKind_str (prog : Program) (w : World) (x : Str) (t : Tok) : (mixKind prog w).is (.inr x) (.str x t) = true := keyIs_str x t
end L2

namespace L2
open PySem PySem.Spec PyProof.Rows

/-- a value, without the heap -/
inductive V where
  | non | bl (b : Bool) | int (i : Int) | str (x : Str) | byt (b : Array UInt8) | flt (b : UInt64) | ref (a : Addr) | ty (n : String)
  deriving DecidableEq

def RelV : V → Value → Prop
  | .non, u => u = Value.none
  | .bl b, u => u = Value.bool b
  | .int i, u => ∃ t, u = Value.int i t
  | .str x, u => ∃ t, u = Value.str x t
  | .byt b, u => ∃ t, u = Value.bytes b t
  | .flt b, u => ∃ t, u = Value.float b t
  | .ref a, u => u = Value.ref a
  | .ty n, u => u = Value.type n

abbrev Vals : List V → List Value → Prop := Paired RelV
theorem Vals.length {xs : List V} {us : List Value} (r : Vals xs us) : xs.length = us.length := Paired.length r
theorem Vals.get : ∀ {xs : List V} {us : List Value} {i : Nat} {x : V}, Vals xs us → xs[i]? = some x → ∃ u, us[i]? = some u ∧ RelV x u
  | _, _, _, _, .nil, e => by simp at e
  | _, _, 0, _, .cons r _, e => by simp at e; subst e; exact ⟨_, rfl, r⟩
  | _, _, i + 1, x, .cons _ t, e => by
    obtain ⟨u, h1, h2⟩ := Vals.get (i := i) (x := x) t (by simpa using e)
    exact ⟨u, by simpa using h1, h2⟩
theorem Vals.set {x : V} {u : Value} (r : RelV x u) : ∀ {xs : List V} {us : List Value} (i : Nat), Vals xs us → Vals (xs.set i x) (us.set i u)
  | _, _, _, .nil => .nil
  | _, _, 0, .cons _ t => .cons r t
  | _, _, i + 1, .cons q t => .cons q (Vals.set r i t)
theorem Vals.append : ∀ {xs ys : List V} {us ws : List Value}, Vals xs us → Vals ys ws → Vals (xs ++ ys) (us ++ ws)
  | _, _, _, _, .nil, s => s
  | _, _, _, _, .cons r t, s => .cons r (Vals.append t s)
theorem Vals.take : ∀ {xs : List V} {us : List Value} (n : Nat), Vals xs us → Vals (xs.take n) (us.take n)
  | _, _, 0, _ => .nil
  | _, _, _ + 1, .nil => .nil
  | _, _, n + 1, .cons r t => .cons r (Vals.take n t)
theorem Vals.drop : ∀ {xs : List V} {us : List Value} (n : Nat), Vals xs us → Vals (xs.drop n) (us.drop n)
  | _, _, 0, r => r
  | _, _, _ + 1, .nil => .nil
  | _, _, n + 1, .cons _ t => Vals.drop n t
theorem Vals.none_of : ∀ {xs : List V} {us : List Value} {i : Nat}, Vals xs us → xs[i]? = none → us[i]? = none := fun {xs us i} r e => by
  have h1 := r.length
  have h2 : xs.length ≤ i := List.getElem?_eq_none_iff.mp e
  exact List.getElem?_eq_none_iff.mpr (by omega)

def RelO : Option V → Option Value → Prop
  | some v, some u => RelV v u
  | none, none => True
  | _, _ => False
def KV {κ : Type} : List (κ × V) → List (κ × Value) → Prop := Paired fun (p : κ × V) (q : κ × Value) => p.1 = q.1 ∧ RelV p.2 q.2

/-- a key of a dict (00_mix): an int or a text -/
def kV : Key → V
  | .inl i => .int i
  | .inr x => .str x

/-- what stands at a tracked address -/
inductive HO where
  /-- a list -/
  | lst (xs : List V)
  /-- a tuple (never changes) -/
  | tup (xs : List V)
  /-- a dict whose keys are ints and texts; one whose keys are tuples of ints and texts (the empty one is both) -/
  | dK (kvs : List (Key × V)) | dT (kvs : List (List Key × V))
  /-- a set of ints: its members, its size -/
  | set (S : Int → Bool) (n : Nat)
  /-- an instance of the class at C, its dict at dx, its attributes -/
  | ins (C dx : Addr) (fs : List (Str × V))
  /-- the dict of the instance at x -/
  | own (x : Addr)
  /-- the dict of an exception -/
  | xd (fs : List (Str × V))
  /-- a bound method, f of x -/
  | met (f x : Addr)
  /-- a range object lo, lo + 1, .. below hi -/
  | rng (lo hi : Int)
  /-- a thing that is known to the object (the script; a dict while a loop walks it): read, never written while it is so -/
  | frz (o : Obj) (u : HO)
  /-- a code object's table -/
  | tbl (ps : Array Value)
  /-- any other thing, by what is true of its one object (a def of one's own: SetO a S n := HO.ext fun h => ..) -/
  | ext (φ : Heap → Prop)

abbrev Hp := Addr → Option HO
def upd (H : Hp) (a : Addr) (o : HO) : Hp := fun b => if b = a then some o else H b
theorem upd_same {H : Hp} {a : Addr} {o : HO} : upd H a o a = some o := by unfold upd; rw [if_pos rfl]
theorem upd_ne {H : Hp} {a b : Addr} {o : HO} (h : b ≠ a) : upd H a o b = H b := by unfold upd; rw [if_neg h]
/-- two objects of different content stand apart -/
theorem ne_of {H : Hp} {a b : Addr} {o u : HO} (h : H a = some o) (h' : H b = some u) (d : o ≠ u) : a ≠ b := by
  intro e; subst e; rw [h] at h'; exact d (Option.some.inj h')
theorem ne_of_none {H : Hp} {a b : Addr} {o : HO} (h : H a = some o) (h' : H b = none) : a ≠ b := by
  intro e; subst e; rw [h] at h'; cases h'

section
variable (P : Program) (w : World)
def ObjOk (H : Hp) (h : Heap) (a : Addr) : HO → Prop
  | .lst xs => xs.length ≤ sizeLine ∧ ∃ (its : List Value) (n : Nat), Vals xs its ∧ h.get? a = some { cls := .type "list", data := .seq its.toArray n }
  | .tup xs => xs.length ≤ sizeLine ∧ ∃ its : List Value, Vals xs its ∧ IsTup h a its.toArray
  | .dK kvs => kvs.length ≤ sizeLine ∧ (a == sysModules) = false ∧ ∃ vs, KV kvs vs ∧ h.DictOf (mixKind P w) a vs
  | .dT kvs => kvs.length ≤ sizeLine ∧ (a == sysModules) = false ∧ ∃ xs : List (List Key × Addr × Value),
      Paired (fun (p : List Key × V) (q : List Key × Addr × Value) => p.1 = q.1 ∧ H q.2.1 = some (.tup (p.1.map kV)) ∧ RelV p.2 q.2.2) kvs xs ∧
      ∃ o es ep, h.get? a = some o ∧ o.ExactDict ∧ o.data = .dict es ep ∧ es.toList = xs.map (entryOfKey (tupleKind (mixKind P w))) ∧ (xs.map (·.1)).Nodup
  | .set S n => h.SetOf (intKind P w) a S n
  | .ins C dx fs => H dx = some (.own a) ∧ fs.length ≤ 1000 ∧ dx ≠ a ∧ h.get? a = some (PySem.W.instObj C dx) ∧
      ∃ mA, h.Ns1 dx mA ∧ (∀ f, RelO (fs.lookup f) (mA f)) ∧ PySem.Within mA (fs.map (·.1))
  | .own _ => ∃ o, h.get? a = some o
  | .xd fs => ∃ mA, h.Ns1 a mA ∧ ∀ f, RelO (fs.lookup f) (mA f)
  | .rng lo hi => ∃ t u v, h.get? a = some { cls := .type "range", data := .fields #[.int lo t, .int hi u, .int 1 v] }
  | .frz o u => h.get? a = some o ∧ ObjOk H h a u
  | .tbl ps => h.get? a = some { cls := .none, data := .fields ps }
  | .met f x => h.get? a = some (PySem.W.methodObj (.ref f) (.ref x))
  | .ext φ => φ h ∧ (∃ o, h.get? a = some o) ∧ ∀ h1 h2 : Heap, φ h1 → (∀ o, h1.get? a = some o → h2.get? a = some o) → φ h2
/-- the abstract heap is held -/
def HOk (H : Hp) (h : Heap) : Prop := ∀ a o, H a = some o → ObjOk P w H h a o
end

section
variable {P : Program} {w : World} {H H' : Hp} {h h' : Heap} {a : Addr} {o : HO}
theorem ObjOk.lt (x : ObjOk P w H h a o) : a < h.objs.size := by
  cases o with
  | lst xs => obtain ⟨_, _, _, _, e⟩ := x; exact Heap.lt_size e
  | tup xs => obtain ⟨_, _, _, p⟩ := x; exact p.lt
  | dK kvs => obtain ⟨_, _, _, _, o, _, _, e, _⟩ := x; exact Heap.lt_size e
  | dT kvs => obtain ⟨_, _, _, _, o, _, _, e, _⟩ := x; exact Heap.lt_size e
  | set S n => obtain ⟨o, _, _, _, e, _⟩ := x; exact Heap.lt_size e
  | ins C dx fs => obtain ⟨_, _, _, e, _⟩ := x; exact Heap.lt_size e
  | own y => obtain ⟨_, e⟩ := x; exact Heap.lt_size e
  | xd fs => obtain ⟨_, ⟨_, _, _, e, _⟩, _⟩ := x; exact Heap.lt_size e
  | rng lo hi => obtain ⟨_, _, _, e⟩ := x; exact Heap.lt_size e
  | frz ob u => obtain ⟨e, _⟩ := x; exact Heap.lt_size e
  | tbl ps => exact Heap.lt_size (show h.get? a = some _ from x)
  | met f y => exact Heap.lt_size (show h.get? a = some _ from x)
  | ext φ => obtain ⟨_, ⟨_, e⟩, _⟩ := x; exact Heap.lt_size e
theorem Paired.mapP {α β : Type} {F G : α → β → Prop} : ∀ {l₁ : List α} {l₂ : List β}, Paired F l₁ l₂ → (∀ a b, F a b → G a b) → Paired G l₁ l₂
  | _, _, .nil, _ => .nil
  | _, _, .cons r t, f => .cons (f _ _ r) (Paired.mapP t f)
/-- what an object's description leans on: its own object, its own dict, the tuples -/
theorem ObjOk.stay (x : ObjOk P w H h a o) (k : ∀ b u, (b = a ∨ H b = some (.own a)) → h.get? b = some u → h'.get? b = some u)
    (ho : ∀ b, H b = some (.own a) → H' b = some (.own a)) (ht : ∀ b xs, H b = some (.tup xs) → H' b = some (.tup xs)) : ObjOk P w H' h' a o := by
  induction o with
  | lst xs => obtain ⟨z, its, n, r, e⟩ := x; exact ⟨z, its, n, r, k _ _ (.inl rfl) e⟩
  | tup xs => obtain ⟨z, its, r, ob, e, c⟩ := x; exact ⟨z, its, r, ob, k _ _ (.inl rfl) e, c⟩
  | dK kvs => obtain ⟨z, y, vs, r, ob, es, ep, e, c⟩ := x; exact ⟨z, y, vs, r, ob, es, ep, k _ _ (.inl rfl) e, c⟩
  | dT kvs =>
    obtain ⟨z, y, xs, r, ob, es, ep, e, c⟩ := x
    exact ⟨z, y, xs, Paired.mapP r fun p q z => ⟨z.1, ht _ _ z.2.1, z.2.2⟩, ob, es, ep, k _ _ (.inl rfl) e, c⟩
  | set S n => obtain ⟨ob, es, ep, t, e, c⟩ := x; exact ⟨ob, es, ep, t, k _ _ (.inl rfl) e, c⟩
  | ins C dx fs =>
    obtain ⟨d, z, ne, e, mA, ⟨od, es, ep, e2, c⟩, r⟩ := x
    exact ⟨ho _ d, z, ne, k _ _ (.inl rfl) e, mA, ⟨od, es, ep, k _ _ (.inr d) e2, c⟩, r⟩
  | own y => obtain ⟨ob, e⟩ := x; exact ⟨ob, k _ _ (.inl rfl) e⟩
  | xd fs => obtain ⟨mA, ⟨od, es, ep, e, c⟩, r⟩ := x; exact ⟨mA, ⟨od, es, ep, k _ _ (.inl rfl) e, c⟩, r⟩
  | rng lo hi => obtain ⟨t, u, v, e⟩ := x; exact ⟨t, u, v, k _ _ (.inl rfl) e⟩
  | frz ob u ih => obtain ⟨e, q⟩ := x; exact ⟨k _ _ (.inl rfl) e, ih q⟩
  | tbl ps =>
    have e : h.get? a = some { cls := .none, data := .fields ps } := x
    show h'.get? a = some { cls := .none, data := .fields ps }
    exact k a _ (.inl rfl) e
  | met f y =>
    have e : h.get? a = some (PySem.W.methodObj (.ref f) (.ref y)) := x
    show h'.get? a = some (PySem.W.methodObj (.ref f) (.ref y))
    exact k a _ (.inl rfl) e
  | ext φ => obtain ⟨p, ⟨o, e⟩, st⟩ := x; exact ⟨st _ _ p fun o q => k _ _ (.inl rfl) q, ⟨o, k _ _ (.inl rfl) e⟩, st⟩
theorem HOk.lt (x : HOk P w H h) (e : H a = some o) : a < h.objs.size := (x a o e).lt
theorem HOk.fresh (x : HOk P w H h) (e : h.objs.size ≤ a) : H a = none := by
  cases q : H a with
  | none => rfl
  | some u => exact absurd (Nat.lt_of_lt_of_le (x.lt q) e) (Nat.lt_irrefl _)
/-- every object of the heap is kept -/
theorem HOk.kept (x : HOk P w H h) (k : ∀ b u, h.get? b = some u → h'.get? b = some u) : HOk P w H h' := fun a o e =>
  (x a o e).stay (fun b u _ q => k b u q) (fun _ q => q) fun _ _ q => q
/-- a new object is laid and tracked -/
theorem HOk.laid (x : HOk P w H h) (k : ∀ b u, h.get? b = some u → h'.get? b = some u) (hp : h.objs.size ≤ a) (new : ObjOk P w (upd H a o) h' a o) : HOk P w (upd H a o) h' := fun b u e => by
  have hn := x.fresh hp
  by_cases hb : b = a
  · subst hb; rw [upd_same] at e; cases e; exact new
  · rw [upd_ne hb] at e
    exact (x b u e).stay (fun c v _ q => k c v q) (fun c q => by rw [upd_ne (ne_of_none q hn)]; exact q) fun c xs q => by rw [upd_ne (ne_of_none q hn)]; exact q
end

/-- what may be read as u: it is u, or a known u -/
def Rd (H : Hp) (a : Addr) (u : HO) : Prop := H a = some u ∨ ∃ o, H a = some (.frz o u)
theorem Rd.of {H : Hp} {a : Addr} {u : HO} (h : H a = some u) : Rd H a u := .inl h
theorem Rd.ok {P : Program} {w : World} {H : Hp} {h : Heap} {a : Addr} {u : HO} (r : Rd H a u) (x : HOk P w H h) : ObjOk P w H h a u := by
  rcases r with r | ⟨o, r⟩
  · exact x a u r
  · obtain ⟨_, q⟩ := x a _ r
    exact q
/-- what may be written -/
def Mut : Option HO → Prop
  | some (.lst _) => True
  | some (.dK _) => True
  | some (.dT _) => True
  | some (.set _ _) => True
  | some (.ins _ _ _) => True
  | some (.ext _) => True
  | _ => False
section
variable {P : Program} {w : World} {H : Hp} {h h' : Heap} {x e : Addr} {o' : HO}
/-- the object at e is changed: x itself, or the dict of the instance x -/
theorem HOk.write (ok : HOk P w H h) (mu : Mut (H x)) (he : e = x ∨ H e = some (.own x)) (k : ∀ b u, b ≠ e → h.get? b = some u → h'.get? b = some u) (heo : ∃ u, h'.get? e = some u)
    (new : ObjOk P w (upd H x o') h' x o') : HOk P w (upd H x o') h' := fun b u q => by
  have nown : ∀ c y, H c = some (.own y) → c ≠ x := fun c y r z => by subst z; rw [r] at mu; exact mu
  have ntup : ∀ c xs, H c = some (.tup xs) → c ≠ x := fun c xs r z => by subst z; rw [r] at mu; exact mu
  by_cases hb : b = x
  · subst hb; rw [upd_same] at q; cases q; exact new
  · rw [upd_ne hb] at q
    by_cases hbe : b = e
    · have q' : H b = some (.own x) := by
        rcases he with z | z
        · exact absurd (hbe.trans z) hb
        · rw [hbe]; exact z
      rw [q] at q'; cases q'
      obtain ⟨v, hv⟩ := heo
      exact ⟨v, by rw [hbe]; exact hv⟩
    · refine (ok b u q).stay (fun c v hc r => k c v ?_ r) (fun c r => by rw [upd_ne (nown c b r)]; exact r) fun c xs r => by rw [upd_ne (ntup c xs r)]; exact r
      rcases hc with rfl | hc
      · exact hbe
      · rintro rfl
        rcases he with z | z
        · exact nown c b hc z
        · rw [hc] at z; cases z; exact hb rfl
end

/-! ### kept unless tracked; of the frames at fs (the callers') the slots may change (an exception that passes writes there); of the records at ex (iterators) nothing is said -/
structure Un (fs ex : List Addr) (H H' : Hp) (h h' : Heap) : Prop where
  keep : ∀ b o, h.get? b = some o → H b = none → b ∉ fs → b ∉ ex → h'.get? b = some o
  slot : ∀ b o, h.get? b = some o → H b = none → b ∈ fs → b ∉ ex → ∃ sl, h'.get? b = some { o with slots := sl }
  free : ∀ b o, h.get? b = some o → H b = none → b ∉ ex → H' b = none
  there : ∀ b o, h.get? b = some o → b ∉ ex → ∃ o', h'.get? b = some o'
  tups : ∀ b xs, H b = some (.tup xs) → H' b = some (.tup xs)
  frzs : ∀ b o u, H b = some (.frz o u) → H' b = some (.frz o u)
  tbls : ∀ b ps, H b = some (.tbl ps) → ∃ more, H' b = some (.tbl (ps ++ more))
section
variable {fs fs' ex ex' : List Addr} {H H1 H2 : Hp} {h h1 h2 h' : Heap} {a x e : Addr} {o : HO}
theorem Un.any (u : Un fs ex H H1 h h1) {b : Addr} {ob : Obj} (q : h.get? b = some ob) (n : H b = none) (hx : b ∉ ex) : ∃ sl, h1.get? b = some { ob with slots := sl } := by
  by_cases hb : b ∈ fs
  · exact u.slot b ob q n hb hx
  · exact ⟨ob.slots, u.keep b ob q n hb hx⟩
theorem Un.trans (a : Un fs ex H H1 h h1) (b : Un fs ex H1 H2 h1 h2) : Un fs ex H H2 h h2 where
  keep := fun c ob q n hc hx => b.keep c ob (a.keep c ob q n hc hx) (a.free c ob q n hx) hc hx
  slot := fun c ob q n hc hx => by
    obtain ⟨sl, e1⟩ := a.slot c ob q n hc hx
    obtain ⟨sl', e2⟩ := b.slot c _ e1 (a.free c ob q n hx) hc hx
    exact ⟨sl', e2⟩
  free := fun c ob q n hx => by
    obtain ⟨o', e1⟩ := a.there c ob q hx
    exact b.free c o' e1 (a.free c ob q n hx) hx
  there := fun c ob q hx => by
    obtain ⟨o', e1⟩ := a.there c ob q hx
    exact b.there c o' e1 hx
  tups := fun c xs q => b.tups c xs (a.tups c xs q)
  frzs := fun c ob xs q => b.frzs c ob xs (a.frzs c ob xs q)
  tbls := fun c ps q => by
    obtain ⟨m1, e1⟩ := a.tbls c ps q
    obtain ⟨m2, e2⟩ := b.tbls c _ e1
    exact ⟨m1 ++ m2, by rw [e2, Array.append_assoc]⟩
theorem Un.kept (k : ∀ b u, h.get? b = some u → h'.get? b = some u) : Un fs ex H H h h' :=
  ⟨fun b ob q _ _ _ => k b ob q, fun b ob q _ _ _ => ⟨ob.slots, k b ob q⟩, fun _ _ _ n _ => n, fun b ob q _ => ⟨ob, k b ob q⟩, fun _ _ q => q, fun _ _ _ q => q, fun _ ps q => ⟨#[], by rw [q]; simp⟩⟩
theorem Un.refl : Un fs ex H H h h := Un.kept fun _ _ q => q
theorem Un.laid (k : ∀ b u, h.get? b = some u → h'.get? b = some u) (hp : h.objs.size ≤ a) (hn : H a = none) : Un fs ex H (upd H a o) h h' where
  keep := fun b u q _ _ _ => k b u q
  slot := fun b u q _ _ _ => ⟨u.slots, k b u q⟩
  free := fun b u q n _ => by rw [upd_ne (Nat.ne_of_lt (Nat.lt_of_lt_of_le (Heap.lt_size q) hp))]; exact n
  there := fun b u q _ => ⟨u, k b u q⟩
  tups := fun b xs q => by rw [upd_ne (ne_of_none q hn)]; exact q
  frzs := fun b u xs q => by rw [upd_ne (ne_of_none q hn)]; exact q
  tbls := fun b ps q => ⟨#[], by rw [upd_ne (ne_of_none q hn), q]; simp⟩
theorem Un.write (mu : Mut (H x)) (he : e = x ∨ H e = some (.own x)) (k : ∀ b u, b ≠ e → h.get? b = some u → h'.get? b = some u) (heo : ∃ u, h'.get? e = some u) : Un fs ex H (upd H x o) h h' := by
  have hx : ∀ b, H b = none → b ≠ x := fun b n z => by subst z; rw [n] at mu; exact mu
  have hb : ∀ b, H b = none → b ≠ e := fun b n z => by
    subst z
    rcases he with r | r
    · exact hx b n r
    · rw [n] at r; cases r
  have hm : ∀ b u, H b = some u → ¬ Mut (some u) → b ≠ x := fun b u q nm z => by subst z; rw [q] at mu; exact nm mu
  refine ⟨fun b u q n _ _ => k b u (hb b n) q, fun b u q n _ _ => ⟨u.slots, k b u (hb b n) q⟩, fun b u q n _ => by rw [upd_ne (hx b n)]; exact n, fun b u q _ => ?_,
    fun b xs q => by rw [upd_ne (hm b _ q fun z => z)]; exact q, fun b u xs q => by rw [upd_ne (hm b _ q fun z => z)]; exact q, fun b ps q => ⟨#[], by rw [upd_ne (hm b _ q fun z => z), q]; simp⟩⟩
  by_cases hbe : b = e
  · subst hbe; exact heo
  · exact ⟨u, k b u hbe q⟩
theorem Un.mono (u : Un fs ex H H1 h h1) (hs : ∀ b ∈ fs, b ∈ fs') (hx : ∀ b ∈ ex, b ∈ ex') : Un fs' ex' H H1 h h1 :=
  ⟨fun b ob q n hb he => u.keep b ob q n (fun z => hb (hs b z)) fun z => he (hx b z), fun _ _ q n _ he => u.any q n fun z => he (hx _ z), fun b ob q n he => u.free b ob q n fun z => he (hx b z), fun b ob q he => u.there b ob q fun z => he (hx b z), u.tups, u.frzs, u.tbls⟩
end

/-! ### the heap without what is tracked -/
def trk (h : Heap) (H : Hp) : List Addr := (List.range h.objs.size).filter fun a => (H a).isSome
def hidT (h : Heap) (H : Hp) : Heap := PySem.W.hideAll h (trk h H)
theorem hidT_size (h : Heap) (H : Hp) : (hidT h H).objs.size = h.objs.size := PySem.W.hideAll_size _ _
theorem hidT_get {h : Heap} {H : Hp} {b : Addr} {o : Obj} (e : h.get? b = some o) (n : H b = none) : (hidT h H).get? b = some o :=
  PySem.W.hideAll_get _ e fun hm => by
    have q : (H b).isSome = true := (List.mem_filter.mp hm).2
    rw [n] at q; simp at q
theorem of_hidT {h : Heap} {H : Hp} {b : Addr} {o : Obj} (e : (hidT h H).get? b = some o) : h.get? b = some o ∧ H b = none := by
  have e' : h.get? b = some o := PySem.W.of_hideAll (trk h H) e
  refine ⟨e', ?_⟩
  cases q : H b with
  | none => rfl
  | some x =>
    have hm : b ∈ trk h H := List.mem_filter.mpr ⟨List.mem_range.mpr (Heap.lt_size e'), by simp [q]⟩
    have z : (hidT h H).get? b = none := PySem.W.hideAll_none (trk h H) hm
    rw [z] at e; cases e

/-! ### OpenK's ledger, filled with every new object but one -/
def allNews (g h : Heap) (L : Addr) : List (Addr × Obj) := (List.range h.objs.size).filterMap fun a => if a = L ∨ (g.get? a).isSome = true then none else (h.get? a).map fun o => (a, o)
def rest (g h : Heap) (L d : Addr) : List (Addr × Obj) := (allNews g h L).filter fun p => decide (p.1 ≠ d)
end L2

namespace L2
open PySem PySem.Spec PyProof.Rows

/-- the module's facts, over the base: the heap at the law's entry without what is tracked there -/
structure Mod (K : PySem.W.Frag) (mg : Str → Option Value) (base : Heap) : Prop where
  kin : K.In base
  glob : base.Ns mainGlobals mg
  blt : ∃ mb, base.Ns builtinsNs mb ∧ ∀ x : Str, x ≠ "__name__" → mb x = bootBuiltins x
  nolimit : base.NoLimit

/-- the context: a def's body (or a comprehension's block) running. base: fixed through the whole law; s₀, H₀: the entry; outer: the frames whose slots others may change (a def's callers); stack: all frames that run;
   ex: iterators that were made ahead of the entry and are walked here (a comprehension's); fn: the names whose cells were made at the entry (a def: all; a comprehension's block: its own); calm: not within an except suite; pn: pins that every state bears; xe: what is wanted of an exception that leaves the code -/
structure Cx where
  prog : Program
  w : World
  K : PySem.W.Frag
  mg : Str → Option Value
  base : Heap
  A : Around
  N : List Str
  s₀ : Shared
  H₀ : Hp
  env : Env
  outer : List Env
  stack : List Env
  ex : List Addr
  fn : Str → Bool
  calm : Bool
  pn : List (Addr × Obj)
  xe : Value → Shared → Prop
/-- the callers' frames -/
def frs (l : List Env) : List Addr := l.filterMap (·.frame)
abbrev Cx.fs (X : Cx) : List Addr := frs X.outer

def Vis (sc : Scope) (x : Str) : Prop := sc.names.lookup x = some .local ∨ sc.names.lookup x = some .cell ∨ sc.names.lookup x = some .free
def Loc (sc : Scope) (x : Str) : Prop := sc.names.lookup x = some .local ∨ sc.names.lookup x = some .cell
def Look (env : Env) (h : Heap) (m : Str → Option Value) (x : Str) (u : Value) : Prop :=
  (env.kindOf x = some .local ∧ m x = some u) ∨ ((env.kindOf x = some .cell ∨ env.kindOf x = some .free) ∧ ∃ c, env.cells.lookup x = some c ∧ h.IsCell c (some u))

structure Cx.Ok (X : Cx) : Prop where
  mod : Mod X.K X.mg X.base
  kind : X.env.scope.kind = .function
  glob : X.env.globals = mainGlobals
  blt : X.env.builtins = builtinsNs
  above : X.s₀.heap.objs.size ≤ X.env.locals
  inj : ∀ x y c, X.env.cells.lookup x = some c → X.env.cells.lookup y = some c → x = y
  has : ∀ x, (X.env.kindOf x = some .cell ∨ X.env.kindOf x = some .free) → ∃ c, X.env.cells.lookup x = some c
  cab : ∀ x c, X.fn x = true → X.env.cells.lookup x = some c → X.s₀.heap.objs.size ≤ c
  hd : X.calm = true → X.A.handled = none
  frames : X.A.frames = some X.stack
  stk : X.stack = X.outer ∨ (X.stack = X.env :: X.outer ∧ X.env.frame = some X.env.locals)
  exf : ∀ b ∈ X.ex, b ≠ X.env.locals ∧ ∀ x c, X.env.cells.lookup x = some c → c ≠ b
  bs : ∀ b o, X.base.get? b = some o → X.s₀.heap.get? b = some o ∧ X.H₀ b = none
  bsz : X.base.objs.size ≤ X.s₀.heap.objs.size
  noex : ∀ b o, X.base.get? b = some o → b ∉ X.ex
  exfs : ∀ b ∈ X.ex, b ∉ X.fs
  funs : X.s₀.heap.FunFrames X.base X.outer
  frf : ∀ b ∈ X.fs, X.H₀ b = none

structure Inv (X : Cx) (pins : List (Addr × Obj)) (σ : List (Option V)) (H : Hp) (s : Shared) : Prop where
  ok : X.Ok
  os : s.os = X.s₀.os
  bare : AllBare s.gens
  base : Un X.fs X.ex X.H₀ H X.s₀.heap s.heap
  loc : ∃ m, s.heap.Ns X.env.locals m ∧ ∀ (i : Nat) (x : Str) (v : V), X.N[i]? = some x → σ[i]? = some (some v) → Vis X.env.scope x → ∃ u, RelV v u ∧ Look X.env s.heap m x u
  cell : ∀ x c, X.env.cells.lookup x = some c → ∃ v, s.heap.IsCell c v
  free : H X.env.locals = none
  freeC : ∀ x c, X.env.cells.lookup x = some c → H c = none
  pin : ∀ p ∈ X.pn ++ pins, s.heap.get? p.1 = some p.2 ∧ H p.1 = none ∧ p.1 ≠ X.env.locals ∧ p.1 ∉ X.fs ∧ ∀ v, p.2.data ≠ .cell v
  hok : HOk X.prog X.w H s.heap
  len : σ.length = X.N.length

section
variable {X : Cx} {pins : List (Addr × Obj)} {σ : List (Option V)} {H H' : Hp} {s : Shared} {h' : Heap}

theorem Cx.Ok.nofr (ok : X.Ok) {b : Addr} {o : Obj} (e : X.base.get? b = some o) : b ∉ X.fs := fun hb => by
  have := (ok.funs.mem hb).1
  rw [e] at this; cases this
theorem Inv.bs (I : Inv X pins σ H s) : ∀ b o, X.base.get? b = some o → s.heap.get? b = some o ∧ H b = none := fun b o e =>
  ⟨I.base.keep b o (I.ok.bs b o e).1 (I.ok.bs b o e).2 (I.ok.nofr e) (I.ok.noex b o e), I.base.free b o (I.ok.bs b o e).1 (I.ok.bs b o e).2 (I.ok.noex b o e)⟩
theorem Inv.bk (I : Inv X pins σ H s) : ∀ b o, X.base.get? b = some o → s.heap.get? b = some o := fun b o e => (I.bs b o e).1
theorem Inv.mod (I : Inv X pins σ H s) : Mod X.K X.mg X.base := I.ok.mod
theorem Inv.kIn (I : Inv X pins σ H s) : X.K.In s.heap := I.ok.mod.kin.keeps I.bk
theorem Inv.nolimit (I : Inv X pins σ H s) : s.heap.NoLimit := I.ok.mod.nolimit.keeps I.bk
/-- the frame over the base: for OpenK's rules (K.In X.base is I.mod.kin) -/
theorem Inv.fr (I : Inv X pins σ H s) : ∃ m, Fr X.base X.env.locals s.heap m :=
  let ⟨m, hn, _⟩ := I.loc
  ⟨m, hn, I.bk, Nat.le_trans I.ok.bsz I.ok.above⟩
theorem Inv.lt (I : Inv X pins σ H s) : X.env.locals < s.heap.objs.size := let ⟨_, hn, _⟩ := I.loc; hn.lt
theorem Inv.sz (I : Inv X pins σ H s) : X.s₀.heap.objs.size ≤ s.heap.objs.size := Nat.le_trans I.ok.above (Nat.le_of_lt I.lt)
theorem Inv.nofs (I : Inv X pins σ H s) {a : Addr} (h : s.heap.objs.size ≤ a) : a ∉ X.fs := fun hb => by
  obtain ⟨_, o, ho, _⟩ := I.ok.funs.mem hb
  exact absurd (Nat.lt_of_lt_of_le (Heap.lt_size ho) (Nat.le_trans I.sz h)) (Nat.lt_irrefl _)
theorem Inv.cne (I : Inv X pins σ H s) : ∀ x c, X.env.cells.lookup x = some c → c ≠ X.env.locals := fun x c e z => by
  obtain ⟨v, o, ho, hd⟩ := I.cell x c e
  obtain ⟨m, ⟨o', es, ep, ho', hd', _⟩, _⟩ := I.loc
  rw [z, ho'] at ho; cases ho; rw [hd'] at hd; cases hd
theorem Inv.funs (I : Inv X pins σ H s) : s.heap.FunFrames X.base X.outer := by
  have all : ∀ (l : List Env), (∀ b ∈ frs l, b ∈ X.fs) → X.s₀.heap.FunFrames X.base l → s.heap.FunFrames X.base l := by
    intro l
    induction l with
    | nil => intro _ _; trivial
    | cons env r ih =>
      intro hs hl
      obtain ⟨hk, ⟨L, o, hf, hn, ho, hd⟩, hr⟩ := hl
      have hL : L ∈ X.fs := hs L (by unfold frs; rw [List.filterMap_cons, hf]; exact List.mem_cons_self)
      obtain ⟨sl, e⟩ := I.base.slot L o ho (I.ok.frf L hL) hL fun z => I.ok.exfs L z hL
      exact ⟨hk, ⟨L, _, hf, hn, e, hd⟩, ih (fun b hb => hs b (by unfold frs; rw [List.filterMap_cons, hf]; exact List.mem_cons_of_mem _ hb)) hr⟩
  exact all X.outer (fun _ hb => hb) I.ok.funs

/-- the frames that run, for a call -/
theorem Inv.stack (I : Inv X pins σ H s) : s.heap.FunFrames X.base X.stack := by
  rcases I.ok.stk with e | ⟨e, hf⟩
  · rw [e]; exact I.funs
  · rw [e]
    obtain ⟨m, hn, _⟩ := I.loc
    refine .cons (by rw [I.ok.kind]; decide) hf hn ?_ I.funs
    exact Heap.get?_none_of_le (Nat.le_trans I.ok.bsz I.ok.above)
theorem Inv.stkSub (I : Inv X pins σ H s) : ∀ b ∈ frs X.stack, b ∈ X.env.locals :: X.fs := fun b hb => by
  rcases I.ok.stk with e | ⟨e, hf⟩
  · rw [e] at hb; exact List.mem_cons_of_mem _ hb
  · rw [e] at hb
    unfold frs at hb
    rw [List.filterMap_cons, hf] at hb
    exact hb
theorem Inv.stkFree (I : Inv X pins σ H s) : ∀ b ∈ frs X.stack, H b = none := fun b hb => by
  rcases List.mem_cons.mp (I.stkSub b hb) with e | hb
  · rw [e]; exact I.free
  · obtain ⟨_, o, ho, _⟩ := I.ok.funs.mem hb
    exact I.base.free b o ho (I.ok.frf b hb) fun z => I.ok.exfs b z hb

/-- THE STEP: the untracked objects but the frame and the records at ch are kept (the callers' frames up to slots), the frame's map is kept, the new abstract heap is held -/
theorem Inv.step {g' : Array GenState} {t' : Nat} {d' : Drawn} {ch : List Addr} (I : Inv X pins σ H s)
    (hch : ∀ b ∈ ch, (b ∈ X.ex ∨ X.s₀.heap.objs.size ≤ b) ∧ b ≠ X.env.locals ∧ (∀ x c, X.env.cells.lookup x = some c → c ≠ b) ∧ ∀ p ∈ X.pn ++ pins, p.1 ≠ b)
    (keep : ∀ b o, b ≠ X.env.locals → b ∉ X.fs → b ∉ ch → s.heap.get? b = some o → H b = none → h'.get? b = some o)
    (slot : ∀ b o, b ≠ X.env.locals → b ∈ X.fs → b ∉ ch → s.heap.get? b = some o → H b = none → ∃ sl, h'.get? b = some { o with slots := sl }) (free : ∀ b o, b ∉ ch → s.heap.get? b = some o → H b = none → H' b = none)
    (there : ∀ b o, b ∉ ch → s.heap.get? b = some o → ∃ o', h'.get? b = some o')
    (tups : ∀ b xs, H b = some (.tup xs) → H' b = some (.tup xs)) (frzs : ∀ b o u, H b = some (.frz o u) → H' b = some (.frz o u)) (tbls : ∀ b ps, H b = some (.tbl ps) → ∃ more, H' b = some (.tbl (ps ++ more)))
    (ns : ∀ m, s.heap.Ns X.env.locals m → h'.Ns X.env.locals m) (hok : HOk X.prog X.w H' h') (hg : AllBare g') :
    Inv X pins σ H' { s with heap := h', gens := g', drawn := d', toks := t' } := by
  have neL : ∀ b o, X.s₀.heap.get? b = some o → b ≠ X.env.locals := fun b o e => Nat.ne_of_lt (Nat.lt_of_lt_of_le (Heap.lt_size e) I.ok.above)
  have neC : ∀ b o, X.s₀.heap.get? b = some o → b ∉ X.ex → b ∉ ch := fun b o e hx hb => by
    rcases (hch b hb).1 with z | z
    · exact hx z
    · exact absurd (Nat.lt_of_lt_of_le (Heap.lt_size e) z) (Nat.lt_irrefl _)
  have cellK : ∀ x c, X.env.cells.lookup x = some c → ∀ v, s.heap.IsCell c v → h'.IsCell c v := fun x c e v ⟨o, ho, hd⟩ => by
    have nch : c ∉ ch := fun z => (hch c z).2.2.1 x c e rfl
    by_cases hc : c ∈ X.fs
    · obtain ⟨sl, q⟩ := slot c o (I.cne x c e) hc nch ho (I.freeC x c e)
      exact ⟨_, q, hd⟩
    · exact ⟨o, keep c o (I.cne x c e) hc nch ho (I.freeC x c e), hd⟩
  refine ⟨I.ok, I.os, hg, ⟨fun b o e n hb hx => ?_, fun b o e n hb hx => ?_, fun b o e n hx => ?_, fun b o e hx => ?_, fun b xs e => tups b xs (I.base.tups b xs e), fun b o xs e => frzs b o xs (I.base.frzs b o xs e), fun b ps e => ?_⟩, ?_, fun x c e => ?_, ?_, fun x c e => ?_, fun p hp => ?_, hok, I.len⟩
  · exact keep b o (neL b o e) hb (neC b o e hx) (I.base.keep b o e n hb hx) (I.base.free b o e n hx)
  · obtain ⟨sl, e1⟩ := I.base.slot b o e n hb hx
    obtain ⟨sl', e2⟩ := slot b _ (neL b o e) hb (neC b o e hx) e1 (I.base.free b o e n hx)
    exact ⟨sl', e2⟩
  · obtain ⟨o', e1⟩ := I.base.there b o e hx
    exact free b o' (neC b o e hx) e1 (I.base.free b o e n hx)
  · obtain ⟨o', e1⟩ := I.base.there b o e hx
    exact there b o' (neC b o e hx) e1
  · obtain ⟨m1, e1⟩ := I.base.tbls b ps e
    obtain ⟨m2, e2⟩ := tbls b _ e1
    exact ⟨m1 ++ m2, by rw [e2, Array.append_assoc]⟩
  · obtain ⟨m, hn, hl⟩ := I.loc
    refine ⟨m, ns m hn, fun i x v e1 e2 e3 => ?_⟩
    obtain ⟨u, r, l⟩ := hl i x v e1 e2 e3
    refine ⟨u, r, ?_⟩
    rcases l with l | ⟨k, c, e, z⟩
    · exact .inl l
    · exact .inr ⟨k, c, e, cellK x c e _ z⟩
  · obtain ⟨v, z⟩ := I.cell x c e
    exact ⟨v, cellK x c e v z⟩
  · obtain ⟨m, ⟨o, _, _, ho, _⟩, _⟩ := I.loc
    exact free _ o (fun z => (hch _ z).2.1 rfl) ho I.free
  · obtain ⟨v, o, ho, hd⟩ := I.cell x c e
    exact free c o (fun z => (hch c z).2.2.1 x c e rfl) ho (I.freeC x c e)
  · obtain ⟨e, n, ne, nf, d⟩ := I.pin p hp
    have nch : p.1 ∉ ch := fun z => (hch p.1 z).2.2.2 p hp rfl
    exact ⟨keep p.1 p.2 ne nf nch e n, free p.1 p.2 nch e n, ne, nf, d⟩
/-- .. where the frame's own object is kept too -/
theorem Inv.un {t' : Nat} (I : Inv X pins σ H s) (u : Un X.fs [] H H' s.heap h') (hok : HOk X.prog X.w H' h') : Inv X pins σ H' { s with heap := h', toks := t' } := by
  obtain ⟨m, ⟨o, es, ep, ho, r⟩, _⟩ := id I.loc
  obtain ⟨sl, hL⟩ := u.any ho I.free (by simp)
  exact I.step (g' := s.gens) (d' := s.drawn) (ch := []) (fun _ z => nomatch z) (fun b o _ hb _ e n => u.keep b o e n hb (by simp)) (fun b o _ hb _ e n => u.slot b o e n hb (by simp)) (fun b o _ e n => u.free b o e n (by simp)) (fun b o _ e => u.there b o e (by simp)) u.tups u.frzs u.tbls (fun m' hm => by
    obtain ⟨o', es', ep', ho', r'⟩ := hm
    rw [ho] at ho'; cases ho'
    exact ⟨_, es', ep', hL, r'⟩) hok I.bare
/-- behind a call (or a comprehension's block): the slots of this frame may have changed too, the records at ch may have turned -/
theorem Inv.call {g' : Array GenState} {t' : Nat} {d' : Drawn} {ch : List Addr} (I : Inv X pins σ H s) (u : Un (frs X.stack) ch H H' s.heap h') (hok : HOk X.prog X.w H' h') (hg : AllBare g')
    (hch : ∀ b ∈ ch, (b ∈ X.ex ∨ X.s₀.heap.objs.size ≤ b) ∧ b ≠ X.env.locals ∧ (∀ x c, X.env.cells.lookup x = some c → c ≠ b) ∧ ∀ p ∈ X.pn ++ pins, p.1 ≠ b) :
    Inv X pins σ H' { s with heap := h', gens := g', drawn := d', toks := t' } := by
  obtain ⟨m, ⟨o, es, ep, ho, r⟩, _⟩ := id I.loc
  obtain ⟨sl, hL⟩ := u.any ho I.free fun z => (hch _ z).2.1 rfl
  exact I.step (ch := ch) hch (fun b o hL hb hc e n => u.keep b o e n (fun z => (List.mem_cons.mp (I.stkSub b z)).elim hL hb) hc) (fun b o _ _ hc e n => u.any e n hc) (fun b o hc e n => u.free b o e n hc) (fun b o hc e => u.there b o e hc) u.tups u.frzs u.tbls (fun m' hm => by
    obtain ⟨o', es', ep', ho', r'⟩ := hm
    rw [ho] at ho'; cases ho'
    exact ⟨_, es', ep', hL, r'⟩) hok hg
/-- an untracked record of ours (an iterator) has turned -/
theorem Inv.turned {t' : Nat} {it : Addr} (I : Inv X pins σ H s) (k : ∀ b o, b ≠ it → s.heap.get? b = some o → h'.get? b = some o) (hn : H it = none) (hL : it ≠ X.env.locals)
    (h1 : it ∈ X.ex ∨ X.s₀.heap.objs.size ≤ it) (h2 : ∀ x c, X.env.cells.lookup x = some c → c ≠ it) (h3 : ∀ p ∈ X.pn ++ pins, p.1 ≠ it) : Inv X pins σ H { s with heap := h', toks := t' } := by
  have nit : ∀ b u, H b = some u → b ≠ it := fun b u e z => by rw [z, hn] at e; cases e
  refine I.step (g' := s.gens) (d' := s.drawn) (ch := [it]) (fun b hb => ?_) (fun b o _ _ hc e _ => k b o (fun z => hc (by simp [z])) e) (fun b o _ _ hc e _ => ⟨o.slots, k b o (fun z => hc (by simp [z])) e⟩) (fun _ _ _ _ n => n)
    (fun b o hc e => ⟨o, k b o (fun z => hc (by simp [z])) e⟩) (fun _ _ e => e) (fun _ _ _ e => e) (fun b ps e => ⟨#[], by rw [e]; simp⟩) (fun m hm => ?_) (fun b u e => ?_) I.bare
  · have e : b = it := by simpa using hb
    subst e
    exact ⟨h1, hL, h2, h3⟩
  · obtain ⟨o, es, ep, ho, r⟩ := hm
    exact ⟨o, es, ep, k _ o (Ne.symm hL) ho, r⟩
  · refine (I.hok b u e).stay (fun c v hc q => k c v ?_ q) (fun _ q => q) fun _ _ q => q
    rcases hc with z | z
    · rw [z]; exact nit b u e
    · exact nit c _ z
theorem Inv.tok (I : Inv X pins σ H s) (t : Nat) : Inv X pins σ H { s with toks := t } := I.un (h' := s.heap) (t' := t) Un.refl I.hok
/-- all objects kept -/
theorem Inv.kept {t' : Nat} (I : Inv X pins σ H s) (k : ∀ b u, s.heap.get? b = some u → h'.get? b = some u) : Inv X pins σ H { s with heap := h', toks := t' } := I.un (Un.kept k) (I.hok.kept k)
/-- a new object laid and tracked -/
theorem Inv.laid {a : Addr} {o : HO} {t' : Nat} (I : Inv X pins σ H s) (k : ∀ b u, s.heap.get? b = some u → h'.get? b = some u) (hp : s.heap.objs.size ≤ a) (new : ObjOk X.prog X.w (upd H a o) h' a o) :
    Inv X pins σ (upd H a o) { s with heap := h', toks := t' } := I.un (Un.laid k hp (I.hok.fresh hp)) (I.hok.laid k hp new)
/-- an object written -/
theorem Inv.write {x e : Addr} {o : HO} {t' : Nat} (I : Inv X pins σ H s) (mu : Mut (H x)) (he : e = x ∨ H e = some (.own x)) (k : ∀ b u, b ≠ e → s.heap.get? b = some u → h'.get? b = some u) (heo : ∃ u, h'.get? e = some u)
    (new : ObjOk X.prog X.w (upd H x o) h' x o) : Inv X pins σ (upd H x o) { s with heap := h', toks := t' } := I.un (Un.write mu he k heo) (I.hok.write mu he k heo new)
theorem Inv.pins_of {pins' : List (Addr × Obj)} (I : Inv X pins σ H s) (h : ∀ p ∈ pins', s.heap.get? p.1 = some p.2 ∧ H p.1 = none ∧ p.1 ≠ X.env.locals ∧ p.1 ∉ X.fs ∧ ∀ v, p.2.data ≠ .cell v) : Inv X pins' σ H s :=
  ⟨I.ok, I.os, I.bare, I.base, I.loc, I.cell, I.free, I.freeC, fun p hp => (List.mem_append.mp hp).elim (fun z => I.pin p (List.mem_append_left _ z)) (h p), I.hok, I.len⟩

theorem nodup_ix {N : List Str} (hN : N.Nodup) {i j : Nat} {x : Str} (a : N[i]? = some x) (b : N[j]? = some x) : i = j := by
  obtain ⟨h1, e1⟩ := List.getElem?_eq_some_iff.mp a
  obtain ⟨h2, e2⟩ := List.getElem?_eq_some_iff.mp b
  exact (List.getElem_inj hN).mp (e1.trans e2.symm)

/-- a name is stored; what changed -/
theorem store_ok2 {M : Model} {A : Around} {E : Value → Shared → Prop} {i : Nat} {x : Str} {v : V} {u : Value} {Q : Unit → Shared → Prop} (I : Inv X pins σ H s) (hN : X.N.Nodup) (hi : X.N[i]? = some x) (hx : Loc X.env.scope x) (r : RelV v u)
    (h : ∀ s', Inv X pins (σ.set i (some v)) H s' → (∃ a, Heap.SameBut a s.heap s'.heap ∧ (a = X.env.locals ∨ X.env.cells.lookup x = some a)) → Q () s') (hf : X.fn x = true ∨ X.env.scope.names.lookup x = some .local := by first | exact .inl rfl | exact .inr rfl | assumption) : wpAny M A (storeName X.env x u) Q E s := by
  obtain ⟨m, hn, hl⟩ := id I.loc
  have hcls : (X.env.scope.kind == .class || (X.env.scope.kind == .module && X.env.locals != X.env.globals)) = false := by rw [I.ok.kind]; rfl
  have hiσ : i < σ.length := by rw [I.len]; exact (List.getElem?_eq_some_iff.mp hi).1
  have cne := I.cne
  have tracked : ∀ {a : Addr} {h' : Heap}, (∃ o, s.heap.get? a = some o ∧ H a = none) → Heap.SameBut a s.heap h' → HOk X.prog X.w H h' := fun {a h'} ha hs b ob e => by
    obtain ⟨_, _, hfree⟩ := ha
    refine (I.hok b ob e).stay (fun c w' hc q => (hs.2 c ?_).trans q) (fun _ q => q) fun _ _ q => q
    rintro rfl
    rcases hc with rfl | hc
    · rw [hfree] at e; cases e
    · rw [hfree] at hc; cases hc
  rcases hx with hk | hk
  · refine wpAny_storeName_local hk hn (fun h' hn' hs => ?_) hcls
    obtain ⟨oL, _, _, hoL, _⟩ := id hn
    refine h _ ⟨I.ok, I.os, I.bare, ⟨fun b o e n hb hx => ?_, fun b o e n hb hx => ?_, I.base.free, fun b o e hx => ?_, I.base.tups, I.base.frzs, I.base.tbls⟩, ⟨_, hn', fun j y v' e1 e2 e3 => ?_⟩, fun y c e => ?_, I.free, I.freeC, fun p hp => ?_, tracked ⟨oL, hoL, I.free⟩ hs, by simpa using I.len⟩ ⟨_, hs, .inl rfl⟩
    · exact (hs.2 b (Nat.ne_of_lt (Nat.lt_of_lt_of_le (Heap.lt_size e) I.ok.above))).trans (I.base.keep b o e n hb hx)
    · obtain ⟨sl, e1⟩ := I.base.slot b o e n hb hx
      exact ⟨sl, (hs.2 b (Nat.ne_of_lt (Nat.lt_of_lt_of_le (Heap.lt_size e) I.ok.above))).trans e1⟩
    · obtain ⟨o', e1⟩ := I.base.there b o e hx
      exact ⟨o', (hs.2 b (Nat.ne_of_lt (Nat.lt_of_lt_of_le (Heap.lt_size e) I.ok.above))).trans e1⟩
    · by_cases hj : j = i
      · subst hj
        rw [hi] at e1; cases e1
        rw [List.getElem?_set_self hiσ] at e2
        cases e2
        exact ⟨u, r, .inl ⟨hk, by simp⟩⟩
      · rw [List.getElem?_set_ne (Ne.symm hj)] at e2
        obtain ⟨u', r', q⟩ := hl j y v' e1 e2 e3
        refine ⟨u', r', ?_⟩
        rcases q with ⟨k, e⟩ | ⟨k, c, e, z⟩
        · refine .inl ⟨k, ?_⟩
          have : y ≠ x := fun e => hj (nodup_ix hN e1 (e ▸ hi))
          simp [this, e]
        · exact .inr ⟨k, c, e, z.sameBut hs (cne y c e)⟩
    · obtain ⟨w', z⟩ := I.cell y c e
      exact ⟨w', z.sameBut hs (cne y c e)⟩
    · obtain ⟨e, n, ne, nf, d⟩ := I.pin p hp
      exact ⟨(hs.2 p.1 ne).trans e, n, ne, nf, d⟩
  · have hfn : X.fn x = true := by
      rcases hf with z | z
      · exact z
      · rw [z] at hk; cases hk
    obtain ⟨c, hc⟩ := I.ok.has x (.inl hk)
    obtain ⟨w', z⟩ := I.cell x c hc
    refine wpAny_storeName_cell I.ok.kind hk hc z (fun h' hc' hs => ?_)
    obtain ⟨oc, hoc, hocd⟩ := id z
    refine h { s with heap := h' } ⟨I.ok, I.os, I.bare, ⟨fun b o e n hb hx => ?_, fun b o e n hb hx => ?_, I.base.free, fun b o e hx => ?_, I.base.tups, I.base.frzs, I.base.tbls⟩, ⟨m, hn.sameBut hs (Ne.symm (cne x c hc)), fun j y v' e1 e2 e3 => ?_⟩, fun y c' e => ?_, I.free, I.freeC, fun p hp => ?_, tracked ⟨oc, hoc, I.freeC x c hc⟩ hs, by simpa using I.len⟩ ⟨c, hs, .inr hc⟩
    · exact (hs.2 b (Nat.ne_of_lt (Nat.lt_of_lt_of_le (Heap.lt_size e) (I.ok.cab x c hfn hc)))).trans (I.base.keep b o e n hb hx)
    · obtain ⟨sl, e1⟩ := I.base.slot b o e n hb hx
      exact ⟨sl, (hs.2 b (Nat.ne_of_lt (Nat.lt_of_lt_of_le (Heap.lt_size e) (I.ok.cab x c hfn hc)))).trans e1⟩
    · obtain ⟨o', e1⟩ := I.base.there b o e hx
      exact ⟨o', (hs.2 b (Nat.ne_of_lt (Nat.lt_of_lt_of_le (Heap.lt_size e) (I.ok.cab x c hfn hc)))).trans e1⟩
    · by_cases hj : j = i
      · subst hj
        rw [hi] at e1; cases e1
        rw [List.getElem?_set_self hiσ] at e2
        cases e2
        exact ⟨u, r, .inr ⟨.inl hk, c, hc, hc'⟩⟩
      · rw [List.getElem?_set_ne (Ne.symm hj)] at e2
        obtain ⟨u', r', q⟩ := hl j y v' e1 e2 e3
        refine ⟨u', r', ?_⟩
        rcases q with q | ⟨k, c', e, z'⟩
        · exact .inl q
        · refine .inr ⟨k, c', e, z'.sameBut hs ?_⟩
          rintro rfl
          exact hj (nodup_ix hN e1 (I.ok.inj _ _ _ e hc ▸ hi))
    · by_cases hcc : c' = c
      · subst hcc; exact ⟨_, hc'⟩
      · obtain ⟨w2, z2⟩ := I.cell y c' e
        exact ⟨w2, z2.sameBut hs hcc⟩
    · obtain ⟨e, n, ne, nf, d⟩ := I.pin p hp
      refine ⟨(hs.2 p.1 ?_).trans e, n, ne, nf, d⟩
      intro q
      rw [q, hoc] at e
      have q' : oc = p.2 := Option.some.inj e
      exact d w' (by rw [← q']; exact hocd)
theorem store_ok {M : Model} {A : Around} {E : Value → Shared → Prop} {i : Nat} {x : Str} {v : V} {u : Value} {Q : Unit → Shared → Prop} (I : Inv X pins σ H s) (hN : X.N.Nodup) (hi : X.N[i]? = some x) (hx : Loc X.env.scope x) (r : RelV v u)
    (h : ∀ s', Inv X pins (σ.set i (some v)) H s' → Q () s') (hf : X.fn x = true ∨ X.env.scope.names.lookup x = some .local := by first | exact .inl rfl | exact .inr rfl | assumption) : wpAny M A (storeName X.env x u) Q E s :=
  store_ok2 I hN hi hx r (fun s' I' _ => h s' I') hf
/-- behind a call or a block, the state as it is -/
theorem Inv.call' {s' : Shared} {ch : List Addr} (I : Inv X pins σ H s) (ho : s'.os = s.os) (u : Un (frs X.stack) ch H H' s.heap s'.heap) (hok : HOk X.prog X.w H' s'.heap) (hg : AllBare s'.gens)
    (hch : ∀ b ∈ ch, (b ∈ X.ex ∨ X.s₀.heap.objs.size ≤ b) ∧ b ≠ X.env.locals ∧ (∀ x c, X.env.cells.lookup x = some c → c ≠ b) ∧ ∀ p ∈ X.pn ++ pins, p.1 ≠ b) : Inv X pins σ H' s' := by
  obtain ⟨h', g', d', t', o'⟩ := s'
  have e : o' = s.os := ho
  subst e
  exact I.call (g' := g') (t' := t') (d' := d') u hok hg hch
end

/-! ### the judgements -/
/-- an exception: its class, its own dict's address (where it has one), the abstract heap behind it -/
abbrev XK := Value → Option Addr → Hp → Prop
abbrev St := List (Option V)
abbrev VK := V → Hp → Prop
/-- an expression's reading; a test's; an argument list's -/
abbrev TE := St → Hp → VK → Prop
abbrev TT := St → Hp → (Bool → Hp → Prop) → Prop
abbrev TA := St → Hp → (List V → Hp → Prop) → Prop
/-- what is wanted behind a statement -/
structure Ends where
  nx : St → Hp → Prop
  rt : VK
  bk : St → Hp → Prop := fun _ _ => False
  ct : St → Hp → Prop := fun _ _ => False
abbrev TS := Ends → St → Hp → Prop

def EP (X : Cx) (pins : List (Addr × Obj)) (σ : St) (Q : VK) (u : Value) (s' : Shared) : Prop := ∃ v H', Inv X pins σ H' s' ∧ RelV v u ∧ Q v H'
def TP (X : Cx) (pins : List (Addr × Obj)) (σ : St) (Q : Bool → Hp → Prop) (b : Bool) (s' : Shared) : Prop := ∃ H', Inv X pins σ H' s' ∧ Q b H'
def AP (X : Cx) (pins : List (Addr × Obj)) (σ : St) (Q : List V → Hp → Prop) (us : List Value) (s' : Shared) : Prop := ∃ vs H', Inv X pins σ H' s' ∧ Vals vs us ∧ Q vs H'
def SP (X : Cx) (pins : List (Addr × Obj)) (D : Ends) (f : Flow) (s' : Shared) : Prop :=
  match f with
  | .next => ∃ σ' H', Inv X pins σ' H' s' ∧ D.nx σ' H'
  | .brk => ∃ σ' H', Inv X pins σ' H' s' ∧ D.bk σ' H'
  | .cont => ∃ σ' H', Inv X pins σ' H' s' ∧ D.ct σ' H'
  | .ret u => ∃ v σ' H', Inv X pins σ' H' s' ∧ RelV v u ∧ D.rt v H'

def PE (X : Cx) (e : Expr) (t : TE) : Prop :=
  ∀ (pins : List (Addr × Obj)) (s : Shared) (σ : St) (H : Hp) (Q : VK), Inv X pins σ H s → t σ H Q → wpAny (model X.prog X.w) X.A (eval e X.env) (EP X pins σ Q) X.xe s
def PT (X : Cx) (e : Expr) (t : TT) : Prop :=
  ∀ (pins : List (Addr × Obj)) (s : Shared) (σ : St) (H : Hp) (Q : Bool → Hp → Prop), Inv X pins σ H s → t σ H Q → wpAny (model X.prog X.w) X.A (isTrue e X.env (eval e X.env)) (TP X pins σ Q) X.xe s
/-- a test whatever its 'whole' is (and, or) -/
def PW (X : Cx) (e : Expr) (t : TT) : Prop :=
  ∀ (whole : Sem Value) (pins : List (Addr × Obj)) (s : Shared) (σ : St) (H : Hp) (Q : Bool → Hp → Prop), Inv X pins σ H s → t σ H Q → wpAny (model X.prog X.w) X.A (isTrue e X.env whole) (TP X pins σ Q) X.xe s
theorem PW.pt {X : Cx} {e : Expr} {t : TT} (h : PW X e t) : PT X e t := h _
/-- an argument list (no star), from the left -/
def PA (X : Cx) (es : List Expr) (t : TA) : Prop :=
  ∀ (pos : Pos) (pins : List (Addr × Obj)) (s : Shared) (σ : St) (H : Hp) (Q : List V → Hp → Prop), Inv X pins σ H s → t σ H Q → wpAny (model X.prog X.w) X.A (spliced (backTo pos (starEach es X.env))) (AP X pins σ Q) X.xe s
def PS (X : Cx) (st : Stmt) (t : TS) : Prop :=
  ∀ (pins : List (Addr × Obj)) (s : Shared) (σ : St) (H : Hp) (D : Ends), Inv X pins σ H s → t D σ H → wpAny (model X.prog X.w) X.A (exec st X.env) (SP X pins D) X.xe s
def PSs (X : Cx) (st : List Stmt) (t : TS) : Prop :=
  ∀ (pins : List (Addr × Obj)) (s : Shared) (σ : St) (H : Hp) (D : Ends), Inv X pins σ H s → t D σ H → wpAny (model X.prog X.w) X.A (execs st X.env) (SP X pins D) X.xe s
/-- weaken the end -/
theorem thn {α : Type} {t : Sem α} {Q Q' : α → Shared → Prop} {M : Model} {A : Around} {E : Value → Shared → Prop} {s : Shared} (h : wpAny M A t Q E s) (hQ : ∀ a s, Q a s → Q' a s) : wpAny M A t Q' E s := wpAny_mono h hQ fun _ _ x => x
end L2

namespace L2
open PySem PySem.Spec PyProof.Rows
section
variable {X : Cx}


/-! ### names and constants -/
def tVar (i : Nat) : TE := fun σ H Q => ∃ v, σ[i]? = some (some v) ∧ Q v H
def tC (v : V) : TE := fun _ H Q => Q v H
theorem pe_var {i : Nat} {x : Str} {pos : Pos} (hN : X.N[i]? = some x) (hv : Vis X.env.scope x) (hd : (x == ("__debug__" : Str)) = false := by decide) (hcd : (x == ("__classdict__" : Str)) = false := by decide) : PE X (.Name x pos) (tVar i) := by
  intro pins s σ H Q I h
  obtain ⟨v, e, h⟩ := h
  obtain ⟨m, hn, hl⟩ := I.loc
  obtain ⟨u, r, l⟩ := hl i x v hN e hv
  have fin : EP X pins σ Q u s := ⟨v, H, I, r, h⟩
  rcases l with ⟨hk, hm⟩ | ⟨hk, c, hc, hcell⟩
  · exact wpAny_Name (wpAny_loadName_local I.ok.kind hk hn hm fin) hd
  · rcases hk with hk | hk
    · exact wpAny_Name (wpAny_loadName_cell I.ok.kind hk hc hcell fin) hd
    · exact wpAny_Name (wpAny_loadName_free I.ok.kind hk hc hcell fin hcd) hd
theorem pe_int {i j pos} : PE X (.Constant (.int i) j pos) (tC (.int i)) := fun _ _ _ H _ I h => wpAny_Constant_int ⟨.int i, H, I.tok _, ⟨_, rfl⟩, h⟩
theorem pe_bl {b j pos} : PE X (.Constant (.bool b) j pos) (tC (.bl b)) := fun _ _ _ H _ I h => Constant_bool ⟨.bl b, H, I, rfl, h⟩
theorem pe_non {j pos} : PE X (.Constant .none j pos) (tC .non) := fun _ _ _ H _ I h => Constant_none ⟨.non, H, I, rfl, h⟩
theorem pe_str {x j pos} : PE X (.Constant (.str x) j pos) (tC (.str x)) := fun _ _ _ H _ I h => Calls.Constant_str ⟨.str x, H, I.tok _, ⟨_, rfl⟩, h⟩

/-- a global name of the def -/
def Gl (X : Cx) (x : Str) : Prop := X.env.kindOf x = some .globalImplicit
theorem ld_glob {E : Value → Shared → Prop} {pins : List (Addr × Obj)} {s : Shared} {σ : St} {H : Hp} {x : Str} {u : Value} {pos : Pos} {Q : Value → Shared → Prop} (I : Inv X pins σ H s) (hg : Gl X x) (hm : X.mg x = some u) (h : Q u s)
    (hd : (x == ("__debug__" : Str)) = false := by decide) : wpAny (model X.prog X.w) X.A (eval (.Name x pos) X.env) Q E s :=
  Calls.Name_function_global I.ok.kind hg (Calls.loadGlobal_global (by rw [I.ok.glob]; exact I.mod.glob.keeps I.bk) hm h) hd
theorem ld_blt {E : Value → Shared → Prop} {pins : List (Addr × Obj)} {s : Shared} {σ : St} {H : Hp} {x : Str} {u : Value} {pos : Pos} {Q : Value → Shared → Prop} (I : Inv X pins σ H s) (hg : Gl X x) (hm : X.mg x = none) (hv : bootBuiltins x = some u) (h : Q u s)
    (hn : x ≠ "__name__" := by decide) (hd : (x == ("__debug__" : Str)) = false := by decide) : wpAny (model X.prog X.w) X.A (eval (.Name x pos) X.env) Q E s := by
  obtain ⟨mb, h1, h2⟩ := I.mod.blt
  exact Calls.Name_function_global I.ok.kind hg (Calls.loadGlobal_builtin (by rw [I.ok.glob]; exact I.mod.glob.keeps I.bk) hm (by rw [I.ok.blt]; exact h1.keeps I.bk) ((h2 x hn).trans hv) h) hd
/-- a module's constant, a class, a function, as a value -/
theorem pe_glob {x : Str} {v : V} {u : Value} {pos : Pos} (hg : Gl X x) (hm : X.mg x = some u) (r : RelV v u) (hd : (x == ("__debug__" : Str)) = false := by decide) : PE X (.Name x pos) (tC v) :=
  fun _ _ _ H _ I h => ld_glob I hg hm ⟨v, H, I, r, h⟩ hd
theorem pe_bltn {x : Str} {v : V} {u : Value} {pos : Pos} (hg : Gl X x) (hm : X.mg x = none) (hv : bootBuiltins x = some u) (r : RelV v u) (hn : x ≠ "__name__" := by decide) (hd : (x == ("__debug__" : Str)) = false := by decide) : PE X (.Name x pos) (tC v) :=
  fun _ _ _ H _ I h => ld_blt I hg hm hv ⟨v, H, I, r, h⟩ hn hd

/-! ### arithmetic -/
variable {a b : Expr} {ta tb : TE} {pos : Pos}

/-! ### comparisons -/
/-- a comparison as a value, as a test -/
def tB (t : TE) : TT := fun σ H Q => t σ H fun x H1 => ∃ c, x = .bl c ∧ Q c H1
/-- an expression whose value is a bool, as a test -/
theorem pt_val {e : Expr} {t : TE} (h : PE X e t) (he : ∀ whole, isTrue e X.env whole = (do let v ← whole; standAt e.pos; holding [v] (truthy v)) := by intro _; rfl) : PT X e (tB t) := by
  intro pins s σ H Q I hw
  refine isTrue_plain (thn (h pins s σ H _ I hw) fun v s1 ⟨x, H1, I1, r1, q1⟩ => ?_) (he _)
  obtain ⟨d, rfl, q⟩ := q1
  cases r1
  exact wpAny_truthy_bool ⟨H1, I1, q⟩

/-! ### and, or, not -/
variable {tA tB' : TT} {rest : List Expr}
def tAnd (t u : TT) : TT := fun σ H Q => t σ H fun c H1 => if c = true then u σ H1 Q else Q false H1
def tOr (t u : TT) : TT := fun σ H Q => t σ H fun c H1 => if c = true then Q true H1 else u σ H1 Q
def tNot (t : TT) : TT := fun σ H Q => t σ H fun c H1 => Q (!c) H1
theorem pw_and1 (ha : PT X a tA) : PW X (.BoolOp .And [a] pos) tA := by
  intro wh pins s σ H Q I h
  refine isTrue_and (thn (ha pins s σ H Q I h) fun c s1 e => ?_)
  cases c with
  | true => exact isTrue_and_nil e
  | false => exact e
theorem pw_or1 (ha : PT X a tA) : PW X (.BoolOp .Or [a] pos) tA := by
  intro wh pins s σ H Q I h
  refine isTrue_or (thn (ha pins s σ H Q I h) fun c s1 e => ?_)
  cases c with
  | false => exact isTrue_or_nil e
  | true => exact e
theorem pw_and (ha : PT X a tA) (hb : PW X (.BoolOp .And (b :: rest) pos) tB') : PW X (.BoolOp .And (a :: b :: rest) pos) (tAnd tA tB') := by
  intro wh pins s σ H Q I h
  refine isTrue_and (thn (ha pins s σ H _ I h) fun c s1 ⟨H1, I1, q1⟩ => ?_)
  cases c with
  | true => exact hb wh pins s1 σ H1 Q I1 q1
  | false => exact ⟨H1, I1, q1⟩
theorem pw_or (ha : PT X a tA) (hb : PW X (.BoolOp .Or (b :: rest) pos) tB') : PW X (.BoolOp .Or (a :: b :: rest) pos) (tOr tA tB') := by
  intro wh pins s σ H Q I h
  refine isTrue_or (thn (ha pins s σ H _ I h) fun c s1 ⟨H1, I1, q1⟩ => ?_)
  cases c with
  | true => exact ⟨H1, I1, q1⟩
  | false => exact hb wh pins s1 σ H1 Q I1 q1
theorem pt_not (ha : PT X a tA) : PT X (.UnaryOp .Not a pos) (tNot tA) := by
  intro pins s σ H Q I h
  exact isTrue_not (ha pins s σ H (fun c H1 => Q (!c) H1) I h)
/-- .. as values (bools) -/
def tAndV (ta tb : TE) : TE := fun σ H Q => ta σ H fun x H1 => ∃ c, x = .bl c ∧ if c = true then tb σ H1 Q else Q (.bl false) H1
def tNotV (ta : TE) : TE := fun σ H Q => ta σ H fun x H1 => ∃ c, x = .bl c ∧ Q (.bl (!c)) H1
theorem pe_one {op} {t : TE} (h : PE X a t) : PE X (.BoolOp op [a] pos) t := fun pins s σ H Q I hw => BoolOp_one (h pins s σ H Q I hw)
theorem pe_and (ha : PE X a ta) (hb : PE X (.BoolOp .And (b :: rest) pos) tb) : PE X (.BoolOp .And (a :: b :: rest) pos) (tAndV ta tb) := by
  intro pins s σ H Q I h
  refine BoolOp_and (thn (ha pins s σ H _ I h) fun v s1 ⟨x, H1, I1, r1, q1⟩ => ?_)
  obtain ⟨c, rfl, q1⟩ := q1
  cases r1
  refine wpAny_truthy_bool ?_
  cases c with
  | true => exact hb pins s1 σ H1 Q I1 q1
  | false => exact ⟨.bl false, H1, I1, rfl, q1⟩
theorem pe_not (ha : PE X a ta) : PE X (.UnaryOp .Not a pos) (tNotV ta) := by
  intro pins s σ H Q I h
  refine UnaryOp_ (thn (ha pins s σ H _ I h) fun v s1 ⟨x, H1, I1, r1, q1⟩ => ?_)
  obtain ⟨c, rfl, q1⟩ := q1
  cases r1
  exact not_of (wpAny_truthy_bool ⟨.bl (!c), H1, I1, rfl, q1⟩)
/-- a if t else b -/
def tIf (t : TT) (ta tb : TE) : TE := fun σ H Q => t σ H fun c H1 => if c = true then ta σ H1 Q else tb σ H1 Q
theorem pe_ifExp {c : Expr} (hc : PT X c tA) (ha : PE X a ta) (hb : PE X b tb) : PE X (.IfExp c a b pos) (tIf tA ta tb) := by
  intro pins s σ H Q I h
  refine wpAny_IfExp (thn (hc pins s σ H _ I h) fun d s1 ⟨H1, I1, q1⟩ => ?_)
  cases d with
  | true => exact ha pins s1 σ H1 Q I1 q1
  | false => exact hb pins s1 σ H1 Q I1 q1
end
end L2

namespace L2
open PySem PySem.Spec PyProof.Rows

/-! ### a list, a tuple that is read: tracked, frozen, or an object of the module -/
def SqL (K : PySem.W.Frag) (H : Hp) (a : Addr) (xs : List V) : Prop :=
  Rd H a (.lst xs) ∨
    ∃ (o : Obj) (its : Array Value) (n : Nat), K.lookup a = some o ∧ o.cls = .type "list" ∧ o.dict = none ∧ o.data = .seq its n ∧ its.size ≤ sizeLine ∧ Vals xs its.toList
def SqT (K : PySem.W.Frag) (H : Hp) (a : Addr) (xs : List V) : Prop :=
  Rd H a (.tup xs) ∨
    ∃ (o : Obj) (its : Array Value) (n : Nat), K.lookup a = some o ∧ o.cls = .type "tuple" ∧ o.data = .seq its n ∧ its.size ≤ sizeLine ∧ Vals xs its.toList
def absV : Value → Option V
  | .none => some .non
  | .bool b => some (.bl b)
  | .int i _ => some (.int i)
  | .str x _ => some (.str x)
  | .bytes b _ => some (.byt b)
  | .float b _ => some (.flt b)
  | .ref a => some (.ref a)
  | .type n => some (.ty n)
  | _ => none
theorem RelV.abs {x : V} {u : Value} (r : RelV x u) : absV u = some x := by
  cases x with
  | non => cases r; rfl
  | bl _ => cases r; rfl
  | int _ => obtain ⟨t, rfl⟩ := r; rfl
  | str _ => obtain ⟨t, rfl⟩ := r; rfl
  | byt _ => obtain ⟨t, rfl⟩ := r; rfl
  | flt _ => obtain ⟨t, rfl⟩ := r; rfl
  | ref _ => cases r; rfl
  | ty _ => cases r; rfl
theorem RelV.inj {x y : V} {u : Value} (r : RelV x u) (q : RelV y u) : x = y := Option.some.inj (r.abs.symm.trans q.abs)
theorem Vals.inj : ∀ {xs ys : List V} {us : List Value}, Vals xs us → Vals ys us → xs = ys
  | _, _, _, .nil, .nil => rfl
  | _, _, _, .cons r t, .cons r' t' => by rw [r.inj r', Vals.inj t t']
section
variable {X : Cx} {pins : List (Addr × Obj)} {σ : St} {H : Hp} {s : Shared} {a : Addr} {xs ys : List V}
theorem SqL.of {K : PySem.W.Frag} (h : H a = some (.lst xs)) : SqL K H a xs := .inl (.inl h)
theorem SqT.of {K : PySem.W.Frag} (h : H a = some (.tup xs)) : SqT K H a xs := .inl (.inl h)
theorem Inv.list (I : Inv X pins σ H s) (h : SqL X.K H a xs) : ∃ its : List Value, Vals xs its ∧ PlainL s.heap a its.toArray ∧ xs.length ≤ sizeLine := by
  rcases h with h | ⟨o, its, n, hk, hc, hd, hs, hz, r⟩
  · obtain ⟨z, its, n, r, e⟩ := h.ok I.hok
    exact ⟨its, r, ⟨_, n, e, rfl, rfl, rfl⟩, z⟩
  · refine ⟨its.toList, r, ⟨o, n, I.kIn a o hk, hc, hd, by simpa using hs⟩, ?_⟩
    have e := r.length
    simp only [Array.length_toList] at e
    omega
theorem Inv.tuple (I : Inv X pins σ H s) (h : SqT X.K H a xs) : ∃ its : List Value, Vals xs its ∧ IsTup s.heap a its.toArray ∧ xs.length ≤ sizeLine := by
  rcases h with h | ⟨o, its, n, hk, hc, hs, hz, r⟩
  · obtain ⟨z, its, r, p⟩ := h.ok I.hok
    exact ⟨its, r, p, z⟩
  · refine ⟨its.toList, r, ⟨o, I.kIn a o hk, hc, n, by simpa using hs⟩, ?_⟩
    have e := r.length
    simp only [Array.length_toList] at e
    omega
theorem Inv.list_inj (I : Inv X pins σ H s) (h : SqL X.K H a xs) (h' : SqL X.K H a ys) : xs = ys := by
  obtain ⟨its, r, ⟨o, n, e, _, _, d⟩, _⟩ := I.list h
  obtain ⟨its', r', ⟨o', n', e', _, _, d'⟩, _⟩ := I.list h'
  rw [e] at e'; cases e'
  rw [d] at d'
  injection d' with d1 _
  have : its = its' := by simpa using congrArg Array.toList d1
  subst this
  exact r.inj r'
end

/-! ### another wish about exceptions -/
abbrev Cx.wish (X : Cx) (E : Value → Shared → Prop) : Cx := { X with xe := E }
/-- no exception leaves -/
abbrev Cx.nox (X : Cx) : Cx := X.wish fun _ _ => False
theorem Cx.Ok.wish {X : Cx} (ok : X.Ok) (E : Value → Shared → Prop) : (X.wish E).Ok :=
  ⟨ok.mod, ok.kind, ok.glob, ok.blt, ok.above, ok.inj, ok.has, ok.cab, ok.hd, ok.frames, ok.stk, ok.exf, ok.bs, ok.bsz, ok.noex, ok.exfs, ok.funs, ok.frf⟩
theorem Cx.Ok.unwish {X : Cx} {E : Value → Shared → Prop} (ok : (X.wish E).Ok) : X.Ok :=
  ⟨ok.mod, ok.kind, ok.glob, ok.blt, ok.above, ok.inj, ok.has, ok.cab, ok.hd, ok.frames, ok.stk, ok.exf, ok.bs, ok.bsz, ok.noex, ok.exfs, ok.funs, ok.frf⟩
section
variable {X : Cx} {pins : List (Addr × Obj)} {σ : St} {H : Hp} {s : Shared} {E : Value → Shared → Prop}
theorem Inv.wish (I : Inv X pins σ H s) (E : Value → Shared → Prop) : Inv (X.wish E) pins σ H s := ⟨I.ok.wish E, I.os, I.bare, I.base, I.loc, I.cell, I.free, I.freeC, I.pin, I.hok, I.len⟩
theorem Inv.unwish (I : Inv (X.wish E) pins σ H s) : Inv X pins σ H s := ⟨I.ok.unwish, I.os, I.bare, I.base, I.loc, I.cell, I.free, I.freeC, I.pin, I.hok, I.len⟩
theorem SP.unwish {D : Ends} {f : Flow} {s' : Shared} (h : SP (X.wish E) pins D f s') : SP X pins D f s' := by
  cases f with
  | next => obtain ⟨σ', H', I, q⟩ := h; exact ⟨σ', H', I.unwish, q⟩
  | brk => obtain ⟨σ', H', I, q⟩ := h; exact ⟨σ', H', I.unwish, q⟩
  | cont => obtain ⟨σ', H', I, q⟩ := h; exact ⟨σ', H', I.unwish, q⟩
  | ret u => obtain ⟨v, σ', H', I, r, q⟩ := h; exact ⟨v, σ', H', I.unwish, r, q⟩
theorem PE.nox {e : Expr} {t : TE} (h : PE X.nox e t) : PE X e t := fun pins s σ H Q I hw =>
  wpAny_mono (h pins s σ H Q (I.wish _) hw) (fun _ _ ⟨v, H', I', r, q⟩ => ⟨v, H', I'.unwish, r, q⟩) fun _ _ z => False.elim z
theorem PT.nox {e : Expr} {t : TT} (h : PT X.nox e t) : PT X e t := fun pins s σ H Q I hw =>
  wpAny_mono (h pins s σ H Q (I.wish _) hw) (fun _ _ ⟨H', I', q⟩ => ⟨H', I'.unwish, q⟩) fun _ _ z => False.elim z
theorem PSs.nox {st : List Stmt} {t : TS} (h : PSs X.nox st t) : PSs X st t := fun pins s σ H D I hw =>
  wpAny_mono (h pins s σ H D (I.wish _) hw) (fun _ _ q => q.unwish) fun _ _ z => False.elim z
end

/-! ### blocks and small statements -/
section
variable {X : Cx} {st : Stmt} {rest : List Stmt} {t u : TS} {e : Expr} {te : TE} {pos : Pos}
def tNext : TS := fun D σ H => D.nx σ H
def tSeq (t u : TS) : TS := fun D σ H => t { D with nx := u D } σ H
theorem pss_nil : PSs X [] tNext := fun _ _ σ H _ I h => wpAny_execs_nil ⟨σ, H, I, h⟩
theorem pss_cons (h1 : PS X st t) (h2 : PSs X rest u) : PSs X (st :: rest) (tSeq t u) := by
  intro pins s σ H D I h
  refine wpAny_execs_cons (thn (h1 pins s σ H { D with nx := u D } I h) fun f s1 q => ?_)
  cases f with
  | next =>
    obtain ⟨σ', H', I', q⟩ := q
    exact h2 pins s1 σ' H' D I' q
  | ret v => exact q
  | brk => exact q
  | cont => exact q
theorem pss_one (h1 : PS X st t) : PSs X [st] t := by
  intro pins s σ H D I h
  refine wpAny_execs_cons (thn (h1 pins s σ H D I h) fun f s1 q => ?_)
  cases f with
  | next => exact wpAny_execs_nil q
  | ret v => exact q
  | brk => exact q
  | cont => exact q
/-- in a def's body nothing is shown -/
theorem Inv.quiet {pins : List (Addr × Obj)} {σ : St} {H : Hp} {s : Shared} (I : Inv X pins σ H s) : interactive X.env = false := by simp [interactive, I.ok.kind]
/-- an expression whose value is dropped -/
def tDrop (te : TE) : TS := fun D σ H => te σ H fun _ H1 => D.nx σ H1
theorem ps_expr (he : PE X e te) (hs : swapsWith e none pos.line X.env = pure false := by rfl) : PS X (.Expr e pos) (tDrop te) := by
  intro pins s σ H D I h
  exact wpAny_Expr_any (thn (he pins s σ H _ I h) fun v s1 ⟨x, H1, I1, r1, q1⟩ => ⟨σ, H1, I1, q1⟩) I.quiet hs
def tRet (te : TE) : TS := fun D σ H => te σ H D.rt
theorem ps_ret (he : PE X e te) : PS X (.Return (some e) pos) (tRet te) := by
  intro pins s σ H D I h
  exact wpAny_Return_some (thn (he pins s σ H _ I h) fun v s1 ⟨x, H1, I1, r1, q1⟩ => ⟨x, σ, H1, I1, r1, q1⟩)
def tIfS (c : TT) (t u : TS) : TS := fun D σ H => c σ H fun b H1 => if b = true then t D σ H1 else u D σ H1
theorem ps_if {c : Expr} {a b : List Stmt} {tc : TT} (hc : PT X c tc) (ha : PSs X a t) (hb : PSs X b u) : PS X (.If c a b pos) (tIfS tc t u) := by
  intro pins s σ H D I h
  refine wpAny_If (thn (hc pins s σ H _ I h) fun d s1 ⟨H1, I1, q1⟩ => ?_)
  cases d with
  | true => exact ha pins s1 σ H1 D I1 q1
  | false => exact hb pins s1 σ H1 D I1 q1
/-- code that the proof never comes to -/
def tNever : TS := fun _ _ _ => False
theorem ps_never : PS X st tNever := fun _ _ _ _ _ _ h => h.elim
theorem pss_never {sts : List Stmt} : PSs X sts tNever := fun _ _ _ _ _ _ h => h.elim
end

/-! ### targets -/
abbrev TG := V → St → Hp → (St → Hp → Prop) → Prop
abbrev TGs := List V → St → Hp → (St → Hp → Prop) → Prop
def PG (X : Cx) (target : Expr) (t : TG) : Prop :=
  ∀ (pins : List (Addr × Obj)) (s : Shared) (σ : St) (H : Hp) (v : V) (u : Value) (Q : St → Hp → Prop), Inv X pins σ H s → RelV v u → t v σ H Q →
    wpAny (model X.prog X.w) X.A (assign target X.env u) (fun _ s' => ∃ σ' H', Inv X pins σ' H' s' ∧ Q σ' H') X.xe s
/-- several targets, one after another -/
def PGs (X : Cx) (ts : List Expr) (t : TGs) : Prop :=
  ∀ (pins : List (Addr × Obj)) (s : Shared) (σ : St) (H : Hp) (vs : List V) (us : List Value) (Q : St → Hp → Prop), Inv X pins σ H s → Vals vs us → t vs σ H Q →
    wpAny (model X.prog X.w) X.A (assignInOrder ((assignEach ts X.env).map (·.2)) us) (fun _ s' => ∃ σ' H', Inv X pins σ' H' s' ∧ Q σ' H') X.xe s
section
variable {X : Cx} {pos : Pos}
def gName (i : Nat) : TG := fun v σ H Q => Q (σ.set i (some v)) H
theorem pg_name {i : Nat} {x : Str} (hN : X.N.Nodup) (hi : X.N[i]? = some x) (hx : Loc X.env.scope x) (hf : X.fn x = true ∨ X.env.scope.names.lookup x = some .local := by first | exact .inl rfl | exact .inr rfl | assumption) : PG X (.Name x pos) (gName i) := by
  intro pins s σ H v u Q I r h
  exact wpAny_assign_Name (store_ok I hN hi hx r (fun s' I' => ⟨_, H, I', h⟩) hf)
def gNil : TGs := fun vs σ H Q => vs = [] ∧ Q σ H
def gCons (t : TG) (u : TGs) : TGs := fun vs σ H Q => ∃ v r, vs = v :: r ∧ t v σ H fun σ' H' => u r σ' H' Q
theorem pgs_nil : PGs X [] gNil := by
  intro pins s σ H vs us Q I r h
  obtain ⟨e, h⟩ := h
  subst e
  cases r
  exact assignInOrder_nil ⟨σ, H, I, h⟩
theorem pgs_cons {e : Expr} {es : List Expr} {t : TG} {u : TGs} (h1 : PG X e t) (h2 : PGs X es u)
    (hs : (assignEach (e :: es) X.env).map (·.2) = assign e X.env :: (assignEach es X.env).map (·.2) := by rfl) : PGs X (e :: es) (gCons t u) := by
  intro pins s σ H vs us Q I r h
  obtain ⟨v, vr, e1, h⟩ := h
  subst e1
  cases r with
  | cons r rr =>
    rw [hs]
    refine assignInOrder_cons (thn (h1 pins s σ H _ _ _ I r h) fun _ s1 ⟨σ1, H1, I1, q1⟩ => ?_)
    exact h2 pins s1 σ1 H1 _ _ Q I1 rr q1
/-- (a, b, ..) = a tuple of that length -/
def gTup (K : PySem.W.Frag) (n : Nat) (t : TGs) : TG := fun v σ H Q => ∃ a xs, v = .ref a ∧ SqT K H a xs ∧ xs.length = n ∧ t xs σ H Q
theorem pg_tup {es : List Expr} {k : Nat} {t : TGs} {n : Nat} (hc : X.calm = true) (h : PGs X es t)
    (hn : (assignEach es X.env).length = n := by rfl) (hst : (assignEach es X.env).findIdx? (·.1) = none := by rfl) : PG X (.Tuple es k pos) (gTup X.K n t) := by
  intro pins s σ H v u Q I r hw
  obtain ⟨a, xs, e1, hq, hl, hw⟩ := hw
  subst e1
  cases r
  obtain ⟨its, rv, ht, hz⟩ := I.tuple hq
  refine assign_Tuple_tuple (I.ok.hd hc) ht (by simp [hn, ← hl, rv.length]) hst fun h' hx => ?_
  have I1 : Inv X pins σ H { s with heap := h' } := I.kept (t' := s.toks) fun b o e => hx b o (Nat.ne_of_lt (Heap.lt_size e)) e
  exact h pins _ σ H xs _ Q I1 (by simpa using rv) hw
/-- target = value -/
def tAsg (te : TE) (g : TG) : TS := fun D σ H => te σ H fun x H1 => g x σ H1 D.nx
theorem ps_asg {tg e : Expr} {te : TE} {g : TG} (he : PE X e te) (hg : PG X tg g) (hs : swapsWithSole [tg] e pos.line X.env = pure false := by rfl) (hw : swappedStores [tg] e X.env = pure none := by rfl)
    (h1 : (assignEach [tg] X.env).map (·.2) = [assign tg X.env] := by rfl) : PS X (.Assign [tg] e pos) (tAsg te g) := by
  intro pins s σ H D I h
  refine wpAny_Assign_stores (thn (he pins s σ H _ I h) fun v s1 ⟨x, H1, I1, r1, q1⟩ => ?_) hs hw
  rw [h1]
  exact thn (hg pins s1 σ H1 x v _ I1 r1 q1) fun _ s2 q => q
/-- name = value -/
theorem ps_set {i : Nat} {x : Str} {e : Expr} {te : TE} {pos' : Pos} (hN : X.N.Nodup) (hi : X.N[i]? = some x) (hx : Loc X.env.scope x) (he : PE X e te) (hs : swapsWith e (some (.Name x pos')) pos.line X.env = pure false := by rfl) (hf : X.fn x = true ∨ X.env.scope.names.lookup x = some .local := by first | exact .inl rfl | exact .inr rfl | assumption) :
    PS X (.Assign [.Name x pos'] e pos) (tAsg te (gName i)) := by
  intro pins s σ H D I h
  refine wpAny_Assign_Name (thn (he pins s σ H _ I h) fun v s1 ⟨y, H1, I1, r1, q1⟩ => ?_) hs
  exact store_ok I1 hN hi hx r1 (fun s2 I2 => ⟨_, H1, I2, q1⟩) hf
/-- a, b = x, y with plain local names: stored from the right; the pair itself is not tracked (the opening rows as in PyProof/Rows/TupAssign.lean:23) -/
def tPar (i j : Nat) (ta : TA) : TS := fun D σ H => ta σ H fun vs H1 => ∃ v w, vs = [v, w] ∧ D.nx ((σ.set i (some v)).set j (some w)) H1
theorem ps_par {i j : Nat} {x y : Str} {a b : Expr} {ta : TA} {px py pt : Pos} {kt k2 pt2} (hc : X.calm = true) (hN : X.N.Nodup) (hi : X.N[i]? = some x) (hj : X.N[j]? = some y) (hij : i ≠ j)
    (hx : X.env.scope.names.lookup x = some .local) (hy : X.env.scope.names.lookup y = some .local) (ha : PA X [a, b] ta)
    (hw : swappedStores [.Tuple [.Name x px, .Name y py] kt pt] (.Tuple [a, b] k2 pt2) X.env = pure (some [x, y]))
    (hs : swapsWithSole [.Tuple [.Name x px, .Name y py] kt pt] (.Tuple [a, b] k2 pt2) pos.line X.env = pure false := by rfl) :
    PS X (.Assign [.Tuple [.Name x px, .Name y py] kt pt] (.Tuple [a, b] k2 pt2) pos) (tPar i j ta) := by
  intro pins s σ H D I h
  rw [exec_Assign_arm]
  refine wpAny_bind (wpAny_standAt ?_)
  rw [hs]
  refine wpAny_bind (wpAny_pure ?_)
  rw [if_neg (by decide)]
  refine wpAny_bind (Tuple_ (thn (ha _ pins s σ H _ I h) fun us s1 ⟨vs, H1, I1, r1, q1⟩ => ?_))
  obtain ⟨v, w, e1, q1⟩ := q1
  subst e1
  obtain ⟨u1, u2, rfl, rv, rw'⟩ : ∃ u1 u2, us = [u1, u2] ∧ RelV v u1 ∧ RelV w u2 := by
    cases r1 with
    | cons p q =>
      cases q with
      | cons p' q' =>
        cases q'
        exact ⟨_, _, rfl, p, p'⟩
  refine wpAny_newObj_type ?_ (by show 2 ≤ sizeLine; decide)
  have I2 : Inv X pins σ H1 { s1 with heap := s1.heap.push { cls := .type "tuple", data := .seq [u1, u2].toArray } } := I1.kept (t' := s1.toks) fun b o e => Heap.get?_push_of_some _ e
  rw [hw]
  refine wpAny_bind (wpAny_pure ?_)
  show wpAny (model X.prog X.w) X.A (do rule "assign.swapped-stores"; let items ← unpackItems (.ref s1.heap.objs.size) 2 none; assignInOrder [fun v => bindName X.env y v, fun v => bindName X.env x v] items.reverse; pure Flow.next) _ _ _
  refine wpAny_bind (wpAny_rule (wpAny_bind (unpackItems_tuple (items := #[u1, u2]) (I.ok.hd hc) (IsTup.new s1.heap _) fun h' hx' => ?_)))
  have I3 := I2.kept (h' := h') (t' := s1.toks) fun b o e => hx' b o (Nat.ne_of_lt (Heap.lt_size e)) e
  show wpAny _ _ (assignInOrder [fun v => bindName X.env y v, fun v => bindName X.env x v] [u2, u1] >>= fun _ => pure Flow.next) _ _ _
  refine wpAny_bind (assignInOrder_cons (wpAny_bindName (store_ok I3 hN hj (.inl hy) rw' (fun s2 I4 => ?_) (.inr hy))))
  refine assignInOrder_cons (wpAny_bindName (store_ok I4 hN hi (.inl hx) rv (fun s3 I5 => assignInOrder_nil (wpAny_pure ?_)) (.inr hx)))
  rw [List.set_comm _ _ (Ne.symm hij)] at I5
  exact ⟨_, H1, I5, q1⟩
end

/-! ### while -/
section
variable {X : Cx} {pos : Pos}
/-- the invariant W with its measure -/
def tWhile (c : TT) (tb : TS) : TS := fun D σ H => ∃ W : Nat → St → Hp → Prop, (∃ m, W m σ H) ∧ ∀ m σ H, W m σ H →
  c σ H fun b H1 => if b = true then ∃ N : St → Hp → Prop, (∀ σ' H', N σ' H' → ∃ m', m' < m ∧ W m' σ' H') ∧ tb { D with nx := N, ct := N, bk := D.nx } σ H1 else D.nx σ H1
theorem ps_while {c : Expr} {body : List Stmt} {tc : TT} {tb : TS} (hp : PassesOwn (model X.prog X.w) X.A X.env X.xe) (hc : PT X c tc) (hb : PSs X body tb) : PS X (.While c body [] pos) (tWhile tc tb) := by
  intro pins s σ H D I h
  obtain ⟨W, ⟨m0, w0⟩, turn⟩ := h
  refine wpAny_While (codeAny_whileLoop (fun n s' => ∃ σ' H', Inv X pins σ' H' s' ∧ W n σ' H') ?_ m0 ⟨σ, H, I, w0⟩)
  rintro n s1 ⟨σ1, H1, I1, w1⟩
  refine wpAny_passesOwn hp (thn (hc pins s1 σ1 H1 _ I1 (turn n σ1 H1 w1)) fun b s2 ⟨H2, I2, q2⟩ => ?_)
  cases b with
  | true =>
    obtain ⟨N, hN, q2⟩ := q2
    rw [if_pos rfl]
    refine wpAny_passesOwn hp (thn (hb pins s2 σ1 H2 _ I2 q2) fun f s3 q3 => ?_)
    cases f with
    | next =>
      obtain ⟨σ3, H3, I3, n3⟩ := q3
      obtain ⟨m', hm, w3⟩ := hN σ3 H3 n3
      exact ⟨m', hm, σ3, H3, I3, w3⟩
    | cont =>
      obtain ⟨σ3, H3, I3, n3⟩ := q3
      obtain ⟨m', hm, w3⟩ := hN σ3 H3 n3
      exact ⟨m', hm, σ3, H3, I3, w3⟩
    | brk => exact q3
    | ret v => exact q3
  | false =>
    rw [if_neg Bool.false_ne_true]
    exact wpAny_execs_nil ⟨σ1, H2, I2, q2⟩
end

/-! ### what a loop or a comprehension walks -/
/-- at turn i: it yields x (the heap may grow), or it stops -/
structure It where
  go : Nat → Hp → Prop
  yld : Nat → Hp → V → Hp → Prop
  stop : Nat → Hp → Prop
/-- the iterator's own objects may turn: they are not the frame's, not pinned, younger than the entry (or a comprehension's own) -/
def FpOk (X : Cx) (pins : List (Addr × Obj)) (H : Hp) (b : Addr) : Prop :=
  H b = none ∧ b ≠ X.env.locals ∧ b ∉ X.fs ∧ (b ∈ X.ex ∨ X.s₀.heap.objs.size ≤ b) ∧ (∀ x c, X.env.cells.lookup x = some c → c ≠ b) ∧ ∀ p ∈ X.pn ++ pins, p.1 ≠ b
theorem Inv.fpOk {X : Cx} {pins : List (Addr × Obj)} {σ : St} {H H' : Hp} {s : Shared} {b : Addr} (I : Inv X pins σ H s) (hb : s.heap.objs.size ≤ b) (hn : H' b = none) : FpOk X pins H' b := by
  refine ⟨hn, Nat.ne_of_gt (Nat.lt_of_lt_of_le I.lt hb), I.nofs hb, .inr (Nat.le_trans I.sz hb), fun x c e z => ?_, fun p hp z => ?_⟩
  · obtain ⟨v, q⟩ := I.cell x c e
    exact absurd (Nat.lt_of_lt_of_le q.lt (by rw [z]; exact hb)) (Nat.lt_irrefl _)
  · exact absurd (Nat.lt_of_lt_of_le (Heap.lt_size (I.pin p hp).1) (by rw [z]; exact hb)) (Nat.lt_irrefl _)
structure Turn (P : Program) (w : World) (K : PySem.W.Frag) (tg : Expr) (J : It) (fp : List Addr) (it : Addr) (tn : Nat → Heap → Prop) : Prop where
  mem : it ∈ fp
  obj : ∀ i h, tn i h → ∀ b ∈ fp, ∃ o, h.get? b = some o ∧ ∀ v, o.data ≠ .cell v
  keep : ∀ i h h', tn i h → (∀ b ∈ fp, ∀ o, h.get? b = some o → h'.get? b = some o) → tn i h'
  item : ∀ (X : Cx), X.prog = P → X.w = w → X.K = K → X.calm = true → ∀ (i : Nat) (pins : List (Addr × Obj)) (s : Shared) (σ : St) (H : Hp) (E : Value → Shared → Prop), Inv X pins σ H s → (∀ b ∈ fp, FpOk X pins H b) → tn i s.heap → J.go i H →
    wpAny (model P w) X.A (pyNext (.ref it)) (fun r s1 => ∃ u, r = some u ∧
      wpAny (model P w) X.A (letOwnedTupleGo tg (.ref it) u) (fun _ s2 => ∃ x H', Inv X pins σ H' s2 ∧ RelV x u ∧ J.yld i H x H' ∧ tn (i + 1) s2.heap ∧ ∀ b ∈ fp, H' b = none) E s1) E s
  done : ∀ (X : Cx), X.prog = P → X.w = w → X.K = K → X.calm = true → ∀ (i : Nat) (pins : List (Addr × Obj)) (s : Shared) (σ : St) (H : Hp) (E : Value → Shared → Prop), Inv X pins σ H s → (∀ b ∈ fp, FpOk X pins H b) → tn i s.heap → J.stop i H →
    wpAny (model P w) X.A (pyNext (.ref it)) (fun r s1 => r = none ∧ Inv X pins σ H s1) E s
  self : ∀ (A : Around) (i : Nat) (s : Shared) (Q : Value → Shared → Prop) (E : Value → Shared → Prop), tn i s.heap → Q (.ref it) s → wpAny (model P w) A (pyIter (.ref it)) Q E s
abbrev TI := St → Hp → (It → Hp → Prop) → Prop
/-- an iterator has come -/
def PIE (X : Cx) (pins : List (Addr × Obj)) (σ : St) (tg : Expr) (R : It → Hp → Prop) (itv : Value) (s2 : Shared) : Prop :=
  ∃ (it : Addr) (fp : List Addr) (tn : Nat → Heap → Prop) (J : It) (H' : Hp), itv = .ref it ∧ Inv X pins σ H' s2 ∧ Turn X.prog X.w X.K tg J fp it tn ∧ tn 0 s2.heap ∧ (∀ b ∈ fp, FpOk X pins H' b) ∧ R J H'
def PI (X : Cx) (tg iter : Expr) (wi : TI) : Prop :=
  ∀ (pins : List (Addr × Obj)) (s : Shared) (σ : St) (H : Hp) (R : It → Hp → Prop), Inv X pins σ H s → wi σ H R →
    wpAny (model X.prog X.w) X.A (eval iter X.env) (fun v s1 => wpAny (model X.prog X.w) X.A (pyIter v) (PIE X pins σ tg R) X.xe s1) X.xe s

/-- the step ahead of the store is nothing for an iterator that keeps no tuple -/
theorem go_of {M : Model} {A : Around} {E : Value → Shared → Prop} {s : Shared} {tg : Expr} {it : Addr} {u : Value} {o : Obj} {n : String} {vs : Array Value} {Q : Unit → Shared → Prop} (ho : s.heap.get? it = some o) (hc : o.cls = .type n) (hd : o.data = .fields vs)
    (hn : ["enumerate", "zip", "dict_itemiterator", "dict_reverseitemiterator", "odict_iterator", "itertools.zip_longest", "itertools.pairwise"].contains n = false) (hQ : Q () s) : wpAny M A (letOwnedTupleGo tg (.ref it) u) Q E s := by
  unfold letOwnedTupleGo
  cases tg <;> first
    | exact wpAny_pure hQ
    | (cases u <;> first
        | exact wpAny_pure hQ
        | (refine wpAny_bind (wpAny_load ho ?_)
           rw [hc, hd]
           show wpAny M A (if (["enumerate", "zip", "dict_itemiterator", "dict_reverseitemiterator", "odict_iterator", "itertools.zip_longest", "itertools.pairwise"].contains n && vs[0]? == some (rawInt _)) = true then _ else _) Q E s
           rw [if_neg (by intro h; rw [hn, Bool.false_and] at h; cases h)]
           exact wpAny_pure hQ))

/-- the list at a, as it stands at each turn (a loop may append to it) -/
def Itl (K : PySem.W.Frag) (a : Addr) : It :=
  ⟨fun i H => ∃ xs x, SqL K H a xs ∧ xs[i]? = some x, fun i H x H' => H' = H ∧ ∀ xs, SqL K H a xs → xs[i]? = some x, fun i H => ∃ xs, SqL K H a xs ∧ xs.length ≤ i⟩
/-- lo, lo + 1, .. (n of them) -/
def Itr (lo : Int) (n : Nat) : It := ⟨fun i _ => i < n, fun i H x H' => H' = H ∧ x = .int (lo + i), fun i _ => n ≤ i⟩
theorem turn_list {P : Program} {w : World} {K : PySem.W.Frag} {tg : Expr} (a it : Addr) : Turn P w K tg (Itl K a) [it] it (fun i h => h.IsListIter it a i) where
  mem := by simp
  obj := fun i h st b hb => by
    have e : b = it := by simpa using hb
    subst e
    obtain ⟨o, e, c, d⟩ := st
    exact ⟨o, e, fun v z => by rw [d] at z; cases z⟩
  keep := fun i h h' st k => st.at fun o e => k it (by simp) o e
  item := by
    intro X hP hw hK hc i pins s σ H E I hf st hg
    subst hP hw hK
    obtain ⟨xs, x, hq, hx⟩ := hg
    obtain ⟨its, rv, p, hz⟩ := I.list hq
    obtain ⟨u, hu, ru⟩ := rv.get hx
    obtain ⟨f0, f1, f2, f3, f4, f5⟩ := hf it (by simp)
    refine wpAny_pyNext_list_item st p.isList (x := u) (by simpa using hu) fun h' st' sb => ?_
    have I1 : Inv X pins σ H { s with heap := h' } := I.turned (t' := s.toks) (fun b o hb e => (sb.2 b hb).trans e) f0 f1 f3 f4 f5
    obtain ⟨o, e, c, d⟩ := id st'
    exact ⟨u, rfl, go_of (s := { s with heap := h' }) e c d (by decide) ⟨x, H, I1, ru, ⟨rfl, fun ys hy => by rw [I.list_inj hy hq]; exact hx⟩, st', fun b hb => (hf b hb).1⟩⟩
  done := by
    intro X hP hw hK hc i pins s σ H E I hf st hg
    subst hP hw hK
    obtain ⟨xs, hq, hx⟩ := hg
    obtain ⟨its, rv, p, hz⟩ := I.list hq
    obtain ⟨f0, f1, f2, f3, f4, f5⟩ := hf it (by simp)
    have hl := rv.length
    exact wpAny_pyNext_list_end (I.ok.hd hc) st p.isList (by simp; omega) fun h' eb => ⟨rfl, I.turned (t' := s.toks) (fun b o hb e => eb b o hb e) f0 f1 f3 f4 f5⟩
  self := fun _ _ _ _ _ st h => wpAny_pyIter_listiter st h
theorem turn_range {P : Program} {w : World} {K : PySem.W.Frag} {tg : Expr} (it : Addr) (lo : Int) (n : Nat) : Turn P w K tg (Itr lo n) [it] it (fun i h => IsRangeIter h it (lo + (i : Nat) * 1) ((n : Int) - (i : Nat)) 1) where
  mem := by simp
  obj := fun i h st b hb => by
    have e : b = it := by simpa using hb
    subst e
    exact ⟨_, st, fun v z => by
      have z' : Data.fields _ = Data.cell v := z
      cases z'⟩
  keep := fun i h h' st k => k it (by simp) _ st
  item := by
    intro X hP hw hK hc i pins s σ H E I hf st hg
    subst hP hw hK
    obtain ⟨f0, f1, f2, f3, f4, f5⟩ := hf it (by simp)
    have W := Walks.range (prog := X.prog) (w := X.w) (I.ok.hd hc) it lo 1 n
    refine W.item i s _ _ hg st fun v h' tk hv st' kk => ?_
    obtain ⟨t, rfl⟩ := hv
    have I1 : Inv X pins σ H { s with heap := h', toks := tk } := I.turned (fun b o hb e => kk b o (by simpa using hb) e) f0 f1 f3 f4 f5
    refine ⟨_, rfl, go_of (s := { s with heap := h', toks := tk }) (n := "range_iterator") st' rfl rfl (by decide) ⟨.int (lo + i), H, I1, ⟨t, ?_⟩, ⟨rfl, rfl⟩, st', fun b hb => (hf b hb).1⟩⟩
    rw [Int.mul_one]
  done := by
    intro X hP hw hK hc i pins s σ H E I hf st hg
    subst hP hw hK
    obtain ⟨f0, f1, f2, f3, f4, f5⟩ := hf it (by simp)
    exact wpAny_pyNext_range_end (I.ok.hd hc) st (by have : n ≤ i := hg; omega) fun h' eb => ⟨rfl, I.turned (t' := s.toks) (fun b o hb e => eb b o hb e) f0 f1 f3 f4 f5⟩
  self := fun _ _ _ _ _ st h => wpAny_pyIter_rangeiter st h
end L2

namespace L2
open PySem PySem.Spec PyProof.Rows
section
variable {X : Cx} {tg : Expr}
def iList (K : PySem.W.Frag) (tl : TE) : TI := fun σ H R => tl σ H fun x H1 => ∃ a, x = .ref a ∧ (∃ xs, SqL K H1 a xs) ∧ R (Itl K a) H1
theorem pi_list {l : Expr} {tl : TE} (hl : PE X l tl) : PI X tg l (iList X.K tl) := by
  intro pins s σ H R I h
  refine thn (hl pins s σ H _ I h) fun v s1 ⟨x, H1, I1, r1, q1⟩ => ?_
  obtain ⟨a, e, ⟨xs, hq⟩, q⟩ := q1
  subst e
  cases r1
  obtain ⟨its, rv, p, hz⟩ := I1.list hq
  refine wpAny_pyIter_list p.isList ?_
  refine ⟨s1.heap.objs.size, [s1.heap.objs.size], _, _, H1, rfl, I1.kept (t' := s1.toks) fun b o e => Heap.get?_push_of_some _ e, turn_list a _, ⟨_, Heap.get?_push_size _ rfl, rfl, rfl⟩, fun b hb => ?_, q⟩
  have e : b = s1.heap.objs.size := by simpa using hb
  subst e
  exact I1.fpOk (Nat.le_refl _) (I1.hok.fresh (Nat.le_refl _))
/-- a range object just made, walked -/
theorem range_it {pins : List (Addr × Obj)} {σ : St} {H : Hp} {s : Shared} {R : It → Hp → Prop} {E : Value → Shared → Prop} {lo hi : Int} {t u v : Tok} {tk : Nat} (I : Inv X pins σ H s) (h1 : -(2 ^ 62) ≤ lo) (h2 : lo < 2 ^ 62) (h3 : -(2 ^ 62) ≤ hi) (h4 : hi < 2 ^ 62)
    (q : R (Itr lo (hi - lo).toNat) H) : wpAny (model X.prog X.w) X.A (pyIter (.ref s.heap.objs.size)) (PIE X pins σ tg R) E { s with heap := s.heap.push { cls := .type "range", data := .fields #[.int lo t, .int hi u, .int 1 v] }, toks := tk } := by
  refine wpAny_pyIter_range (IsRange.new ..) (small_one h1 h2 h3 h4) ?_
  have I1 : Inv X pins σ H { s with heap := s.heap.push { cls := .type "range", data := .fields #[.int lo t, .int hi u, .int 1 v] }, toks := tk } := I.kept fun b o e => Heap.get?_push_of_some _ e
  refine ⟨(s.heap.push { cls := .type "range", data := .fields #[.int lo t, .int hi u, .int 1 v] }).objs.size, [(s.heap.push { cls := .type "range", data := .fields #[.int lo t, .int hi u, .int 1 v] }).objs.size], _, _, H, rfl,
    I1.kept (t' := tk) fun b o e => Heap.get?_push_of_some _ e, turn_range _ lo (hi - lo).toNat, ?_, fun b hb => ?_, q⟩
  · have e1 : lo + ((0 : Nat) : Int) * 1 = lo := by simp
    have e2 : (((hi - lo).toNat : Nat) : Int) - ((0 : Nat) : Int) = Builtin.Range.rangeSize lo hi 1 := by rw [rangeSize_one]; split <;> omega
    show IsRangeIter _ _ (lo + ((0 : Nat) : Int) * 1) ((((hi - lo).toNat : Nat) : Int) - ((0 : Nat) : Int)) 1
    rw [e1, e2]
    exact Heap.get?_push_size _ rfl
  · have e : b = (s.heap.push { cls := .type "range", data := .fields #[.int lo t, .int hi u, .int 1 v] }).objs.size := by simpa using hb
    subst e
    exact I1.fpOk (Nat.le_refl _) (I1.hok.fresh (Nat.le_refl _))
def iRng1 (ta : TA) : TI := fun σ H R => ta σ H fun vs H1 => ∃ j : Int, vs = [.int j] ∧ -(2 ^ 62) ≤ j ∧ j < 2 ^ 62 ∧ R (Itr 0 j.toNat) H1
theorem pi_range1 {a : Expr} {ta : TA} {p pos : Pos} (hg : Gl X "range") (hm : X.mg "range" = none) (ha : PA X [a] ta) (hs : starEach [a] X.env = [(false, eval a X.env)] := by rfl) : PI X tg (.Call (.Name "range" p) [a] [] pos) (iRng1 ta) := by
  intro pins s σ H R I h
  refine Call_ (ld_blt I hg hm boot_range (PyProof.Rows.callWith_type1 (thn (ha pos pins s σ H _ I h) fun us s1 ⟨vs, H1, I1, r1, q1⟩ => ?_) hs rfl))
  obtain ⟨j, e, q1, q2, q⟩ := q1
  subst e
  cases r1 with
  | cons r rr =>
    cases rr
    obtain ⟨t, rfl⟩ := r
    exact call_range_1 (range_it I1 (by omega) (by omega) q1 q2 (by simpa using q))

/-! ### for -/
/-- W: the invariant by the turn and a measure; N: what the body is to reach -/
def tFor (wi : TI) (g : TG) (tb : TS) : TS := fun D σ H => wi σ H fun J H1 => ∃ W : Nat → Nat → St → Hp → Prop, (∃ m, W 0 m σ H1) ∧ ∀ i m σ H, W i m σ H →
  (J.stop i H ∧ D.nx σ H) ∨ (J.go i H ∧ ∃ N : St → Hp → Prop, (∀ σ' H', N σ' H' → ∃ m', m' < m ∧ W (i + 1) m' σ' H') ∧ ∀ x H', J.yld i H x H' → g x σ H' fun σ2 H2 => tb { D with nx := N, ct := N, bk := D.nx } σ2 H2)
/-- the records at fp as they stand -/
def pinsAt (fp : List Addr) (h : Heap) : List (Addr × Obj) := fp.filterMap fun b => (h.get? b).map fun o => (b, o)
theorem mem_pinsAt {fp : List Addr} {h : Heap} {b : Addr} {o : Obj} (hb : b ∈ fp) (e : h.get? b = some o) : (b, o) ∈ pinsAt fp h := List.mem_filterMap.mpr ⟨b, hb, by rw [e]; rfl⟩
theorem of_pinsAt {fp : List Addr} {h : Heap} {p : Addr × Obj} (hp : p ∈ pinsAt fp h) : p.1 ∈ fp ∧ h.get? p.1 = some p.2 := by
  obtain ⟨b, hb, e⟩ := List.mem_filterMap.mp hp
  cases q : h.get? b with
  | none => rw [q] at e; cases e
  | some o =>
    rw [q] at e
    have e' : (b, o) = p := Option.some.inj e
    subst e'
    exact ⟨hb, q⟩
theorem Inv.pinned {pins : List (Addr × Obj)} {σ : St} {H : Hp} {s : Shared} {fp : List Addr} (I : Inv X pins σ H s) (hf : ∀ b ∈ fp, FpOk X pins H b) (ho : ∀ b ∈ fp, ∃ o, s.heap.get? b = some o ∧ ∀ v, o.data ≠ .cell v) : Inv X (pins ++ pinsAt fp s.heap) σ H s :=
  I.pins_of fun p hp => (List.mem_append.mp hp).elim (fun z => I.pin p (List.mem_append_right _ z)) fun z => by
    obtain ⟨hb, e⟩ := of_pinsAt z
    obtain ⟨f0, f1, f2, _⟩ := hf p.1 hb
    obtain ⟨o, e', d⟩ := ho p.1 hb
    rw [e] at e'; cases e'
    exact ⟨e, f0, f1, f2, d⟩
theorem Inv.unpinned {pins pl : List (Addr × Obj)} {σ : St} {H : Hp} {s : Shared} (I : Inv X (pins ++ pl) σ H s) : Inv X pins σ H s := I.pins_of fun p hp => I.pin p (List.mem_append_right _ (List.mem_append_left _ hp))
theorem ps_for {iter : Expr} {body : List Stmt} {wi : TI} {g : TG} {tb : TS} {pos : Pos} (hp : PassesOwn (model X.prog X.w) X.A X.env X.xe) (hc : X.calm = true) (hi : PI X tg iter wi) (hg : PG X tg g) (hb : PSs X body tb)
    (hs : ∀ x, foldedSetIterable iter X.env x = pure x := by intro _; rfl) : PS X (.For tg iter body [] pos) (tFor wi g tb) := by
  intro pins s σ H D I h
  refine wpAny_For (thn (hi pins s σ H _ I h) fun v s1 h1 => thn h1 fun itv s2 h2 => ?_) hs
  obtain ⟨it, fp, tn, J, H2, e, I2, T, st2, f2, W, ⟨m0, w0⟩, turn⟩ := h2
  subst e
  -- what stays true of the iterator's objects through the loop
  have stat : ∀ {H' : Hp}, (∀ b ∈ fp, H' b = none) → ∀ b ∈ fp, FpOk X pins H' b := fun hn b hb => ⟨hn b hb, (f2 b hb).2⟩
  refine codeAny_forLoop_any (fun n s' => ∃ i σ' H', Inv X pins σ' H' s' ∧ tn i s'.heap ∧ (∀ b ∈ fp, H' b = none) ∧ W i n σ' H') ?_ m0 ⟨0, σ, H2, I2, st2, fun b hb => (f2 b hb).1, w0⟩
  rintro n s3 ⟨i, σ3, H3, I3, st3, fr3, w3⟩
  rcases turn i n σ3 H3 w3 with ⟨stop, qn⟩ | ⟨go, N, hN, step⟩
  · refine wpAny_passesOwn hp (thn (T.done X rfl rfl rfl hc i pins s3 σ3 H3 X.xe I3 (stat fr3) st3 stop) fun r s4 ⟨hr, I4⟩ => ?_)
    subst hr
    exact wpAny_execs_nil ⟨σ3, H3, I4, qn⟩
  · refine wpAny_passesOwn hp (thn (T.item X rfl rfl rfl hc i pins s3 σ3 H3 X.xe I3 (stat fr3) st3 go) fun r s4 ⟨u, hr, h4⟩ => ?_)
    subst hr
    refine wpAny_passesOwn hp (thn h4 fun _ s5 ⟨x, H5, I5, r5, y5, st5, fr5⟩ => ?_)
    have I5' := I5.pinned (stat fr5) (T.obj _ _ st5)
    refine wpAny_passesOwn hp (thn (hg _ s5 σ3 H5 x u _ I5' r5 (step x H5 y5)) fun _ s6 ⟨σ6, H6, I6, q6⟩ => ?_)
    refine wpAny_passesOwn hp (thn (hb _ s6 σ6 H6 _ I6 q6) fun f s7 q7 => ?_)
    have again : ∀ {σ7 : St} {H7 : Hp}, Inv X (pins ++ pinsAt fp s5.heap) σ7 H7 s7 → N σ7 H7 → ∃ m, m < n ∧ ∃ i σ' H', Inv X pins σ' H' s7 ∧ tn i s7.heap ∧ (∀ b ∈ fp, H' b = none) ∧ W i m σ' H' := fun {σ7 H7} I7 n7 => by
      obtain ⟨m', hm, w7⟩ := hN σ7 H7 n7
      refine ⟨m', hm, i + 1, σ7, H7, I7.unpinned, T.keep _ _ _ st5 fun b hb o e => (I7.pin (b, o) (List.mem_append_right _ (List.mem_append_right _ (mem_pinsAt hb e)))).1, fun b hb => ?_, w7⟩
      obtain ⟨o, e, d⟩ := T.obj _ _ st5 b hb
      exact (I7.pin (b, o) (List.mem_append_right _ (List.mem_append_right _ (mem_pinsAt hb e)))).2.1
    cases f with
    | next => obtain ⟨σ7, H7, I7, n7⟩ := q7; exact again I7 n7
    | cont => obtain ⟨σ7, H7, I7, n7⟩ := q7; exact again I7 n7
    | brk => obtain ⟨σ7, H7, I7, q7⟩ := q7; exact ⟨σ7, H7, I7.unpinned, q7⟩
    | ret v => obtain ⟨x7, σ7, H7, I7, r7, q7⟩ := q7; exact ⟨x7, σ7, H7, I7.unpinned, r7, q7⟩
end

/-! ### the forms one uses -/
/-- over a list that the body leaves as it is -/
theorem for_list {K : PySem.W.Frag} {a : Addr} {xs : List V} {g : TG} {tb : TS} {D : Ends} {σ : St} {H : Hp} (Pv : Nat → St → Hp → Prop) (h0 : Pv 0 σ H) (hl : ∀ i σ H, i ≤ xs.length → Pv i σ H → SqL K H a xs)
    (hs : ∀ i x σ H, xs[i]? = some x → Pv i σ H → g x σ H fun σ2 H2 => tb { D with nx := Pv (i + 1), ct := Pv (i + 1), bk := D.nx } σ2 H2) (hd : ∀ σ H, Pv xs.length σ H → D.nx σ H) :
    ∃ W : Nat → Nat → St → Hp → Prop, (∃ m, W 0 m σ H) ∧ ∀ i m σ H, W i m σ H →
      ((Itl K a).stop i H ∧ D.nx σ H) ∨ ((Itl K a).go i H ∧ ∃ N : St → Hp → Prop, (∀ σ' H', N σ' H' → ∃ m', m' < m ∧ W (i + 1) m' σ' H') ∧ ∀ x H', (Itl K a).yld i H x H' → g x σ H' fun σ2 H2 => tb { D with nx := N, ct := N, bk := D.nx } σ2 H2) := by
  refine ⟨fun i m σ H => m = xs.length - i ∧ i ≤ xs.length ∧ Pv i σ H, ⟨xs.length, by simp, Nat.zero_le _, h0⟩, ?_⟩
  rintro i m σ H ⟨rfl, hi, p⟩
  have q := hl i σ H hi p
  by_cases hlt : i < xs.length
  · refine .inr ⟨⟨xs, xs[i], q, by simp [hlt]⟩, Pv (i + 1), fun σ' H' p' => ⟨xs.length - (i + 1), by omega, rfl, hlt, p'⟩, fun x H' y => ?_⟩
    obtain ⟨e, y⟩ := y
    subst e
    exact hs i x σ _ (y xs q) p
  · have e : i = xs.length := by omega
    subst e
    exact .inl ⟨⟨xs, q, Nat.le_refl _⟩, hd σ H p⟩
theorem for_range {lo : Int} {n : Nat} {g : TG} {tb : TS} {D : Ends} {σ : St} {H : Hp} (Pv : Nat → St → Hp → Prop) (h0 : Pv 0 σ H)
    (hs : ∀ i σ H, i < n → Pv i σ H → g (.int (lo + i)) σ H fun σ2 H2 => tb { D with nx := Pv (i + 1), ct := Pv (i + 1), bk := D.nx } σ2 H2) (hd : ∀ σ H, Pv n σ H → D.nx σ H) :
    ∃ W : Nat → Nat → St → Hp → Prop, (∃ m, W 0 m σ H) ∧ ∀ i m σ H, W i m σ H →
      ((Itr lo n).stop i H ∧ D.nx σ H) ∨ ((Itr lo n).go i H ∧ ∃ N : St → Hp → Prop, (∀ σ' H', N σ' H' → ∃ m', m' < m ∧ W (i + 1) m' σ' H') ∧ ∀ x H', (Itr lo n).yld i H x H' → g x σ H' fun σ2 H2 => tb { D with nx := N, ct := N, bk := D.nx } σ2 H2) := by
  refine ⟨fun i m σ H => m = n - i ∧ i ≤ n ∧ Pv i σ H, ⟨n, by simp, Nat.zero_le _, h0⟩, ?_⟩
  rintro i m σ H ⟨rfl, hi, p⟩
  by_cases hlt : i < n
  · refine .inr ⟨hlt, Pv (i + 1), fun σ' H' p' => ⟨n - (i + 1), by omega, rfl, hlt, p'⟩, fun x H' y => ?_⟩
    obtain ⟨e, y⟩ := y
    subst e y
    exact hs i σ _ hlt p
  · have e : i = n := by omega
    subst e
    exact .inl ⟨Nat.le_refl _, hd σ H p⟩
/-- while, by a word and a measure of the state -/
theorem while_by {c : TT} {tb : TS} {D : Ends} {σ : St} {H : Hp} (Pv : St → Hp → Prop) (μ : St → Hp → Nat) (h0 : Pv σ H)
    (hs : ∀ σ H, Pv σ H → c σ H fun b H1 => if b = true then tb { D with nx := fun σ' H' => Pv σ' H' ∧ μ σ' H' < μ σ H, ct := fun σ' H' => Pv σ' H' ∧ μ σ' H' < μ σ H, bk := D.nx } σ H1 else D.nx σ H1)
    (mono : ∀ σ H Q Q', (∀ b H1, Q b H1 → Q' b H1) → c σ H Q → c σ H Q') : tWhile c tb D σ H := by
  refine ⟨fun m σ H => m = μ σ H ∧ Pv σ H, ⟨_, rfl, h0⟩, ?_⟩
  rintro m σ H ⟨rfl, p⟩
  refine mono σ H _ _ (fun b H1 q => ?_) (hs σ H p)
  cases b with
  | true => exact ⟨_, fun σ' H' ⟨p', l⟩ => ⟨_, l, rfl, p'⟩, q⟩
  | false => exact q
end L2

namespace L2
open PySem PySem.Spec PyProof.Rows

abbrev R2 := V → V → Hp → VK → Prop
/-- a two-place operation on values: f is binaryOp op, inplaceOp op or compareOp op -/
def OpR (X : Cx) (f : Value → Value → Sem Value) (r : R2) : Prop :=
  ∀ (pins : List (Addr × Obj)) (s : Shared) (σ : St) (H : Hp) (x y : V) (v u : Value) (Q : VK), Inv X pins σ H s → RelV x v → RelV y u → r x y H Q →
    wpAny (model X.prog X.w) X.A (f v u) (EP X pins σ Q) X.xe s
/-- a one-place operation -/
def UnR (X : Cx) (f : Value → Sem Value) (r : V → Hp → VK → Prop) : Prop :=
  ∀ (pins : List (Addr × Obj)) (s : Shared) (σ : St) (H : Hp) (x : V) (v : Value) (Q : VK), Inv X pins σ H s → RelV x v → r x H Q →
    wpAny (model X.prog X.w) X.A (f v) (EP X pins σ Q) X.xe s
/-- a call of a value that is known (a builtin, a type) with values -/
def CallR (X : Cx) (f : Value) (r : List V → Hp → VK → Prop) : Prop :=
  ∀ (pins : List (Addr × Obj)) (s : Shared) (σ : St) (H : Hp) (xs : List V) (us : List Value) (Q : VK), Inv X pins σ H s → Vals xs us → r xs H Q →
    wpAny (model X.prog X.w) X.A (call f us) (EP X pins σ Q) X.xe s
/-- a value's truth -/
def TruR (X : Cx) (r : V → Hp → (Bool → Hp → Prop) → Prop) : Prop :=
  ∀ (pins : List (Addr × Obj)) (s : Shared) (σ : St) (H : Hp) (x : V) (v : Value) (Q : Bool → Hp → Prop), Inv X pins σ H s → RelV x v → r x H Q →
    wpAny (model X.prog X.w) X.A (truthy v) (TP X pins σ Q) X.xe s

def tOp (r : R2) (ta tb : TE) : TE := fun σ H Q => ta σ H fun x H1 => tb σ H1 fun y H2 => r x y H2 Q
def tUn (r : V → Hp → VK → Prop) (ta : TE) : TE := fun σ H Q => ta σ H fun x H1 => r x H1 Q
/-- ints in, under C, and a value out -/
def rI (C : Int → Int → Prop) (g : Int → Int → V) : R2 := fun x y H Q => ∃ i j, x = .int i ∧ y = .int j ∧ C i j ∧ Q (g i j) H
def rI0 (g : Int → Int → V) : R2 := fun x y H Q => ∃ i j, x = .int i ∧ y = .int j ∧ Q (g i j) H
def rU (g : Int → V) : V → Hp → VK → Prop := fun x H Q => ∃ i, x = .int i ∧ Q (g i) H

section
variable {X : Cx} {a b c : Expr} {ta tb tc : TE} {pos : Pos}

theorem binT (ha : PE X a ta) (hb : PE X b tb) {pins : List (Addr × Obj)} {s : Shared} {σ : St} {H : Hp} {R : V → V → Hp → Prop} (I : Inv X pins σ H s)
    (h : ta σ H fun x H1 => tb σ H1 fun y H2 => R x y H2) {Q : Value → Shared → Prop} {f : Value → Value → Sem Value}
    (hf : ∀ v u s2 x y H2, Inv X pins σ H2 s2 → RelV x v → RelV y u → R x y H2 → wpAny (model X.prog X.w) X.A (f v u) Q X.xe s2) :
    wpAny (model X.prog X.w) X.A (eval a X.env) (fun v s₁ => wpAny (model X.prog X.w) X.A (eval b X.env) (fun u s₂ => wpAny (model X.prog X.w) X.A (f v u) Q X.xe s₂) X.xe s₁) X.xe s := by
  refine thn (ha pins s σ H _ I h) fun v s1 ⟨x, H1, I1, r1, q1⟩ => ?_
  refine thn (hb pins s1 σ H1 _ I1 q1) fun u s2 ⟨y, H2, I2, r2, q2⟩ => ?_
  exact hf v u s2 x y H2 I2 r1 r2 q2

theorem pe_op {op : Operator} {r : R2} (ho : OpR X (binaryOp op) r) (ha : PE X a ta) (hb : PE X b tb) : PE X (.BinOp a op b pos) (tOp r ta tb) := by
  intro pins s σ H Q I h
  exact wpAny_BinOp (binT ha hb I h fun v u s2 x y H2 I2 rx ry q => ho pins s2 σ H2 x y v u Q I2 rx ry q)
theorem pe_un {op : UnaryOp} {r : V → Hp → VK → Prop} (ho : UnR X (unaryOp op) r) (ha : PE X a ta) : PE X (.UnaryOp op a pos) (tUn r ta) := by
  intro pins s σ H Q I h
  exact UnaryOp_ (thn (ha pins s σ H _ I h) fun v s1 ⟨x, H1, I1, r1, q1⟩ => ho pins s1 σ H1 x v Q I1 r1 q1)

/-! ### ints -/
theorem opI {f : Value → Value → Sem Value} {C : Int → Int → Prop} {g : Int → Int → Int}
    (rule : ∀ (i j : Int) (t u : Tok) (s : Shared) (Q : Value → Shared → Prop) (E : Value → Shared → Prop), C i j → Q (.int (g i j) s.toks) { s with toks := s.toks + 1 } → wpAny (model X.prog X.w) X.A (f (.int i t) (.int j u)) Q E s) :
    OpR X f (rI C fun i j => .int (g i j)) := by
  intro pins s σ H x y v u Q I rx ry h
  obtain ⟨i, j, rfl, rfl, hc, q⟩ := h
  obtain ⟨t, rfl⟩ := rx
  obtain ⟨t', rfl⟩ := ry
  exact rule i j t t' s _ _ hc ⟨.int (g i j), H, I.tok _, ⟨_, rfl⟩, q⟩
theorem opI0 {f : Value → Value → Sem Value} {g : Int → Int → Int}
    (rule : ∀ (i j : Int) (t u : Tok) (s : Shared) (Q : Value → Shared → Prop) (E : Value → Shared → Prop), Q (.int (g i j) s.toks) { s with toks := s.toks + 1 } → wpAny (model X.prog X.w) X.A (f (.int i t) (.int j u)) Q E s) :
    OpR X f (rI0 fun i j => .int (g i j)) := by
  intro pins s σ H x y v u Q I rx ry h
  obtain ⟨i, j, rfl, rfl, q⟩ := h
  obtain ⟨t, rfl⟩ := rx
  obtain ⟨t', rfl⟩ := ry
  exact rule i j t t' s _ _ ⟨.int (g i j), H, I.tok _, ⟨_, rfl⟩, q⟩
theorem opB0 {f : Value → Value → Sem Value} {g : Int → Int → Bool}
    (rule : ∀ (i j : Int) (t u : Tok) (s : Shared) (Q : Value → Shared → Prop) (E : Value → Shared → Prop), Q (.bool (g i j)) s → wpAny (model X.prog X.w) X.A (f (.int i t) (.int j u)) Q E s) :
    OpR X f (rI0 fun i j => .bl (g i j)) := by
  intro pins s σ H x y v u Q I rx ry h
  obtain ⟨i, j, rfl, rfl, q⟩ := h
  obtain ⟨t, rfl⟩ := rx
  obtain ⟨t', rfl⟩ := ry
  exact rule i j t t' s _ _ ⟨.bl (g i j), H, I, rfl, q⟩

def CDiv (i j : Int) : Prop := 0 < j ∧ j < 1073741824
def CPow (i j : Int) : Prop := 0 ≤ j ∧ j ≤ 1000000 ∧ i.natAbs < 2 ^ 64
def CMul (i j : Int) : Prop := (-(2 ^ 64) < i ∧ i < 2 ^ 64) ∨ (-(2 ^ 64) < j ∧ j < 2 ^ 64)
theorem CMul.ok {i j : Int} (h : CMul i j) : IntMulOk i j := by
  rcases h with ⟨h1, h2⟩ | ⟨h1, h2⟩
  · exact .of_left (intBits_le_64 h1 h2)
  · exact .of_right (intBits_le_64 h1 h2)
theorem two_pow_nn (k : Nat) : (0 : Int) ≤ 2 ^ k := by
  rw [two_pow_cast]
  exact Int.natCast_nonneg _

theorem op_add : OpR X (binaryOp .Add) (rI0 fun i j => .int (i + j)) := opI0 fun _ _ _ _ _ _ _ q => add_int q
theorem op_sub : OpR X (binaryOp .Sub) (rI0 fun i j => .int (i - j)) := opI0 fun _ _ _ _ _ _ _ q => sub_int q
theorem op_mul : OpR X (binaryOp .Mult) (rI CMul fun i j => .int (i * j)) := opI fun _ _ _ _ _ _ _ hc q => mul_int q hc.ok
/-- // by a positive divisor -/
theorem op_fdiv : OpR X (binaryOp .FloorDiv) (rI CDiv fun i j => .int (i / j)) := opI fun i j _ _ _ _ _ hc q => by
  have h1 : (0 : Int) < j := hc.1
  have h2 : j < 1073741824 := hc.2
  exact floordiv_int (by omega) (by rw [Int.fdiv_eq_ediv_of_nonneg i (by omega)]; exact q) (.inl (PyProof.noPylong_small (by omega)))
/-- % by a positive divisor of any size -/
theorem op_mod : OpR X (binaryOp .Mod) (rI (fun _ j => 0 < j) fun i j => .int (i % j)) := opI fun i j _ _ _ _ _ hc q => by
  have h1 : (0 : Int) < j := hc
  exact mod_int' (by omega) (by rw [Int.fmod_eq_emod_of_nonneg i (by omega)]; exact q)
theorem op_shl : OpR X (binaryOp .LShift) (rI CPow fun i j => .int (i * 2 ^ j.toNat)) := opI fun _ _ _ _ _ _ _ hc q => lshift_int_small hc.1 hc.2.1 hc.2.2 q
theorem op_shr : OpR X (binaryOp .RShift) (rI (fun _ j => 0 ≤ j) fun i j => .int (i / 2 ^ j.toNat)) := opI fun i j _ _ _ _ _ hc q =>
  rshift_int hc (by rw [Int.fdiv_eq_ediv_of_nonneg i (two_pow_nn _)]; exact q)
theorem op_and : OpR X (binaryOp .BitAnd) (rI0 fun i j => .int (Builtin.bitAnd i j)) := opI0 fun _ _ _ _ _ _ _ q => and_int q
theorem op_or : OpR X (binaryOp .BitOr) (rI0 fun i j => .int (Builtin.bitOr i j)) := opI0 fun _ _ _ _ _ _ _ q => or_int q


theorem unI {f : Value → Sem Value} {g : Int → Int}
    (rule : ∀ (i : Int) (t : Tok) (s : Shared) (Q : Value → Shared → Prop) (E : Value → Shared → Prop), Q (.int (g i) s.toks) { s with toks := s.toks + 1 } → wpAny (model X.prog X.w) X.A (f (.int i t)) Q E s) :
    UnR X f (rU fun i => .int (g i)) := by
  intro pins s σ H x v Q I rx h
  obtain ⟨i, rfl, q⟩ := h
  obtain ⟨t, rfl⟩ := rx
  exact rule i t s _ _ ⟨.int (g i), H, I.tok _, ⟨_, rfl⟩, q⟩
theorem un_neg : UnR X (unaryOp .USub) (rU fun i => .int (-i)) := unI fun _ _ _ _ _ q => neg_int q

/-! ### bools among ints: n += (a < b) -/
end

/-! ### comparisons -/
/-- the scalars that == tells apart as data does -/
def scal : V → V → Bool
  | .non, .non => true | .non, .int _ => true | .int _, .non => true | .non, .bl _ => true | .bl _, .non => true | .non, .str _ => true | .str _, .non => true
  | .int _, .int _ => true | .bl _, .bl _ => true | .str _, .str _ => true | .byt _, .byt _ => true
  | .int _, .str _ => true | .str _, .int _ => true | .bl _, .str _ => true | .str _, .bl _ => true
  | _, _ => false
def rEq : R2 := fun x y H Q => scal x y = true ∧ Q (.bl (decide (x = y))) H
def rNe : R2 := fun x y H Q => scal x y = true ∧ Q (.bl (!decide (x = y))) H

theorem dec_int {i j : Int} : decide (V.int i = V.int j) = (i == j) := by
  rw [Bool.eq_iff_iff]
  simp
theorem dec_bl {i j : Bool} : decide (V.bl i = V.bl j) = (i == j) := by
  rw [Bool.eq_iff_iff]
  simp
theorem dec_str {i j : Str} : decide (V.str i = V.str j) = (i == j) := by
  rw [Bool.eq_iff_iff]
  simp
theorem dec_byt {i j : Array UInt8} : decide (V.byt i = V.byt j) = (i.toList == j.toList) := by
  rw [Bool.eq_iff_iff]
  cases i
  cases j
  simp

section
variable {X : Cx} {a b c : Expr} {ta tb tc : TE} {pos : Pos}
theorem fin_bl {pins : List (Addr × Obj)} {σ : St} {H : Hp} {s : Shared} {Q : VK} {k k' : Bool} (I : Inv X pins σ H s) (q : Q (.bl k) H) (e : k = k') : EP X pins σ Q (.bool k') s := by
  subst e
  exact ⟨.bl k, H, I, rfl, q⟩
theorem op_eq : OpR X (compareOp .Eq) rEq := by
  intro pins s σ H x y v u Q I rx ry h
  obtain ⟨hs, q⟩ := h
  cases x with
  | non =>
    cases rx
    cases y with
    | non => cases ry; exact PySem.EqNone.eq_none_none (fin_bl I q (by simp))
    | bl j => cases ry; exact PySem.EqNone.eq_none_bool (fin_bl I q (by simp))
    | int j => obtain ⟨t', rfl⟩ := ry; exact PySem.EqNone.eq_none_int (fin_bl I q (by simp))
    | str j => obtain ⟨t', rfl⟩ := ry; exact PySem.EqNone.eq_none_str (fin_bl I q (by simp))
    | _ => exact absurd (show false = true from hs) Bool.false_ne_true
  | bl i =>
    cases rx
    cases y with
    | non => cases ry; exact PySem.EqNone.eq_bool_none (fin_bl I q (by simp))
    | bl j => cases ry; exact eq_bool (fin_bl I q dec_bl)
    | str j => obtain ⟨t', rfl⟩ := ry; exact PySem.EqMixed.eq_bool_str (fin_bl I q (by simp))
    | _ => exact absurd (show false = true from hs) Bool.false_ne_true
  | int i =>
    obtain ⟨t, rfl⟩ := rx
    cases y with
    | non => cases ry; exact PySem.EqNone.eq_int_none (fin_bl I q (by simp))
    | int j => obtain ⟨t', rfl⟩ := ry; exact eq_int (fin_bl I q dec_int)
    | str j => obtain ⟨t', rfl⟩ := ry; exact PySem.EqMixed.eq_int_str (fin_bl I q (by simp))
    | _ => exact absurd (show false = true from hs) Bool.false_ne_true
  | str i =>
    obtain ⟨t, rfl⟩ := rx
    cases y with
    | non => cases ry; exact PySem.EqNone.eq_str_none (fin_bl I q (by simp))
    | bl j => cases ry; exact PySem.EqMixed.eq_str_bool (fin_bl I q (by simp))
    | int j => obtain ⟨t', rfl⟩ := ry; exact PySem.EqMixed.eq_str_int (fin_bl I q (by simp))
    | str j => obtain ⟨t', rfl⟩ := ry; exact eq_str (fin_bl I q dec_str)
    | _ => exact absurd (show false = true from hs) Bool.false_ne_true
  | byt i =>
    obtain ⟨t, rfl⟩ := rx
    cases y with
    | byt j => obtain ⟨t', rfl⟩ := ry; exact PySem.W.eq_bytes (fin_bl I q dec_byt)
    | _ => exact absurd (show false = true from hs) Bool.false_ne_true
  | _ => cases y <;> exact absurd (show false = true from hs) Bool.false_ne_true
theorem op_ne : OpR X (compareOp .NotEq) rNe := by
  intro pins s σ H x y v u Q I rx ry h
  obtain ⟨hs, q⟩ := h
  cases x with
  | non =>
    cases rx
    cases y with
    | non => cases ry; exact PySem.EqNone.ne_none_none (fin_bl I q (by simp))
    | bl j => cases ry; exact PySem.EqNone.ne_none_bool (fin_bl I q (by simp))
    | int j => obtain ⟨t', rfl⟩ := ry; exact PySem.EqNone.ne_none_int (fin_bl I q (by simp))
    | str j => obtain ⟨t', rfl⟩ := ry; exact PySem.EqNone.ne_none_str (fin_bl I q (by simp))
    | _ => exact absurd (show false = true from hs) Bool.false_ne_true
  | bl i =>
    cases rx
    cases y with
    | non => cases ry; exact PySem.EqNone.ne_bool_none (fin_bl I q (by simp))
    | bl j => cases ry; exact ne_bool (fin_bl I q (congrArg not dec_bl))
    | str j => obtain ⟨t', rfl⟩ := ry; exact PySem.EqMixed.ne_bool_str (fin_bl I q (by simp))
    | _ => exact absurd (show false = true from hs) Bool.false_ne_true
  | int i =>
    obtain ⟨t, rfl⟩ := rx
    cases y with
    | non => cases ry; exact PySem.EqNone.ne_int_none (fin_bl I q (by simp))
    | int j => obtain ⟨t', rfl⟩ := ry; exact ne_int (fin_bl I q (congrArg not dec_int))
    | str j => obtain ⟨t', rfl⟩ := ry; exact PySem.EqMixed.ne_int_str (fin_bl I q (by simp))
    | _ => exact absurd (show false = true from hs) Bool.false_ne_true
  | str i =>
    obtain ⟨t, rfl⟩ := rx
    cases y with
    | non => cases ry; exact PySem.EqNone.ne_str_none (fin_bl I q (by simp))
    | bl j => cases ry; exact PySem.EqMixed.ne_str_bool (fin_bl I q (by simp))
    | int j => obtain ⟨t', rfl⟩ := ry; exact PySem.EqMixed.ne_str_int (fin_bl I q (by simp))
    | str j => obtain ⟨t', rfl⟩ := ry; exact ne_str (fin_bl I q (congrArg not dec_str))
    | _ => exact absurd (show false = true from hs) Bool.false_ne_true
  | byt i =>
    obtain ⟨t, rfl⟩ := rx
    cases y with
    | byt j => obtain ⟨t', rfl⟩ := ry; exact PySem.W.ne_bytes (fin_bl I q (congrArg not dec_byt))
    | _ => exact absurd (show false = true from hs) Bool.false_ne_true
  | _ => cases y <;> exact absurd (show false = true from hs) Bool.false_ne_true

theorem op_lt : OpR X (compareOp .Lt) (rI0 fun i j => .bl (decide (i < j))) := opB0 fun _ _ _ _ _ _ _ q => lt_int q
theorem op_le : OpR X (compareOp .LtE) (rI0 fun i j => .bl (decide (i ≤ j))) := opB0 fun _ _ _ _ _ _ _ q => le_int q
theorem op_gt : OpR X (compareOp .Gt) (rI0 fun i j => .bl (decide (j < i))) := opB0 fun _ _ _ _ _ _ _ q => gt_int q



/-- two rules for one operation: by cases -/
theorem OpR.or {f : Value → Value → Sem Value} {r r' : R2} (h : OpR X f r) (h' : OpR X f r') : OpR X f (fun x y H Q => r x y H Q ∨ r' x y H Q) := by
  intro pins s σ H x y v u Q I rx ry q
  rcases q with q | q
  · exact h pins s σ H x y v u Q I rx ry q
  · exact h' pins s σ H x y v u Q I rx ry q

theorem nomark (b : Expr) {op : CmpOp} (h : op ≠ .In := by decide) (h2 : op ≠ .NotIn := by decide) : behindInMarks op b = false := by
  have e1 : (op == CmpOp.In) = false := by cases op <;> first | rfl | exact absurd rfl h
  have e2 : (op == CmpOp.NotIn) = false := by cases op <;> first | rfl | exact absurd rfl h2
  cases b <;> simp [behindInMarks, e1, e2]
/-- a comparison as a value; hm: nomark b, or (for in, not in) by with_unfolding_all rfl -/
theorem pe_cmpR {op : CmpOp} {r : R2} (ho : OpR X (compareOp op) r) (ha : PE X a ta) (hb : PE X b tb) (hm : behindInMarks op b = false) : PE X (.Compare a [op] [b] pos) (tOp r ta tb) := by
  intro pins s σ H Q I h
  exact wpAny_Compare1 (binT ha hb I h fun v u s2 x y H2 I2 rx ry q => ho pins s2 σ H2 x y v u Q I2 rx ry q) hm
/-- a reading of a value as a test -/
def tTest (t : TE) : TT := fun σ H Q => t σ H fun x H' => ∃ k, x = .bl k ∧ Q k H'
theorem pt_cmpR {op : CmpOp} {r : R2} (ho : OpR X (compareOp op) r) (ha : PE X a ta) (hb : PE X b tb) (hm : behindInMarks op b = false) : PT X (.Compare a [op] [b] pos) (tTest (tOp r ta tb)) := by
  intro pins s σ H Q I h
  refine wpAny_isTrue_Compare1 (thn (ha pins s σ H _ I h) fun v s1 ⟨x, H1, I1, r1, q1⟩ => thn (hb pins s1 σ H1 _ I1 q1) fun u s2 ⟨y, H2, I2, r2, q2⟩ =>
    thn (ho pins s2 σ H2 x y v u _ I2 r1 r2 q2) fun c s3 ⟨z, H3, I3, r3, k, e, q3⟩ => ?_) hm
  subst e
  cases r3
  exact wpAny_truthy_bool ⟨H3, I3, q3⟩
/-- a op1 b op2 c -/
def tChain (r r' : R2) (ta tb tc : TE) : TE := fun σ H Q => ta σ H fun x H1 => tb σ H1 fun y H2 => r x y H2 fun z H3 => ∃ k, z = .bl k ∧
  (if k = true then tc σ H3 fun w' H4 => r' y w' H4 Q else Q (.bl false) H3)
theorem pe_chain {op op' : CmpOp} {r r' : R2} (ho : OpR X (compareOp op) r) (ho' : OpR X (compareOp op') r') (ha : PE X a ta) (hb : PE X b tb) (hc : PE X c tc)
    (hm : lastMarks [op, op'] [b, c] = false := by with_unfolding_all rfl) : PE X (.Compare a [op, op'] [b, c] pos) (tChain r r' ta tb tc) := by
  intro pins s σ H Q I h
  refine Compare_chain (thn (ha pins s σ H _ I h) fun v s1 ⟨x, H1, I1, r1, q1⟩ => chain_link (thn (hb pins s1 σ H1 _ I1 q1) fun u s2 ⟨y, H2, I2, r2, q2⟩ =>
    thn (ho pins s2 σ H2 x y v u _ I2 r1 r2 q2) fun d s3 ⟨z, H3, I3, r3, k, e, q3⟩ => ?_)) hm
  subst e
  cases r3
  refine wpAny_truthy_bool ?_
  cases k with
  | false => exact ite_ff ⟨.bl false, H3, I3, rfl, q3⟩
  | true => exact ite_tt (chain_last (thn (hc pins s3 σ H3 _ I3 q3) fun w' s4 ⟨z', H4, I4, r4, q4⟩ => ho' pins s4 σ H4 y z' u w' Q I4 r2 r4 q4))

/-! ### truth -/
/-- a value's truth by the abstract heap -/
def TruV (K : PySem.W.Frag) (x : V) (H : Hp) (k : Bool) : Prop :=
  match x with
  | .non => k = false
  | .bl b => k = b
  | .int i => k = (i != 0)
  | .str y => y.length ≤ sizeLine ∧ k = ((y.length : Int) != 0)
  | .byt y => y.size ≤ sizeLine ∧ k = ((y.size : Int) != 0)
  | .ref p => (∃ xs, SqL K H p xs ∧ k = !xs.isEmpty) ∨ (∃ xs, SqT K H p xs ∧ k = !xs.isEmpty) ∨ ∃ kvs, H p = some (.dK kvs) ∧ k = !kvs.isEmpty
  | _ => False
theorem isEmpty_kv {κ : Type} {kvs : List (κ × V)} {vs : List (κ × Value)} (r : KV kvs vs) : (!vs.isEmpty) = !kvs.isEmpty := by
  cases r <;> rfl
theorem isEmpty_of {xs : List V} {its : List Value} (r : Vals xs its) : (!its.toArray.isEmpty) = !xs.isEmpty := by
  cases r <;> simp
theorem line63 : (sizeLine : Nat) < 2 ^ 63 := by rw [sizeLine_eq]; decide
theorem tru_ok : TruR X (fun x H Q => ∃ k, TruV X.K x H k ∧ Q k H) := by
  intro pins s σ H x v Q I rx h
  obtain ⟨k, e, q⟩ := h
  have hl := line63
  have hs : sizeLine = 16777216 := sizeLine_eq
  cases x with
  | non =>
    cases rx
    have e' : k = false := e
    subst e'
    exact truthy_none ⟨H, I, q⟩
  | bl b =>
    cases rx
    have e' : k = b := e
    subst e'
    exact wpAny_truthy_bool ⟨H, I, q⟩
  | int i =>
    obtain ⟨t, rfl⟩ := rx
    have e' : k = (i != 0) := e
    subst e'
    exact PySem.P.truthy_int ⟨H, I, q⟩
  | str y =>
    obtain ⟨t, rfl⟩ := rx
    obtain ⟨hy, e'⟩ : y.length ≤ sizeLine ∧ k = ((y.length : Int) != 0) := e
    subst e'
    exact PySem.P.truthy_str (by omega) ⟨H, I.tok _, q⟩
  | byt y =>
    obtain ⟨t, rfl⟩ := rx
    obtain ⟨hy, e'⟩ : y.size ≤ sizeLine ∧ k = ((y.size : Int) != 0) := e
    subst e'
    exact PySem.W.truthy_bytes (by omega) ⟨H, I.tok _, q⟩
  | ref p =>
    cases rx
    have e' : (∃ xs, SqL X.K H p xs ∧ k = !xs.isEmpty) ∨ (∃ xs, SqT X.K H p xs ∧ k = !xs.isEmpty) ∨ ∃ kvs, H p = some (.dK kvs) ∧ k = !kvs.isEmpty := e
    rcases e' with ⟨xs, hx, e'⟩ | ⟨xs, hx, e'⟩ | ⟨kvs, hx, e'⟩
    · subst e'
      obtain ⟨its, r, pl, hz⟩ := I.list hx
      have hlen := r.length
      exact wpAny_truthy_list pl.isList (by simp only [List.size_toArray]; omega) ⟨H, I.tok _, by rw [isEmpty_of r]; exact q⟩
    · subst e'
      obtain ⟨its, r, pl, hz⟩ := I.tuple hx
      have hlen := r.length
      exact truthy_tuple pl (by simp only [List.size_toArray]; omega) ⟨H, I.tok _, by rw [isEmpty_of r]; exact q⟩
    · subst e'
      obtain ⟨hz, hS, vs, r, m⟩ : kvs.length ≤ sizeLine ∧ (p == sysModules) = false ∧ ∃ vs, KV kvs vs ∧ s.heap.DictOf (mixKind X.prog X.w) p vs := I.hok p _ hx
      have hlen : kvs.length = vs.length := Paired.length r
      exact wpAny_truthy_dict hS m (by omega) ⟨H, I.tok _, by rw [isEmpty_kv r]; exact q⟩
  | _ => exact (show False from e).elim
/-- any expression whose test is its value's truth (a name, a call, a subscript, a field ..: he by fun _ => rfl) -/
theorem pt_truth (ha : PE X a ta) (he : ∀ whole, isTrue a X.env whole = (do let v ← whole; standAt a.pos; holding [v] (truthy v))) :
    PT X a (fun σ H Q => ta σ H fun x H' => ∃ k, TruV X.K x H' k ∧ Q k H') := by
  intro pins s σ H Q I h
  exact isTrue_plain (thn (ha pins s σ H _ I h) fun v s1 ⟨x, H1, I1, r1, q1⟩ => tru_ok pins s1 σ H1 x v Q I1 r1 q1) (he _)

/-! ### strs and bytes -/


/-! ### scalar builtins, by CallR -/
theorem vals1 {x : V} {us : List Value} (r : Vals [x] us) : ∃ u, us = [u] ∧ RelV x u := by
  cases r with
  | cons r1 r2 => cases r2; exact ⟨_, rfl, r1⟩
theorem vals2 {x y : V} {us : List Value} (r : Vals [x, y] us) : ∃ u w', us = [u, w'] ∧ RelV x u ∧ RelV y w' := by
  cases r with
  | cons r1 r2 =>
    cases r2 with
    | cons r3 r4 => cases r4; exact ⟨_, _, rfl, r1, r3⟩
end
end L2

namespace L2
open PySem PySem.Spec PyProof.Rows

/-! ### an instance, its attributes a map -/
structure ObjM (h : Heap) (x dx C : Addr) (mA : Str → Option Value) : Prop where
  obj : h.get? x = some (PySem.W.instObj C dx)
  ns : h.Ns1 dx mA
  ne : dx ≠ x

theorem lookIn_ns {h : Heap} {dx : Addr} {mA : Str → Option Value} (n : h.Ns1 dx mA) : ∃ od, h.get? dx = some od ∧ ∀ name, PySem.W.lookIn name od = some (mA name) := by
  obtain ⟨o, es, ep, ho, hd, hk, _, hm⟩ := n
  refine ⟨o, ho, fun name => ?_⟩
  have e := hm name
  unfold nsFind findBy at e
  rw [← Array.find?_toList] at e
  unfold PySem.W.lookIn
  rw [hd]
  dsimp only
  split
  · rename_i y q
    rw [q] at e
    exact congrArg some e
  · rename_i q
    rw [q] at e
    have a : es.toList.any (·.refKey) = false := by
      rw [List.any_eq_false]
      intro y hy
      obtain ⟨z, t, hkey⟩ := hk y (Array.mem_toList_iff.mp hy)
      simp [DictEntry.refKey, hkey]
    have a' : ¬ es.toList.any (·.refKey) = true := by rw [a]; exact Bool.false_ne_true
    rw [if_neg a']
    exact congrArg some e

theorem ObjM.look {h : Heap} {x dx C : Addr} {mA : Str → Option Value} (I : ObjM h x dx C mA) : ∃ od, PySem.W.InstAt h x (PySem.W.instObj C dx) C (some od) ∧ ∀ name, PySem.W.lookIn name od = some (mA name) :=
  let ⟨od, ho, hl⟩ := lookIn_ns I.ns
  ⟨od, ⟨I.obj, rfl, rfl, ho⟩, hl⟩

section
variable {prog : Program} {w : World} {A : Around} {E : Value → Shared → Prop} {s : Shared} {K : PySem.W.Frag} {x dx C f : Addr} {mA : Str → Option Value} {name : Str} {v : Value}

theorem get_map {expr : Bool} {Q : Value → Shared → Prop} (X : K.In s.heap) (I : ObjM s.heap x dx C mA) (hg : PySem.W.plainGet K C name = true) (hh : PySem.W.hasDictIn K C = true)
    (ha : PySem.W.findIn K (.ref C) name = some none) (hv : mA name = some v) (hv' : PySem.W.handedIn v = true) (h : Q v { s with toks := s.toks + 1 }) :
    wpAny (model prog w) A (getAttr (.ref x) name expr) Q E s := by
  obtain ⟨od, J, hl⟩ := I.look
  exact PySem.W.get_value X J (PySem.W.plainGet_of hg).1 (PySem.W.findObj_own hh ha rfl (by rw [hl, hv])) hv' h


theorem get_meth {pl : Sem Bool} {Q : Value × List Value → Shared → Prop} (X : K.In s.heap) (I : ObjM s.heap x dx C mA) (hg : PySem.W.plainGet K C name = true)
    (hf : PySem.W.findIn K (.ref C) name = some (some (.ref f))) (ht : PySem.W.isFn K (.ref f) = true) (hv : mA name = none) (h : Q (.ref f, [.ref x]) s) :
    wpAny (model prog w) A (getMethod (.ref x) name pl) Q E s := by
  obtain ⟨od, J, hl⟩ := I.look
  exact PySem.W.method_fn X J (PySem.W.plainGet_of hg).1 (PySem.W.plainGet_of hg).2 hf (beq_iff_eq.mp ht) (by show (PySem.W.lookIn name od).map (·.isSome) = some false; rw [hl, hv]; rfl) h

theorem set_map {ns : List Str} {Q : Unit → Shared → Prop} (X : K.In s.heap) (I : ObjM s.heap x dx C mA)
    (hs : PySem.W.findIn K (.ref C) "__setattr__" = some (some (.builtin "object.__setattr__"))) (hp : PySem.W.plainOver K C = true) (ht : PySem.W.takerIn K C name = some none) (hh : PySem.W.hasDictIn K C = true)
    (hw : PySem.Within mA ns) (hsz : ns.length ≤ sizeLine)
    (h : ∀ h', ObjM h' x dx C (fun y => if y = name then some v else mA y) → Heap.SameBut dx s.heap h' → Q () { s with heap := h', toks := s.toks + 2 }) :
    wpAny (model prog w) A (setAttr (.ref x) name v) Q E s := by
  obtain ⟨od, J, hl⟩ := I.look
  refine PySem.W.set_plain X J hs (PySem.W.osa_open (s := { s with toks := s.toks + 1 }) (r := none) X J hp ht fun b => ?_)
  obtain ⟨cd, hc, hd'⟩ := PySem.W.any_some hh
  have hx : s.heap.get? x = some ⟨.ref C, some dx, .plain, #[]⟩ := I.obj
  refine wpAny_bind (wpAny_pure (wpAny_bind (wpAny_bind (wpAny_loadPart hx (wpAny_bind (PySem.W.Looks.here (s := { s with toks := s.toks + 1 }) (PySem.W.looks_clsIn X hc) ?_))))))
  rw [hd']
  refine wpAny_pure (a := some dx) (wpAny_bind (wpAny_pure (wpAny_bind ?_)))
  refine wpAny_nsSet1 (s := { s with toks := s.toks + 1 }) I.ns fun h' hn2 hs2 => ?_
  obtain ⟨oD, esD, epD, hoD, hdD, hcD⟩ := hn2.count (PySem.Within.cons name v hw)
  refine wpAny_bind (wpAny_lookBehind hoD (by rw [hdD]; exact pastItsLine_dict (Nat.le_trans hcD (by rw [List.length_cons]; omega))) ?_)
  exact wpAny_pure (h _ ⟨(hs2.2 _ (Ne.symm I.ne)).trans I.obj, hn2, I.ne⟩ hs2)

/-- C(..): the dict at the heap's end, the instance behind it; then its __init__ -/
theorem make_map {R : Result → Shared → Prop} {vs : List Value} {kw : List (Str × Value)} (X : K.In s.heap) (hm : PySem.W.makesIn K C = true)
    (hi : PySem.W.findIn K (.ref C) "__init__" = some (some (.ref f))) (hf : PySem.W.typeIn K (.ref f) = some (.type "function"))
    (h : codeAny (model prog w) (A.under (.builtin "type.__call__" ⟨.ref C :: vs, kw⟩)) (.call (.ref f) ⟨.ref (s.heap.objs.size + 1) :: vs, kw⟩) (PySem.W.InitBack (s.heap.objs.size + 1) R)
      { s with heap := (s.heap.push PySem.W.emptyDict).push (PySem.W.instObj C s.heap.objs.size) }) :
    codeAny (model prog w) A (.call (.ref C) ⟨vs, kw⟩) R s := by
  obtain ⟨hh, g, d, t, os⟩ := s
  exact PySem.W.make_core (PySem.W.makes_of X hm) (PySem.W.looks_findIn X hi) (fun self => PySem.W.bind_fn X self hf) (.inl rfl) h
end

/-! ### the attributes as a list of pairs -/
def putF (f : Str) (v : V) : List (Str × V) → List (Str × V)
  | [] => [(f, v)]
  | (g, x) :: r => if g = f then (g, v) :: r else (g, x) :: putF f v r
theorem lookup_putF (f g : Str) (v : V) : ∀ fs : List (Str × V), (putF f v fs).lookup g = if g = f then some v else fs.lookup g
  | [] => by
    show List.lookup g [(f, v)] = _
    by_cases h : g = f
    · have hb : (g == f) = true := beq_iff_eq.mpr h
      simp only [List.lookup, hb, if_pos h]
    · have hb : (g == f) = false := beq_eq_false_iff_ne.mpr h
      simp only [List.lookup, hb, if_neg h]
  | (k, x) :: r => by
    have ih := lookup_putF f g v r
    rw [show putF f v ((k, x) :: r) = (if k = f then (k, v) :: r else (k, x) :: putF f v r) from rfl]
    by_cases hk : k = f
    · rw [if_pos hk]
      by_cases h : g = k
      · have hb : (g == k) = true := beq_iff_eq.mpr h
        simp only [List.lookup, hb, if_pos (h.trans hk)]
      · have hb : (g == k) = false := beq_eq_false_iff_ne.mpr h
        simp only [List.lookup, hb, if_neg (fun e : g = f => h (e.trans hk.symm))]
    · rw [if_neg hk]
      by_cases h : g = k
      · have hb : (g == k) = true := beq_iff_eq.mpr h
        simp only [List.lookup, hb, if_neg (fun e : g = f => hk (h.symm.trans e))]
      · have hb : (g == k) = false := beq_eq_false_iff_ne.mpr h
        simp only [List.lookup, hb]
        exact ih
theorem keys_putF (f : Str) (v : V) : ∀ fs : List (Str × V), f ∈ (putF f v fs).map (·.1) ∧ ∀ g, g ∈ fs.map (·.1) → g ∈ (putF f v fs).map (·.1)
  | [] => ⟨by simp [putF], fun g h => by simp at h⟩
  | (k, x) :: r => by
    obtain ⟨i1, i2⟩ := keys_putF f v r
    rw [show putF f v ((k, x) :: r) = (if k = f then (k, v) :: r else (k, x) :: putF f v r) from rfl]
    by_cases hk : k = f
    · rw [if_pos hk]
      subst hk
      exact ⟨by simp, fun g h => by simpa using h⟩
    · rw [if_neg hk]
      refine ⟨?_, fun g h => ?_⟩
      · rw [List.map_cons]
        exact List.mem_cons_of_mem _ i1
      · rw [List.map_cons] at h ⊢
        rcases List.mem_cons.mp h with e | e
        · exact List.mem_cons.mpr (.inl e)
        · exact List.mem_cons_of_mem _ (i2 g e)
theorem length_putF (f : Str) (v : V) : ∀ fs : List (Str × V), (putF f v fs).length ≤ fs.length + 1
  | [] => by simp [putF]
  | (k, x) :: r => by
    have ih := length_putF f v r
    rw [show putF f v ((k, x) :: r) = (if k = f then (k, v) :: r else (k, x) :: putF f v r) from rfl]
    by_cases hk : k = f
    · rw [if_pos hk, List.length_cons, List.length_cons]; omega
    · rw [if_neg hk, List.length_cons, List.length_cons]; omega

theorem RelO.some_of {v : V} {o : Option Value} (r : RelO (some v) o) : ∃ u, o = some u ∧ RelV v u := by
  cases o with
  | none => exact (show False from r).elim
  | some u => exact ⟨u, rfl, r⟩
theorem RelO.none_of {o : Option Value} (r : RelO none o) : o = none := by
  cases o with
  | none => rfl
  | some u => exact (show False from r).elim
theorem handed_of {v : V} {u : Value} (r : RelV v u) : PySem.W.handedIn u = true := by
  cases v with
  | non => cases (show u = Value.none from r); rfl
  | bl b => cases (show u = Value.bool b from r); rfl
  | int i => obtain ⟨t, e⟩ := (show ∃ t, u = Value.int i t from r); cases e; rfl
  | str x => obtain ⟨t, e⟩ := (show ∃ t, u = Value.str x t from r); cases e; rfl
  | byt b => obtain ⟨t, e⟩ := (show ∃ t, u = Value.bytes b t from r); cases e; rfl
  | flt b => obtain ⟨t, e⟩ := (show ∃ t, u = Value.float b t from r); cases e; rfl
  | ref a => cases (show u = Value.ref a from r); rfl
  | ty n => cases (show u = Value.type n from r); rfl

section
variable {P : Program} {w : World} {H H' : Hp} {h h' : Heap} {a C dx : Addr} {fs fs' : List (Str × V)}
theorem ins_get (hok : HOk P w H h) (e : H a = some (.ins C dx fs)) : ∃ mA, ObjM h a dx C mA ∧ (∀ f, RelO (fs.lookup f) (mA f)) ∧ PySem.Within mA (fs.map (·.1)) ∧ fs.length ≤ 1000 ∧ H dx = some (.own a) := by
  obtain ⟨d, z, ne, ob, mA, n, r, q⟩ := (show ObjOk P w H h a (.ins C dx fs) from hok a _ e)
  exact ⟨mA, ⟨ob, n, ne⟩, r, q, z, d⟩
end

/-! ### what of the text a class must have -/
structure Cls (K : PySem.W.Frag) (C : Addr) : Prop where
  pg : PySem.W.plainGet K C Str.empty = true
  hd : PySem.W.hasDictIn K C = true
  po : PySem.W.plainOver K C = true
  sa : PySem.W.findIn K (.ref C) "__setattr__" = some (some (.builtin "object.__setattr__"))
theorem Cls.get {K : PySem.W.Frag} {C : Addr} (c : Cls K C) (f : Str) : PySem.W.plainGet K C f = true := c.pg
/-- no class of it has the name -/
def NoAttr (K : PySem.W.Frag) (C : Addr) (f : Str) : Prop := PySem.W.findIn K (.ref C) f = some none
theorem NoAttr.taker {K : PySem.W.Frag} {C : Addr} {f : Str} (n : NoAttr K C f) : PySem.W.takerIn K C f = some none := by
  unfold PySem.W.takerIn
  rw [show PySem.W.findIn K (.ref C) f = some none from n]
  rfl
/-- a method: a plain def of the class or of one above it -/
structure Meth (K : PySem.W.Frag) (C : Addr) (m : Str) (f : Addr) : Prop where
  at_ : PySem.W.findIn K (.ref C) m = some (some (.ref f))
  fn : PySem.W.isFn K (.ref f) = true
  kp : PySem.W.keepIn K (.ref f) = true

section
variable {X : Cx} {pins : List (Addr × Obj)} {σ : St} {H : Hp} {s : Shared} {a C dx : Addr} {fs : List (Str × V)} {f : Str} {v : V} {A : Around} {E : Value → Shared → Prop}

theorem getattr_ok {b : Bool} {Q : Value → Shared → Prop} (I : Inv X pins σ H s) (e : H a = some (.ins C dx fs)) (c : Cls X.K C) (n : NoAttr X.K C f) (l : fs.lookup f = some v)
    (h : ∀ u s', Inv X pins σ H s' → RelV v u → Q u s') : wpAny (model X.prog X.w) A (getAttr (.ref a) f b) Q E s := by
  obtain ⟨mA, O, r, _, _, _⟩ := ins_get I.hok e
  obtain ⟨u, hu, ru⟩ := RelO.some_of (v := v) (o := mA f) (by rw [← l]; exact r f)
  exact get_map I.kIn O (c.get f) c.hd n hu (handed_of ru) (h u _ (I.tok _) ru)


theorem getmeth_ok {m : Str} {g : Addr} {pl : Sem Bool} {Q : Value × List Value → Shared → Prop} (I : Inv X pins σ H s) (e : H a = some (.ins C dx fs)) (c : Cls X.K C) (k : Meth X.K C m g) (l : fs.lookup m = none)
    (h : Q (.ref g, [.ref a]) s) : wpAny (model X.prog X.w) A (getMethod (.ref a) m pl) Q E s := by
  obtain ⟨mA, O, r, _, _, _⟩ := ins_get I.hok e
  have hn : mA m = none := RelO.none_of (by rw [← l]; exact r m)
  exact get_meth I.kIn O (c.get m) k.at_ k.fn hn h

theorem setattr_ok {y : V} {u : Value} {Q : Unit → Shared → Prop} (I : Inv X pins σ H s) (e : H a = some (.ins C dx fs)) (c : Cls X.K C) (n : NoAttr X.K C f) (hl : fs.length < 1000) (ry : RelV y u)
    (h : ∀ s', Inv X pins σ (upd H a (.ins C dx (putF f y fs))) s' → Q () s') : wpAny (model X.prog X.w) A (setAttr (.ref a) f u) Q E s := by
  obtain ⟨mA, O, r, wi, _, ho⟩ := ins_get I.hok e
  have hz : (fs.map (·.1)).length ≤ sizeLine := by rw [List.length_map, sizeLine_eq]; omega
  refine set_map I.kIn O c.sa c.po n.taker c.hd wi hz fun h' O' sb => h _ ?_
  have hd : ∃ o, h'.get? dx = some o := let ⟨o, _, _, e', _⟩ := O'.ns; ⟨o, e'⟩
  refine I.write (x := a) (e := dx) (by rw [e]; exact True.intro) (.inr ho) (fun b q hb z => (sb.2 b hb).trans z) hd ?_
  refine ⟨by rw [upd_ne O.ne]; exact ho, ?_, O.ne, O'.obj, _, O'.ns, fun g => ?_, fun g hg => ?_⟩
  · have := length_putF f y fs; omega
  · show RelO ((putF f y fs).lookup g) (if g = f then some u else mA g)
    rw [lookup_putF]
    by_cases q : g = f
    · rw [if_pos q, if_pos q]; exact ry
    · rw [if_neg q, if_neg q]; exact r g
  · by_cases q : g = f
    · rw [q]; exact (keys_putF f y fs).1
    · refine (keys_putF f y fs).2 g (wi g fun z => hg ?_)
      show (if g = f then some u else mA g) = none
      rw [if_neg q]; exact z

/-- a new instance, tracked, without attributes -/
theorem Inv.made (I : Inv X pins σ H s) : Inv X pins σ (upd (upd H s.heap.objs.size (.own (s.heap.objs.size + 1))) (s.heap.objs.size + 1) (.ins C s.heap.objs.size []))
    { s with heap := (s.heap.push PySem.W.emptyDict).push (PySem.W.instObj C s.heap.objs.size) } := by
  have e1 : (s.heap.push PySem.W.emptyDict).get? s.heap.objs.size = some PySem.W.emptyDict := Heap.get?_push_size s.heap rfl
  have e2 : ((s.heap.push PySem.W.emptyDict).push (PySem.W.instObj C s.heap.objs.size)).get? (s.heap.objs.size + 1) = some (PySem.W.instObj C s.heap.objs.size) := by
    have := Heap.get?_push_size (s.heap.push PySem.W.emptyDict) (o := PySem.W.instObj C s.heap.objs.size) rfl
    rwa [Heap.size_push] at this
  have e3 : (s.heap.push PySem.W.emptyDict).Ns s.heap.objs.size (fun _ => none) := ⟨PySem.W.emptyDict, #[], _, e1, rfl, (fun e he => absurd he (by simp)), fun _ => rfl⟩
  have I1 := I.laid (a := s.heap.objs.size) (o := .own (s.heap.objs.size + 1)) (h' := s.heap.push PySem.W.emptyDict) (t' := s.toks) (fun b u q => Heap.get?_push_of_some _ q) (Nat.le_refl _) ⟨_, e1⟩
  refine I1.laid (a := s.heap.objs.size + 1) (o := .ins C s.heap.objs.size []) (t' := s.toks) (fun b u q => Heap.get?_push_of_some _ q) (Nat.le_of_eq (Heap.size_push _ _)) ?_
  have ne : s.heap.objs.size ≠ s.heap.objs.size + 1 := Nat.ne_of_lt (Nat.lt_succ_self _)
  refine ⟨by rw [upd_ne ne, upd_same], Nat.zero_le _, ne, e2, fun _ => none, (Heap.Ns1.of_empty e3).at fun o q => Heap.get?_push_of_some _ q, fun _ => True.intro, fun y hy => absurd rfl hy⟩

/-- e.f where nothing but the object is asked: through attributeBase (super) and the last hold -/
theorem attr_of {prog : Program} {w : World} {env : Env} {e : Expr} {f : Str} {pos : Pos} {s : Shared} {Q : Value → Shared → Prop} (hb : attributeBase e f env (eval e env) = eval e env)
    (h : wpAny (model prog w) A (eval e env) (fun o s₁ => wpAny (model prog w) A (getAttr o f true) Q E s₁) E s) : wpAny (model prog w) A (eval (.Attribute e f pos) env) Q E s :=
  Attribute_any_ h (by rw [arm_eval_Attribute, hb])
end

/-! ### readings and rules -/
/-- e.f, an attribute of the instance -/
def tFld (K : PySem.W.Frag) (ta : TE) (f : Str) : TE := fun σ H Q => ta σ H fun x H1 => ∃ a C dx fs v, x = .ref a ∧ H1 a = some (.ins C dx fs) ∧ Cls K C ∧ NoAttr K C f ∧ fs.lookup f = some v ∧ Q v H1
/-- e.f = value -/
def sFld (K : PySem.W.Frag) (ta tv : TE) (f : Str) : TS := fun D σ H => tv σ H fun y H1 => ta σ H1 fun x H2 => ∃ a C dx fs, x = .ref a ∧ H2 a = some (.ins C dx fs) ∧ Cls K C ∧ NoAttr K C f ∧ fs.length < 1000 ∧
  D.nx σ (upd H2 a (.ins C dx (putF f y fs)))

section
variable {X : Cx} {o e value : Expr} {f : Str} {pos pos' tpos : Pos} {ta tv : TE}
theorem pe_fld (he : PE X e ta) (hb : attributeBase e f X.env (eval e X.env) = eval e X.env) : PE X (.Attribute e f pos) (tFld X.K ta f) := by
  intro pins s σ H Q I h
  refine attr_of hb (thn (he pins s σ H _ I h) fun u s1 ⟨x, H1, I1, rx, a, C, dx, fs, v, ex, ea, c, n, l, q⟩ => ?_)
  subst ex
  obtain rfl : u = Value.ref a := rx
  exact getattr_ok I1 ea c n l fun u' s2 I2 ru => ⟨v, H1, I2, ru, q⟩
theorem ps_fld (ha : PE X o ta) (hv : PE X value tv) (hs : swapsWith value (some (.Attribute o f pos')) pos.line X.env = pure false) : PS X (.Assign [.Attribute o f pos'] value pos) (sFld X.K ta tv f) := by
  intro pins s σ H D I h
  refine plainObj_wpAny_Assign_Attribute (thn (hv pins s σ H _ I h) fun u s1 ⟨y, H1, I1, ry, q⟩ => thn (ha pins s1 σ H1 _ I1 q) fun ov s2 ⟨x, H2, I2, rx, a, C, dx, fs, ex, ea, c, n, l, q2⟩ => ?_) hs
  subst ex
  obtain rfl : ov = Value.ref a := rx
  exact setattr_ok I2 ea c n l ry fun s3 I3 => ⟨σ, _, I3, q2⟩

end

/-! ### isinstance -/
section
variable {X : Cx} {pins : List (Addr × Obj)} {σ : St} {H : Hp} {s : Shared} {A : Around} {E : Value → Shared → Prop} {Q : Value → Shared → Prop} {c : Value} {b : Bool}
/-- the type of a value, as the fragment's deciders take it; for an instance its class -/
inductive TyOf (K : PySem.W.Frag) (H : Hp) : V → Value → Prop where
  | non : TyOf K H .non (.type "NoneType")
  | bl (x : Bool) : TyOf K H (.bl x) (.type "bool")
  | int (i : Int) : TyOf K H (.int i) (.type "int")
  | str (x : Str) : TyOf K H (.str x) (.type "str")
  | flt (x : UInt64) : TyOf K H (.flt x) (.type "float")
  | lst {a : Addr} {xs : List V} (e : H a = some (.lst xs)) : TyOf K H (.ref a) (.type "list")
  | frz {a : Addr} {o : Obj} {xs : List V} (e : H a = some (.frz o (.lst xs))) : TyOf K H (.ref a) (.type "list")
  | tup {a : Addr} {xs : List V} (e : H a = some (.tup xs)) : TyOf K H (.ref a) (.type "tuple")
  | dK {a : Addr} {kvs : List (Key × V)} (e : H a = some (.dK kvs)) : TyOf K H (.ref a) (.type "dict")
  | dT {a : Addr} {kvs : List (List Key × V)} (e : H a = some (.dT kvs)) : TyOf K H (.ref a) (.type "dict")
  | ins {a C dx : Addr} {fs : List (Str × V)} (e : H a = some (.ins C dx fs)) (cl : Cls K C) (ha : PySem.W.findIn K (.ref C) "__class__" = some (some (.builtin "object.__class__")))
      (hn : PySem.W.specialIn K (.builtin "object.__class__") "__get__" = some (some (.builtin "getset_descriptor.__get__"))) (htk : PySem.W.takesIn K (.builtin "object.__class__") = some true)
      (hm : PySem.W.mroIn K C (.type "object") = some true) : TyOf K H (.ref a) (.ref C)
/-- isinstance(x, c) for one class c, a built-in or an own one: kitOne's answer -/
theorem isinst_ok {x : V} {u t : Value} (I : Inv X pins σ H s) (rx : RelV x u) (ty : TyOf X.K H x t) (e : PySem.W.kitOne X.K t c = some b) (h : ∀ tk, Q (.bool b) { s with toks := tk }) :
    wpAny (model X.prog X.w) A (call (.builtin "isinstance") [u, c]) Q E s := by
  cases ty with
  | non => cases (show u = Value.none from rx); exact PySem.W.kia_one PySem.W.kitx_none I.kIn True.intro e (fun z => nomatch z) h
  | bl y => cases (show u = Value.bool y from rx); exact PySem.W.kia_one PySem.W.kitx_bool I.kIn True.intro e (fun z => nomatch z) h
  | int i => obtain ⟨t, q⟩ := (show ∃ t, u = Value.int i t from rx); cases q; exact PySem.W.kia_one PySem.W.kitx_int I.kIn True.intro e (fun z => nomatch z) h
  | str y => obtain ⟨t, q⟩ := (show ∃ t, u = Value.str y t from rx); cases q; exact PySem.W.kia_one PySem.W.kitx_str I.kIn True.intro e (fun z => nomatch z) h
  | flt y => obtain ⟨t, q⟩ := (show ∃ t, u = Value.float y t from rx); cases q; exact PySem.W.kia_one PySem.W.kitx_float I.kIn True.intro e (fun z => nomatch z) h
  | @lst a xs ea =>
    cases (show u = Value.ref a from rx)
    obtain ⟨_, _, n, _, h1⟩ := (show ObjOk X.prog X.w H s.heap a (.lst xs) from I.hok a _ ea)
    exact PySem.W.kia_one PySem.W.kitx_list I.kIn ⟨_, h1, rfl⟩ e (fun z => nomatch z) h
  | @frz a ob xs ea =>
    cases (show u = Value.ref a from rx)
    obtain ⟨_, _, _, n, _, h1⟩ := (show ObjOk X.prog X.w H s.heap a (.frz ob (.lst xs)) from I.hok a _ ea)
    exact PySem.W.kia_one PySem.W.kitx_list I.kIn ⟨_, h1, rfl⟩ e (fun z => nomatch z) h
  | @tup a xs ea =>
    cases (show u = Value.ref a from rx)
    obtain ⟨_, _, _, p⟩ := (show ObjOk X.prog X.w H s.heap a (.tup xs) from I.hok a _ ea)
    obtain ⟨o, h1, h2, _⟩ := p
    exact PySem.W.kia_one PySem.W.kitx_tuple I.kIn ⟨o, h1, h2⟩ e (fun z => nomatch z) h
  | @dK a kvs ea =>
    cases (show u = Value.ref a from rx)
    obtain ⟨_, _, vs, _, p⟩ := (show ObjOk X.prog X.w H s.heap a (.dK kvs) from I.hok a _ ea)
    obtain ⟨o, es, ep, h1, h2, _⟩ := p
    exact PySem.W.kia_one PySem.W.kitx_dict I.kIn ⟨o, h1, h2.1⟩ e (fun z => nomatch z) h
  | @dT a kvs ea =>
    cases (show u = Value.ref a from rx)
    obtain ⟨_, _, xs, _, o, es, ep, h1, h2, _⟩ := (show ObjOk X.prog X.w H s.heap a (.dT kvs) from I.hok a _ ea)
    exact PySem.W.kia_one PySem.W.kitx_dict I.kIn ⟨o, h1, h2.1⟩ e (fun z => nomatch z) h
  | @ins a C dx fs ea cl ha hn htk hm =>
    cases (show u = Value.ref a from rx)
    obtain ⟨mA, O, _⟩ := ins_get I.hok ea
    obtain ⟨od, J, _⟩ := O.look
    exact PySem.W.kia_one (PySem.W.kitx_own (cl.get _) cl.hd ha hn htk hm) I.kIn J e (fun z => nomatch z) h
end
end L2

namespace L2
open PySem PySem.Spec PyProof.Rows

/-! ### room -/
structure Room (k : Nat) (A : Around) : Prop where
  hd : A.handled = none
  dp : A.depth + 3 * k + 5 < recursionLimit
  un : A.units + 16 * k + 200 < cLine
theorem Room.mono {j k : Nat} {A : Around} (r : Room k A) (h : j ≤ k) : Room j A := ⟨r.hd, by have := r.dp; omega, by have := r.un; omega⟩
theorem Room.deeper {k : Nat} {A : Around} (r : Room (k + 1) A) (env : Env) : Room k (A.deeper env) :=
  ⟨r.hd, by have := r.dp; show A.depth + 1 + 3 * k + 5 < _; omega, by have := r.un; show A.units + 3 + 16 * k + 200 < _; omega⟩
theorem Room.in1 {k : Nat} {A : Around} (r : Room (k + 1) A) : Room k A.in1 :=
  ⟨r.hd, by have := r.dp; show A.depth + 3 * k + 5 < _; omega, by have := r.un; show A.units + 1 + 16 * k + 200 < _; omega⟩
theorem make_depth {A : Around} {C : Addr} {us : List Value} {kw : List (Str × Value)} : (A.under (.builtin "type.__call__" ⟨.ref C :: us, kw⟩)).depth = A.depth + 1 := by
  first | rfl | simp [Around.under, Code.weight, Code.isCreation, Code.isGuard, Code.isCaller, Code.frames, Code.isFrame, guardIds]
theorem make_units {A : Around} {C : Addr} {us : List Value} {kw : List (Str × Value)} : (A.under (.builtin "type.__call__" ⟨.ref C :: us, kw⟩)).units = A.units + 1 := by
  first | rfl | simp [Around.under, Code.cUnits, Code.frames, Code.isFrame]
theorem Room.make {k : Nat} {A : Around} (r : Room (k + 1) A) (C : Addr) (us : List Value) (kw : List (Str × Value)) : Room k (A.under (.builtin "type.__call__" ⟨.ref C :: us, kw⟩)) :=
  ⟨r.hd, by have := r.dp; rw [make_depth]; omega, by have := r.un; rw [make_units]; omega⟩
theorem Room.depth {k : Nat} {A : Around} (r : Room k A) : A.depth < recursionLimit := by have := r.dp; omega
theorem Room.units {k : Nat} {A : Around} (r : Room k A) : A.units + 64 < cLine := by have := r.un; omega

/-! ### argument lists and displays -/
def tNil : TA := fun _ H Q => Q [] H
def tCons (ta : TE) (tr : TA) : TA := fun σ H Q => ta σ H fun x H1 => tr σ H1 fun xs H2 => Q (x :: xs) H2
section
variable {X : Cx} {e : Expr} {es : List Expr} {te : TE} {t : TA} {pos : Pos}
theorem pa_nil : PA X [] tNil := fun _ _ _ _ H Q I h => Calls.spliced_nil ⟨[], H, I, .nil, h⟩
theorem pa_cons (ha : PE X e te) (hr : PA X es t) (hs : starEach (e :: es) X.env = (false, eval e X.env) :: starEach es X.env := by rfl) : PA X (e :: es) (tCons te t) := by
  intro pos pins s σ H Q I h
  rw [hs]
  show wpAny _ _ (spliced ((false, eval e X.env) :: backTo pos (starEach es X.env))) _ _ s
  refine Calls.spliced_cons (thn (ha pins s σ H _ I h) fun u s1 ⟨x, H1, I1, r1, q1⟩ => ?_)
  exact thn (hr pos pins s1 σ H1 _ I1 q1) fun us s2 ⟨xs, H2, I2, r2, q2⟩ => ⟨x :: xs, H2, I2, .cons r1 r2, q2⟩

/-- a tuple, a list of written items -/
def tTup (t : TA) : TE := fun σ H Q => t σ H fun xs H1 => xs.length ≤ sizeLine ∧ ∀ p, H1 p = none → Q (.ref p) (upd H1 p (.tup xs))
def tLst (t : TA) : TE := fun σ H Q => t σ H fun xs H1 => xs.length ≤ sizeLine ∧ ∀ p, H1 p = none → Q (.ref p) (upd H1 p (.lst xs))
theorem pe_tup {x1} (h : PA X es t) : PE X (.Tuple es x1 pos) (tTup t) := by
  intro pins s σ H Q I hq
  refine wpAny_Tuple_spliced (thn (h pos pins s σ H _ I hq) fun us s1 ⟨xs, H1, I1, r, z, q⟩ => ⟨by rw [← r.length]; exact z, ?_⟩)
  have hf : H1 s1.heap.objs.size = none := I1.hok.fresh (Nat.le_refl _)
  refine ⟨.ref s1.heap.objs.size, upd H1 s1.heap.objs.size (.tup xs), I1.laid (t' := s1.toks) (fun b u e => Heap.get?_push_of_some _ e) (Nat.le_refl _) ?_, rfl, q _ hf⟩
  exact ⟨z, us, r, ⟨_, Heap.get?_push_size _ rfl, rfl, _, rfl⟩⟩
theorem pe_lst (h : PA X es t) : PE X (.List es pos) (tLst t) := by
  intro pins s σ H Q I hq
  refine wpAny_List_spliced (thn (h pos pins s σ H _ I hq) fun us s1 ⟨xs, H1, I1, r, z, q⟩ => ⟨by rw [← r.length]; exact z, ?_⟩)
  have hf : H1 s1.heap.objs.size = none := I1.hok.fresh (Nat.le_refl _)
  refine ⟨.ref s1.heap.objs.size, upd H1 s1.heap.objs.size (.lst xs), I1.laid (t' := s1.toks) (fun b u e => Heap.get?_push_of_some _ e) (Nat.le_refl _) ?_, rfl, q _ hf⟩
  exact ⟨z, us, 0, r, Heap.get?_push_size _ rfl⟩
end

/-! ### what a def promises -/
/-- a def's promise: the bound arguments in the parameters' order, the heap, the wanted end, the wanted exception -/
abbrev Sp := List V → Hp → VK → XK → Prop
/-- how an exception lies behind a call (file 08 gives it): the callers' frames, abstract heap and state ahead of the call, the wish, the exception, the state -/
abbrev CXT := List Env → Hp → Shared → XK → Value → Shared → Prop

/-- the state at a call -/
structure Env0 (P : Program) (w : World) (K : PySem.W.Frag) (mg : Str → Option Value) (base : Heap) (A : Around) (outer : List Env) (s : Shared) (H : Hp) : Prop where
  frames : A.frames = some outer
  mod : Mod K mg base
  bs : ∀ b o, base.get? b = some o → s.heap.get? b = some o ∧ H b = none
  bsz : base.objs.size ≤ s.heap.objs.size
  funs : s.heap.FunFrames base outer
  frf : ∀ b ∈ frs outer, H b = none
  hok : HOk P w H s.heap
  bare : AllBare s.gens
/-- a call's end -/
def CE (outer : List Env) (P : Program) (w : World) (H : Hp) (s : Shared) (Q : VK) (u : Value) (s' : Shared) : Prop :=
  ∃ v H', s'.os = s.os ∧ AllBare s'.gens ∧ Un (frs outer) [] H H' s.heap s'.heap ∧ HOk P w H' s'.heap ∧ RelV v u ∧ Q v H'
def CR (CX : CXT) (outer : List Env) (P : Program) (w : World) (H : Hp) (s : Shared) (Q : VK) (E : XK) (r : Result) (s' : Shared) : Prop :=
  match r with
  | .ok (.ret u) => CE outer P w H s Q u s'
  | .ok _ => False
  | .error e => CX outer H s E e s'
structure FnOk (P : Program) (w : World) (K : PySem.W.Frag) (mg : Str → Option Value) (base : Heap) (CX : CXT) (k : Nat) (f : Addr) (fd : FuncData) (ps : List Str) (sp : Sp) : Prop where
  len : ∀ vs H Q E, sp vs H Q E → vs.length = ps.length
  run : ∀ (A : Around) (outer : List Env) (s : Shared) (H : Hp) (args : Args) (us : List Value) (vs : List V) (Q : VK) (E : XK), Room k A → Env0 P w K mg base A outer s H → BindsTo s fd args (ps.zip us) → Vals vs us → sp vs H Q E →
    codeAny (model P w) A (.call (.ref f) args) (CR CX outer P w H s Q E) s
theorem FnOk.mono {P : Program} {w : World} {K : PySem.W.Frag} {mg : Str → Option Value} {base : Heap} {CX : CXT} {j k : Nat} {f : Addr} {fd : FuncData} {ps : List Str} {sp : Sp} (F : FnOk P w K mg base CX j f fd ps sp) (h : j ≤ k) :
    FnOk P w K mg base CX k f fd ps sp := ⟨F.len, fun A outer s H args us vs Q E hr => F.run A outer s H args us vs Q E (hr.mono h)⟩

theorem Env0.make {P : Program} {w : World} {K : PySem.W.Frag} {mg : Str → Option Value} {base : Heap} {A : Around} {outer : List Env} {s : Shared} {H : Hp} (e : Env0 P w K mg base A outer s H) (C : Addr) (us : List Value) (kw : List (Str × Value)) :
    Env0 P w K mg base (A.under (.builtin "type.__call__" ⟨.ref C :: us, kw⟩)) outer s H := ⟨by first | exact e.frames | (simpa [Around.under, Code.envs, Code.isFrame, pushEnvs] using e.frames), e.mod, e.bs, e.bsz, e.funs, e.frf, e.hok, e.bare⟩
theorem Env0.in1 {P : Program} {w : World} {K : PySem.W.Frag} {mg : Str → Option Value} {base : Heap} {A : Around} {outer : List Env} {s : Shared} {H : Hp} (e : Env0 P w K mg base A outer s H) :
    Env0 P w K mg base A.in1 outer s H := ⟨e.frames, e.mod, e.bs, e.bsz, e.funs, e.frf, e.hok, e.bare⟩

section
variable {X : Cx} {pins : List (Addr × Obj)} {σ : St} {H : Hp} {s s' : Shared}
/-- from a body: what a callee wants -/
theorem Inv.env0 (I : Inv X pins σ H s) : Env0 X.prog X.w X.K X.mg X.base X.A X.stack s H :=
  ⟨I.ok.frames, I.ok.mod, I.bs, Nat.le_trans I.ok.bsz I.sz, I.stack, I.stkFree, I.hok, I.bare⟩
/-- behind a call -/
theorem Inv.after {Q : VK} {u : Value} (I : Inv X pins σ H s) (h : CE X.stack X.prog X.w H s Q u s') : EP X pins σ Q u s' := by
  obtain ⟨v, H', os, bare, un, hok, r, q⟩ := h
  obtain ⟨hh, g, d, t, os'⟩ := s'
  obtain rfl : os' = s.os := os
  exact ⟨v, H', I.call (h' := hh) (g' := g) (d' := d) (t' := t) (ch := []) un hok bare (fun b z => absurd z (by simp)), r, q⟩
end

/-! ### calls -/
/-- f(..): the written arguments, then the defaults dvs; E: what is wanted of an exception -/
def tCall (sp : Sp) (dvs : List V) (E : XK) (t : TA) : TE := fun σ H Q => t σ H fun vs H1 => sp (vs ++ dvs) H1 Q E
/-- o.m(..) of an instance of the class at C -/
def tMeth (C : Addr) (m : Str) (sp : Sp) (dvs : List V) (E : XK) (ta : TE) (t : TA) : TE := fun σ H Q => ta σ H fun x H1 => ∃ a dx fs, x = .ref a ∧ H1 a = some (.ins C dx fs) ∧ fs.lookup m = none ∧
  t σ H1 fun vs H2 => sp (x :: (vs ++ dvs)) H2 Q E
/-- C(..): a new instance and its dict, then __init__ -/
def tMake (C : Addr) (sp : Sp) (dvs : List V) (E : XK) (t : TA) : TE := fun σ H Q => t σ H fun vs H1 => ∀ x dx, H1 x = none → H1 dx = none → dx ≠ x →
  sp (.ref x :: (vs ++ dvs)) (upd (upd H1 dx (.own x)) x (.ins C dx [])) (fun v H2 => v = .non ∧ Q (.ref x) H2) E

/-- how the parameters are bound: us the positional arguments, kw the keywords' values by name, ds the defaults that fill up -/
def Binds (K : PySem.W.Frag) (fd : FuncData) (ps : List Str) (ds : List Value) : Prop :=
  ∀ (s : Shared) (us : List Value), K.In s.heap → (us ++ ds).length = ps.length → BindsTo s fd ⟨us, []⟩ (ps.zip (us ++ ds))
/-- every parameter is given -/
theorem Binds.all {K : PySem.W.Frag} {fd : FuncData} {ps : List Str} (h : ∀ us : List Value, us.length = ps.length → bindArgs fd ⟨us, []⟩ = pure (ps.zip us)) : Binds K fd ps [] := fun s us _ hl => by
  rw [List.append_nil] at hl ⊢
  exact .of_eq (h us hl)

/-- an exception of a callee reaches what this body wants of exceptions -/
def Passes (CX : CXT) (X : Cx) (E : XK) : Prop := ∀ (pins : List (Addr × Obj)) (σ : St) (H : Hp) (s : Shared) (e : Value) (s' : Shared), Inv X pins σ H s → CX X.stack H s E e s' → X.xe e s'

section
variable {X : Cx} {CX : CXT} {k : Nat} {f C : Addr} {fd : FuncData} {ps : List Str} {sp : Sp} {dvs : List V} {ds : List Value} {E : XK} {x m : Str} {p pos apos : Pos} {e o : Expr} {es : List Expr} {ta : TE} {t : TA}

/-- the callee runs -/
theorem run_fn {pins : List (Addr × Obj)} {σ : St} {H : Hp} {s : Shared} {Q : VK} {us : List Value} {vs : List V} (F : FnOk X.prog X.w X.K X.mg X.base CX k f fd ps sp) (hr : Room k X.A) (hb : Binds X.K fd ps ds) (hd : Vals dvs ds) (hx : Passes CX X E)
    (I : Inv X pins σ H s) (r : Vals vs us) (h : sp (vs ++ dvs) H Q E) : wpAny (model X.prog X.w) X.A (call (.ref f) us) (EP X pins σ Q) X.xe s := by
  have r2 : Vals (vs ++ dvs) (us ++ ds) := r.append hd
  have hl : (us ++ ds).length = ps.length := by rw [← r2.length]; exact F.len _ _ _ _ h
  refine wpAny_call (codeAny_mono (F.run X.A X.stack s H ⟨us, []⟩ (us ++ ds) (vs ++ dvs) Q E hr I.env0 (hb s us I.kIn hl) r2 h) fun r s' hq => ?_)
  cases r with
  | error e => exact hx pins σ H s e s' I hq
  | ok fl =>
    cases fl with
    | ret u => exact I.after hq
    | next => exact False.elim hq
    | brk => exact False.elim hq
    | cont => exact False.elim hq

theorem pe_call (F : FnOk X.prog X.w X.K X.mg X.base CX k f fd ps sp) (hr : Room k X.A) (hg : Gl X x) (hm : X.mg x = some (.ref f)) (hk : PySem.W.keepIn X.K (.ref f) = true) (hb : Binds X.K fd ps ds) (hd : Vals dvs ds) (hx : Passes CX X E)
    (ha : PA X (e :: es) t) (hdb : (x == ("__debug__" : Str)) = false := by decide) (he : starEach (e :: es) X.env = (false, eval e X.env) :: starEach es X.env := by rfl) (hpl : (backTo pos (starEach es X.env)).any (·.1) = false := by rfl) :
    PE X (.Call (.Name x p) (e :: es) [] pos) (tCall sp dvs E t) := by
  intro pins s σ H Q I h
  refine wpAny_Call_Name_kw (ld_glob I hg hm ?_ hdb)
  refine PySem.W.callWith_K (h₀ := X.base) I.ok.mod.kin hk (thn (ha pos pins s σ H _ I h) fun us s1 ⟨vs, H1, I1, r, q⟩ => ⟨I1.kIn, ?_⟩) he hpl
  exact run_fn F hr hb hd hx I1 r q

/-- o.m(e, ..) -/
theorem pe_meth {pl : Sem Bool} (he : PE X o ta) (c : Cls X.K C) (hm : Meth X.K C m f) (F : FnOk X.prog X.w X.K X.mg X.base CX k f fd ps sp) (hr : Room k X.A) (hb : Binds X.K fd ps ds) (hd : Vals dvs ds) (hx : Passes CX X E) (ha : PA X (e :: es) t)
    (hst : starEach (e :: es) X.env = (false, eval e X.env) :: starEach es X.env := by rfl) (hpl : (backTo pos (starEach es X.env)).any (·.1) = false := by rfl)
    (ht : eval (.Call (.Attribute o m apos) (e :: es) [] pos) X.env = (do
      let ov ← eval o X.env
      standAt apos.atName
      let (f, first) ← holding [ov] (getMethod ov m pl)
      callWith pos f first (backTo pos (starEach (e :: es) X.env)) (backToKw pos (keywordEach [] X.env))) := by rfl) :
    PE X (.Call (.Attribute o m apos) (e :: es) [] pos) (tMeth C m sp dvs E ta t) := by
  intro pins s σ H Q I h
  refine PySem.W.methodCall_KW (pl := pl) (thn (he pins s σ H _ I h) fun u s1 ⟨x, H1, I1, rx, a, dx, fs, ex, ea, l, q⟩ => ?_) ht
  subst ex
  obtain rfl : u = Value.ref a := rx
  refine getmeth_ok I1 ea c hm l ?_
  refine PySem.W.callWith_K (first := [.ref a]) (h₀ := X.base) I.ok.mod.kin hm.kp (thn (ha pos pins s1 σ H1 _ I1 q) fun us s2 ⟨vs, H2, I2, r, q2⟩ => ⟨I2.kIn, ?_⟩) hst hpl
  exact run_fn (us := .ref a :: us) (vs := .ref a :: vs) F hr hb hd hx I2 (.cons rfl r) q2
/-- o.m() -/
theorem pe_meth0 {pl : Sem Bool} (he : PE X o ta) (c : Cls X.K C) (hm : Meth X.K C m f) (F : FnOk X.prog X.w X.K X.mg X.base CX k f fd ps sp) (hr : Room k X.A) (hb : Binds X.K fd ps ds) (hd : Vals dvs ds) (hx : Passes CX X E)
    (ht : eval (.Call (.Attribute o m apos) [] [] pos) X.env = (do
      let ov ← eval o X.env
      standAt apos.atName
      let (f, first) ← holding [ov] (getMethod ov m pl)
      callWith pos f first (backTo pos (starEach [] X.env)) (backToKw pos (keywordEach [] X.env))) := by rfl) :
    PE X (.Call (.Attribute o m apos) [] [] pos) (tMeth C m sp dvs E ta tNil) := by
  intro pins s σ H Q I h
  refine PySem.W.methodCall_KW (pl := pl) (thn (he pins s σ H _ I h) fun u s1 ⟨x, H1, I1, rx, a, dx, fs, ex, ea, l, q⟩ => ?_) ht
  subst ex
  obtain rfl : u = Value.ref a := rx
  refine getmeth_ok I1 ea c hm l ?_
  exact PySem.W.callWith_K0 (first := [.ref a]) I1.kIn hm.kp (run_fn (us := [.ref a]) (vs := [.ref a]) F hr hb hd hx I1 (.cons rfl .nil) q)

/-- what a class must have to be made -/
structure Mk (K : PySem.W.Frag) (C f : Addr) : Prop where
  makes : PySem.W.makesIn K C = true
  init : PySem.W.findIn K (.ref C) "__init__" = some (some (.ref f))
  fn : PySem.W.isFn K (.ref f) = true
  kp : PySem.W.keepIn K (.ref C) = true

theorem run_make {pins : List (Addr × Obj)} {σ : St} {H : Hp} {s : Shared} {Q : VK} {us : List Value} {vs : List V} (M : Mk X.K C f) (F : FnOk X.prog X.w X.K X.mg X.base CX k f fd ps sp) (hr : Room (k + 1) X.A) (hb : Binds X.K fd ps ds) (hd : Vals dvs ds)
    (hx : Passes CX X E) (I : Inv X pins σ H s) (r : Vals vs us)
    (h : ∀ x dx, H x = none → H dx = none → dx ≠ x → sp (.ref x :: (vs ++ dvs)) (upd (upd H dx (.own x)) x (.ins C dx [])) (fun v H2 => v = .non ∧ Q (.ref x) H2) E) :
    wpAny (model X.prog X.w) X.A (call (.ref C) us) (EP X pins σ Q) X.xe s := by
  have hq := h (s.heap.objs.size + 1) s.heap.objs.size (I.hok.fresh (Nat.le_succ _)) (I.hok.fresh (Nat.le_refl _)) (Nat.ne_of_lt (Nat.lt_succ_self _))
  have I2 := Inv.made (C := C) I
  have r2 : Vals (V.ref (s.heap.objs.size + 1) :: (vs ++ dvs)) (Value.ref (s.heap.objs.size + 1) :: (us ++ ds)) := .cons rfl (r.append hd)
  have hl : (Value.ref (s.heap.objs.size + 1) :: us ++ ds).length = ps.length := by
    have e := r2.length
    rw [F.len _ _ _ _ hq] at e
    exact e.symm
  refine wpAny_call (make_map (f := f) I.kIn M.makes M.init (beq_iff_eq.mp M.fn) (codeAny_mono (F.run _ X.stack _ _ ⟨Value.ref (s.heap.objs.size + 1) :: us, []⟩ (Value.ref (s.heap.objs.size + 1) :: (us ++ ds)) _ _ E (hr.make C us [])
    (I2.env0.make C us []) (hb _ (Value.ref (s.heap.objs.size + 1) :: us) I2.kIn hl) r2 hq) fun r s' hq' => ?_))
  cases r with
  | error e => exact hx pins σ _ _ e s' I2 hq'
  | ok fl =>
    cases fl with
    | ret u =>
      obtain ⟨v, H', I3, rv, ev, q3⟩ := I2.after hq'
      subst ev
      exact ⟨rv, ⟨V.ref (s.heap.objs.size + 1), H', I3, rfl, q3⟩⟩
    | next => exact False.elim hq'
    | brk => exact False.elim hq'
    | cont => exact False.elim hq'
theorem pe_make (M : Mk X.K C f) (F : FnOk X.prog X.w X.K X.mg X.base CX k f fd ps sp) (hr : Room (k + 1) X.A) (hg : Gl X x) (hm : X.mg x = some (.ref C)) (hb : Binds X.K fd ps ds) (hd : Vals dvs ds) (hx : Passes CX X E)
    (ha : PA X (e :: es) t) (hdb : (x == ("__debug__" : Str)) = false := by decide) (he : starEach (e :: es) X.env = (false, eval e X.env) :: starEach es X.env := by rfl) (hpl : (backTo pos (starEach es X.env)).any (·.1) = false := by rfl) :
    PE X (.Call (.Name x p) (e :: es) [] pos) (tMake C sp dvs E t) := by
  intro pins s σ H Q I h
  refine wpAny_Call_Name_kw (ld_glob I hg hm ?_ hdb)
  refine PySem.W.callWith_K (h₀ := X.base) I.ok.mod.kin M.kp (thn (ha pos pins s σ H _ I h) fun us s1 ⟨vs, H1, I1, r, q⟩ => ⟨I1.kIn, ?_⟩) he hpl
  exact run_make M F hr hb hd hx I1 r q
end

/-! ### keywords -/
section
variable {X : Cx} {CX : CXT} {k : Nat} {f C : Addr} {fd : FuncData} {ps ks : List Str} {sp : Sp} {E : XK} {x m : Str} {p pos apos kpos : Pos} {e o : Expr} {es : List Expr} {kws : List Keyword} {te ta : TE} {t tk : TA} {nm : Option Str}

variable {g : List Value → List Value → List Value} {gV : List V → List V → List V}
end

/-! ### a def's body keeps its promise -/
/-- names: the parameters first -/
structure FnScope (N P : List Str) (sc : Scope) : Prop where
  kind : sc.kind = .function
  co : sc.isCoroutine = false
  gen : sc.isGenerator = false
  nd : N.Nodup
  pre : N.take P.length = P
  par : ∀ x ∈ P, sc.names.lookup x = some .local ∨ sc.names.lookup x = some .cell
  nofree : ∀ y ∈ sc.names, y.2 ≠ .free

theorem bindL_out {kindOf : Str → Option NameKind} {x : Str} : ∀ {binds : List (Str × Value)} {m : Str → Option Value}, (∀ v, (x, v) ∉ binds) → bindL kindOf binds m x = m x
  | [], _, _ => rfl
  | (n, v) :: r, m, h => by
    unfold bindL
    rw [bindL_out fun w hw => h w (List.mem_cons_of_mem _ hw)]
    split
    · have : x ≠ n := by rintro rfl; exact h v List.mem_cons_self
      simp [this]
    · rfl
theorem bindC_out {kindOf : Str → Option NameKind} {x : Str} : ∀ {binds : List (Str × Value)} {m : Str → Option Value}, (∀ v, (x, v) ∉ binds) → bindC kindOf binds m x = m x
  | [], _, _ => rfl
  | (n, v) :: r, m, h => by
    unfold bindC
    rw [bindC_out fun w hw => h w (List.mem_cons_of_mem _ hw)]
    split
    · rfl
    · have : x ≠ n := by rintro rfl; exact h v List.mem_cons_self
      simp [this]
theorem bindL_get {kindOf : Str → Option NameKind} {x : Str} {v : Value} : ∀ {P : List Str} {vs : List Value} {i : Nat} {m : Str → Option Value}, P.Nodup → P[i]? = some x → vs[i]? = some v → kindOf x = some .local →
    bindL kindOf (P.zip vs) m x = some v
  | [], _, _, _, _, h, _, _ => by simp at h
  | _ :: _, [], _, _, _, _, h, _ => by simp at h
  | p :: P, w :: vs, 0, m, nd, h1, h2, hk => by
    simp at h1 h2; subst h1; subst h2
    show bindL kindOf ((p, w) :: P.zip vs) m p = _
    unfold bindL
    rw [bindL_out fun v hv => (List.nodup_cons.mp nd).1 (List.of_mem_zip hv).1, if_pos hk]
    simp
  | p :: P, w :: vs, i + 1, m, nd, h1, h2, hk => by
    show bindL kindOf ((p, w) :: P.zip vs) m x = _
    unfold bindL
    exact bindL_get (i := i) (List.nodup_cons.mp nd).2 (by simpa using h1) (by simpa using h2) hk
theorem bindC_get {kindOf : Str → Option NameKind} {x : Str} {v : Value} : ∀ {P : List Str} {vs : List Value} {i : Nat} {m : Str → Option Value}, P.Nodup → P[i]? = some x → vs[i]? = some v → kindOf x ≠ some .local →
    bindC kindOf (P.zip vs) m x = some v
  | [], _, _, _, _, h, _, _ => by simp at h
  | _ :: _, [], _, _, _, _, h, _ => by simp at h
  | p :: P, w :: vs, 0, m, nd, h1, h2, hk => by
    simp at h1 h2; subst h1; subst h2
    show bindC kindOf ((p, w) :: P.zip vs) m p = _
    unfold bindC
    rw [bindC_out fun v hv => (List.nodup_cons.mp nd).1 (List.of_mem_zip hv).1, if_neg hk]
    simp
  | p :: P, w :: vs, i + 1, m, nd, h1, h2, hk => by
    show bindC kindOf ((p, w) :: P.zip vs) m x = _
    unfold bindC
    exact bindC_get (i := i) (List.nodup_cons.mp nd).2 (by simpa using h1) (by simpa using h2) hk

/-- the names' values at the entry -/
def start (N : List Str) (vs : List V) : St := vs.map some ++ List.replicate (N.length - vs.length) none

/-- the context of a def's body, at its entry; an exception leaves the frame, then lies as CX says -/
def cxOf (CX : CXT) (P : Program) (w : World) (K : PySem.W.Frag) (mg : Str → Option Value) (base : Heap) (N : List Str) (qual : Str) (scope : Scope) (f : Addr) (cd : Value) (A : Around) (outer : List Env) (s : Shared) (H : Hp) (E : XK) : Cx where
  prog := P
  w := w
  K := K
  mg := mg
  base := base
  A := A.deeper (envOfC qual scope s.heap.objs.size f cd)
  N := N
  s₀ := s
  H₀ := H
  env := envOfC qual scope s.heap.objs.size f cd
  outer := outer
  stack := envOfC qual scope s.heap.objs.size f cd :: outer
  ex := []
  calm := true
  fn := fun _ => true
  pn := []
  xe := fun e s' => wpAny (model P w) (A.deeper (envOfC qual scope s.heap.objs.size f cd)) (leaving (envOfC qual scope s.heap.objs.size f cd) e) (fun _ s'' => CX outer H s E e s'') (fun e' s'' => CX outer H s E e' s'') s'

theorem cell_has {sc : Scope} {n : Nat} {x : Str} (h : sc.names.lookup x = some .cell) : ∃ c, (cellsFrom n sc.names []).lookup x = some c := by
  have q := PySem.W.cellsFrom_some sc.names n [] (.inl h)
  exact Option.isSome_iff_exists.mp q

theorem inv_start {CX : CXT} {P : Program} {w : World} {K : PySem.W.Frag} {mg : Str → Option Value} {base : Heap} {N ps : List Str} {qual : Str} {scope : Scope} {f : Addr} {cd : Value} {A : Around} {outer : List Env} {s s1 : Shared} {H : Hp} {E : XK} {us : List Value} {vs : List V}
    (S : FnScope N ps scope) (hd : A.handled = none) (e0 : Env0 P w K mg base A outer s H) (hl : vs.length = ps.length) (r : Vals vs us)
    (x : InCallC s s.heap.objs.size (bindL (envOfC qual scope s.heap.objs.size f cd).kindOf (ps.zip us) fun _ => none) (cellsFrom (s.heap.objs.size + 1) scope.names []) (bindC (envOfC qual scope s.heap.objs.size f cd).kindOf (ps.zip us) fun _ => none) s1) :
    Inv (cxOf CX P w K mg base N qual scope f cd A outer s H E) [] (start N vs) H s1 := by
  have hpl : ps.length ≤ N.length := by have := congrArg List.length S.pre; rw [List.length_take] at this; omega
  obtain ⟨h1, tk, rfl, hk⟩ := x.done
  have noA : ∀ b : Addr, b ∉ (cxOf CX P w K mg base N qual scope f cd A outer s H E).ex := fun b z => absurd (show b ∈ ([] : List Addr) from z) (by simp)
  refine ⟨⟨e0.mod, S.kind, rfl, rfl, Nat.le_refl _, fun y z c h1 h2 => ?_, fun y hy => ?_, fun y c _ h => ?_, fun _ => hd, Around.frames_deeper e0.frames, .inr ⟨rfl, rfl⟩, fun b z => absurd z (noA b), e0.bs, e0.bsz, fun b _ _ => noA b, fun b z => absurd z (noA b), e0.funs, e0.frf⟩,
    rfl, e0.bare, Un.kept hk, ⟨_, x.toInCall.ns, fun i y v h1 h2 h3 => ?_⟩, fun y c h => ⟨_, x.cell y c h⟩, e0.hok.fresh (Nat.le_refl _), fun y c h => ?_, fun p hp => absurd (show p ∈ ([] : List (Addr × Obj)) from hp) (by simp), e0.hok.kept hk, ?_⟩
  · exact name_of_addr x.apart (PySem.mem_of_lookup h1) (PySem.mem_of_lookup h2)
  · have hy : scope.names.lookup y = some .cell ∨ scope.names.lookup y = some .free := hy
    rcases hy with hy | hy
    · exact cell_has hy
    · exact absurd rfl (S.nofree _ (PySem.mem_of_lookup hy))
  · exact Nat.le_of_lt (x.above y c (PySem.mem_of_lookup h))
  · have hi : i < vs.length := by
      unfold start at h2
      by_cases hi : i < vs.length
      · exact hi
      · rw [List.getElem?_append_right (by simpa using hi)] at h2
        rw [List.getElem?_replicate] at h2
        split at h2 <;> cases h2
    have ha : vs[i]? = some v := by
      unfold start at h2
      rw [List.getElem?_append_left (by simpa using hi), List.getElem?_map] at h2
      cases e : vs[i]? with
      | none => rw [e] at h2; cases h2
      | some a => rw [e] at h2; cases h2; rfl
    obtain ⟨u, hu, rv⟩ := r.get ha
    have hp : ps[i]? = some y := by
      rw [← S.pre, List.getElem?_take_of_lt (by omega)]; exact h1
    have ndP : ps.Nodup := by rw [← S.pre]; exact S.nd.sublist (List.take_sublist _ _)
    refine ⟨u, rv, ?_⟩
    rcases S.par y (List.mem_of_getElem? hp) with k | k
    · exact .inl ⟨k, bindL_get ndP hp hu k⟩
    · obtain ⟨c, e⟩ := cell_has (n := s.heap.objs.size + 1) k
      refine .inr ⟨.inl k, c, e, ?_⟩
      have q := x.cell y c e
      rw [bindC_get ndP hp hu (by show scope.names.lookup y ≠ _; rw [k]; decide)] at q
      exact q
  · exact e0.hok.fresh (Nat.le_of_lt (x.above y c (PySem.mem_of_lookup h)))
  · unfold start
    show _ = N.length
    rw [List.length_append, List.length_map, List.length_replicate]
    omega

/-- THE RULE: a def (or a method) of the text, by its body. The body's reading t is chosen for each entry; it is run at the parameters' values -/
theorem fn_of {CX : CXT} {P : Program} {w : World} {K : PySem.W.Frag} {mg : Str → Option Value} {base : Heap} {k : Nat} {f : Addr} {name qual : Str} {params : Arguments} {body : List Stmt} {scope : Scope} {dV kV doc pm cdv ct oc : Value} {an od : Option Addr}
    {osl : Array (Option Value)} {N ps : List Str} {sp : Sp} (lk : K.lookup f = some ⟨oc, od, .func (PySem.W.fnOf name qual params body scope dV kV doc pm an cdv ct), osl⟩) (hcd : PySem.W.codeIn K cdv qual = true) (S : FnScope N ps scope)
    (len : ∀ vs H Q E, sp vs H Q E → vs.length = ps.length)
    (hbody : ∀ (A : Around) (outer : List Env) (s : Shared) (H : Hp) (vs : List V) (Q : VK) (E : XK), Room k (A.deeper (envOfC qual scope s.heap.objs.size f cdv)) → sp vs H Q E →
      ∃ t, PSs (cxOf CX P w K mg base N qual scope f cdv A outer s H E) body t ∧ t { nx := fun _ H' => Q .non H', rt := Q } (start N vs) H) :
    FnOk P w K mg base CX (k + 1) f (PySem.W.fnOf name qual params body scope dV kV doc pm an cdv ct) ps sp := by
  refine ⟨len, fun A outer s H args us vs Q E hr e0 hb r hsp => ?_⟩
  have hl := len _ _ _ _ hsp
  have KX : K.In s.heap := e0.mod.kin.keeps fun b o e => (e0.bs b o e).1
  have lim : s.heap.NoLimit := e0.mod.nolimit.keeps fun b o e => (e0.bs b o e).1
  have hkind : ∀ y ∈ ps.zip us, scope.names.lookup y.1 = some .local ∨ (scope.names.lookup y.1 = some .cell ∧ ((cellsFrom (s.heap.objs.size + 1) scope.names []).lookup y.1).isSome = true) := fun ⟨n, v⟩ hy => by
    rcases S.par n (List.of_mem_zip hy).1 with q | q
    · exact .inl q
    · exact .inr ⟨q, PySem.W.cellsFrom_some _ _ _ (.inl q)⟩
  refine codeAny_call_function hr.depth (KX _ _ lk) rfl S.co S.gen rfl (PySem.W.codeRec_of KX hcd) (hb _ _ _ _ ?_)
  refine wpAny_newFunctionEnv_cells S.kind hkind fun env he s1 x => ?_
  subst he
  refine ⟨lim.keeps x.toInCall.keep, codeAny_func ?_⟩
  obtain ⟨t, ht, hq⟩ := hbody A outer s H vs Q E (hr.deeper _) hsp
  have I : Inv (cxOf CX P w K mg base N qual scope f cdv A outer s H E) [] (start N vs) H s1 := inv_start S hr.hd e0 hl r x
  refine wpAny_mono (ht [] s1 (start N vs) H _ I hq) (fun fl s' hs => ?_) fun e s' hs => hs
  have fin : ∀ {σ' : St} {H' : Hp} {v : V} {u : Value}, Inv (cxOf CX P w K mg base N qual scope f cdv A outer s H E) [] σ' H' s' → RelV v u → Q v H' → CE outer P w H s Q u s' :=
    fun {σ' H' v u} J rv q => ⟨v, H', J.os, J.bare, J.base, J.hok, rv, q⟩
  cases fl with
  | ret u =>
    obtain ⟨v, σ', H', J, rv, q⟩ := hs
    exact fin J rv q
  | next =>
    obtain ⟨σ', H', J, q⟩ := hs
    exact fin (v := V.non) (u := Value.none) J rfl q
  | brk =>
    obtain ⟨_, _, _, q⟩ := hs
    exact False.elim q
  | cont =>
    obtain ⟨_, _, _, q⟩ := hs
    exact False.elim q
end L2

namespace L2
open PySem PySem.Spec PyProof.Rows
section
variable {X : Cx} {x : Str} {p pos : Pos} {e : Expr} {es : List Expr} {t : TA} {id T : String} {r : List V → Hp → VK → Prop}

def tCB (r : List V → Hp → VK → Prop) (t : TA) : TE := fun σ H Q => t σ H fun vs H1 => r vs H1 Q
/-- f(e, ..), f a built-in function -/
theorem pe_callB (hc : CallR X (.builtin id) r) (hg : Gl X x) (hm : X.mg x = none) (hv : bootBuiltins x = some (.builtin id)) (ha : PA X (e :: es) t) (hn : x ≠ "__name__" := by decide) (hdb : (x == ("__debug__" : Str)) = false := by decide)
    (he : starEach (e :: es) X.env = (false, eval e X.env) :: starEach es X.env := by rfl) (hpl : (backTo pos (starEach es X.env)).any (·.1) = false := by rfl) : PE X (.Call (.Name x p) (e :: es) [] pos) (tCB r t) := by
  intro pins s σ H Q I h
  refine wpAny_Call_Name_kw (ld_blt I hg hm hv ?_ hn hdb)
  exact PyProof.Rows.callWith_builtin1 (thn (ha pos pins s σ H _ I h) fun us s1 ⟨vs, H1, I1, r1, q1⟩ => hc pins s1 σ H1 vs us Q I1 r1 q1) he hpl
/-- T(e, ..), T a built-in type -/
theorem pe_callTy (hc : CallR X (.type T) r) (hg : Gl X x) (hm : X.mg x = none) (hv : bootBuiltins x = some (.type T)) (ha : PA X (e :: es) t) (hn : x ≠ "__name__" := by decide) (hdb : (x == ("__debug__" : Str)) = false := by decide)
    (he : starEach (e :: es) X.env = (false, eval e X.env) :: starEach es X.env := by rfl) (hpl : (backTo pos (starEach es X.env)).any (·.1) = false := by rfl) : PE X (.Call (.Name x p) (e :: es) [] pos) (tCB r t) := by
  intro pins s σ H Q I h
  refine wpAny_Call_Name_kw (ld_blt I hg hm hv ?_ hn hdb)
  exact PyProof.Rows.callWith_type1 (thn (ha pos pins s σ H _ I h) fun us s1 ⟨vs, H1, I1, r1, q1⟩ => hc pins s1 σ H1 vs us Q I1 r1 q1) he hpl
end
end L2

namespace HT
open PySem PyProof.Rows



section
open PySem.SeqAt
open PySem.AutoSeq1 (wpAny_loadPart')
open PySem.MeetsSeq PySem.MeetsSeq2 PySem.MeetsSeq3

end

section
variable {prog : Program} {w : World} {A : Around} {E : Value → Shared → Prop} {s : Shared}



/-! ### t[a:b], not the whole -/
/-- a slice's bound as a place among n (d where it is left out) -/
def sIx (n d : Nat) : Option Int → Nat
  | none => d
  | some v => if v < 0 then (v + (n : Int)).toNat else min v.toNat n
theorem sIx_none (n d : Nat) : sIx n d none = d := rfl
theorem sIx_nat (n d k : Nat) : sIx n d (some (k : Int)) = min k n := by
  show (if (k : Int) < 0 then ((k : Int) + (n : Int)).toNat else min (k : Int).toNat n) = min k n
  rw [if_neg (by omega), Int.toNat_natCast]

end
end HT

namespace L2
open PySem PySem.Spec PyProof.Rows

/-! ### the parts of a slice -/
abbrev TO := St → Hp → (Option Int → Hp → Prop) → Prop
/-- a slice's part (left out, or an int) -/
def PO (X : Cx) (e : Option Expr) (t : TO) : Prop :=
  ∀ (pins : List (Addr × Obj)) (s : Shared) (σ : St) (H : Hp) (Q : Option Int → Hp → Prop), Inv X pins σ H s → t σ H Q →
    wpAny (model X.prog X.w) X.A (evalPart e X.env) (fun u s' => ∃ o H', Inv X pins σ H' s' ∧ IsPart u o ∧ Q o H') X.xe s
def tNoPart : TO := fun _ H Q => Q none H
def tPart (t : TE) : TO := fun σ H Q => t σ H fun x H1 => ∃ i, x = .int i ∧ Q (some i) H1


section
variable {X : Cx} {e : Expr} {te : TE} {lo hi : Option Expr} {tl th : TO} {pos p2 : Pos}

theorem po_none : PO X none tNoPart := by
  intro pins s σ H Q I h
  rw [evalPart_none]
  exact wpAny_pure ⟨none, H, I, .none, h⟩
theorem po_some (h : PE X e te) : PO X (some e) (tPart te) := by
  intro pins s σ H Q I hw
  rw [evalPart_some]
  refine thn (h pins s σ H _ I hw) fun u s1 ⟨x, H1, I1, r1, q1⟩ => ?_
  obtain ⟨i, rfl, q⟩ := q1
  obtain ⟨t, rfl⟩ := r1
  exact ⟨some i, H1, I1, .int i t, q⟩

/-- what a slice of a value is, by values: the slice object stands at sl -/
def SlR (X : Cx) (r : V → Option Int → Option Int → Hp → VK → Prop) : Prop :=
  ∀ (pins : List (Addr × Obj)) (s : Shared) (σ : St) (H : Hp) (x : V) (v vl vu : Value) (lo hi : Option Int) (sl : Addr) (Q : VK), Inv X pins σ H s → RelV x v → s.heap.IsSliceOf sl vl vu .none → IsPart vl lo → IsPart vu hi → r x lo hi H Q →
    ∃ T id, typeLookup (.type T) "__getitem__" = pure (some (.builtin id)) ∧ s.TypeIs v T ∧ wpAny (model X.prog X.w) X.A (getItem v (.ref sl)) (EP X pins σ Q) X.xe s
theorem SlR.or {r r' : V → Option Int → Option Int → Hp → VK → Prop} (h : SlR X r) (h' : SlR X r') : SlR X (fun x lo hi H Q => r x lo hi H Q ∨ r' x lo hi H Q) := by
  intro pins s σ H x v vl vu lo hi sl Q I rx hs pl pu q
  rcases q with q | q
  · exact h pins s σ H x v vl vu lo hi sl Q I rx hs pl pu q
  · exact h' pins s σ H x v vl vu lo hi sl Q I rx hs pl pu q
def tSl (r : V → Option Int → Option Int → Hp → VK → Prop) (te : TE) (tl th : TO) : TE := fun σ H Q => te σ H fun x H1 => tl σ H1 fun l H2 => th σ H2 fun u H3 => r x l u H3 Q
/-- a[lo:hi], any a -/
theorem pe_slice {r : V → Option Int → Option Int → Hp → VK → Prop} (hr : SlR X r) (he : PE X e te) (hl : PO X lo tl) (hu : PO X hi th) : PE X (.Subscript e (.Slice lo hi none p2) pos) (tSl r te tl th) := by
  intro pins s σ H Q I h
  refine Subscript_ (thn (he pins s σ H _ I h) fun v s1 ⟨x, H1, I1, r1, q1⟩ => ?_)
  refine wpAny_Slice (thn (hl pins s1 σ H1 _ I1 q1) fun vl s2 ⟨l, H2, I2, pl, q2⟩ => thn (hu pins s2 σ H2 _ I2 q2) fun vu s3 ⟨u, H3, I3, pu, q3⟩ => ?_)
  rw [evalPart_none]
  refine wpAny_pure ?_
  have I4 : Inv X pins σ H3 { s3 with heap := s3.heap.push { cls := .type "slice", data := .fields #[vl, vu, .none] } } := I3.kept (t' := s3.toks) fun b ob q => Heap.get?_push_of_some _ q
  obtain ⟨T, id, hT, ht, hg⟩ := hr pins { s3 with heap := s3.heap.push { cls := .type "slice", data := .fields #[vl, vu, .none] } } σ H3 x v vl vu l u s3.heap.objs.size Q I4 r1 (Heap.IsSliceOf.new ..) pl pu q3
  show wpAny (model X.prog X.w) X.A (subscriptTail e (.Slice lo hi none p2) v (.ref s3.heap.objs.size)) (EP X pins σ Q) X.xe { s3 with heap := s3.heap.push { cls := .type "slice", data := .fields #[vl, vu, .none] } }
  exact tail_any (ops := [.ref s3.heap.objs.size, v]) ht hT hg (by with_unfolding_all rfl)

/-- the items of xs[lo:hi] -/
def cutV (xs : List V) (lo hi : Option Int) : List V := (xs.drop (HT.sIx xs.length 0 lo)).take (HT.sIx xs.length xs.length hi - HT.sIx xs.length 0 lo)
theorem cutV_length (xs : List V) (lo hi : Option Int) : (cutV xs lo hi).length ≤ xs.length := by
  unfold cutV
  rw [List.length_take, List.length_drop]
  omega

/-! ### t < u, t + u -/
end
end L2

namespace L2
open PySem PySem.Spec PyProof.Rows

/-! ### places -/
/-- the place that an index of any sign means -/
def ixN (n : Nat) (i : Int) : Option Nat := if 0 ≤ i then (if i < n then some i.toNat else none) else if -(n : Int) ≤ i then some (i + n).toNat else none
def atI {α : Type} (xs : List α) (i : Int) : Option α := (ixN xs.length i).bind fun j => xs[j]?
theorem ixN_seq {n : Nat} {i : Int} {j : Nat} (h : ixN n i = some j) : seqIndex? i n = some j ∧ j < n ∧ -(n : Int) ≤ i ∧ i < n := by
  unfold ixN at h
  by_cases h0 : 0 ≤ i
  · rw [if_pos h0] at h
    by_cases h1 : i < n
    · rw [if_pos h1] at h
      have e : i.toNat = j := Option.some.inj h
      exact ⟨by rw [seqIndex_of h0 h1, e], by omega, by omega, h1⟩
    · rw [if_neg h1] at h; cases h
  · rw [if_neg h0] at h
    by_cases h1 : -(n : Int) ≤ i
    · rw [if_pos h1] at h
      have e : (i + n).toNat = j := Option.some.inj h
      exact ⟨by rw [seqIndex_neg (by omega) h1, e], by omega, h1, by omega⟩
    · rw [if_neg h1] at h; cases h
theorem atI_get {α : Type} {xs : List α} {i : Int} {v : α} (h : atI xs i = some v) : ∃ j, seqIndex? i xs.length = some j ∧ xs[j]? = some v ∧ j < xs.length ∧ -(xs.length : Int) ≤ i ∧ i < xs.length := by
  unfold atI at h
  cases e : ixN xs.length i with
  | none => rw [e] at h; cases h
  | some j =>
    rw [e] at h
    obtain ⟨h1, h2, h3, h4⟩ := ixN_seq e
    exact ⟨j, h1, h, h2, h3, h4⟩
theorem atI_nat {α : Type} {xs : List α} {j : Nat} {v : α} (h : xs[j]? = some v) : atI xs (j : Int) = some v := by
  have hj : j < xs.length := (List.getElem?_eq_some_iff.mp h).1
  have e : ixN xs.length (j : Int) = some j := by
    unfold ixN
    rw [if_pos (by omega), if_pos (by omega)]; simp
  unfold atI; rw [e]; exact h

/-! ### what may be subscripted -/
/-- what stands as an index of a plain subscript -/
def PlainIx (b : Expr) : Prop := ∀ o i, subscripted b false o i = operate [o, i] (getItem o i)
/-- a subscript by values -/
def IxR (X : Cx) (r : R2) : Prop :=
  ∀ (value slice : Expr) (pins : List (Addr × Obj)) (s : Shared) (σ : St) (H : Hp) (x y : V) (v u : Value) (Q : VK), Inv X pins σ H s → RelV x v → RelV y u → r x y H Q →
    subscripted slice false v u = operate [v, u] (getItem v u) → wpAny (model X.prog X.w) X.A (subscriptTail value slice v u) (EP X pins σ Q) X.xe s
/-- a call of a builtin's method by values: the receiver, the arguments -/
def MtR (X : Cx) (id : String) (r : V → List V → Hp → VK → Prop) : Prop :=
  ∀ (pins : List (Addr × Obj)) (s : Shared) (σ : St) (H : Hp) (x : V) (xs : List V) (v : Value) (us : List Value) (Q : VK), Inv X pins σ H s → RelV x v → Vals xs us → r x xs H Q →
    wpAny (model X.prog X.w) X.A (call (.builtin id) (v :: us)) (EP X pins σ Q) X.xe s
section
variable {X : Cx} {a b : Expr} {ta tb : TE} {pos : Pos}
theorem IxR.or {r r' : R2} (h : IxR X r) (h' : IxR X r') : IxR X (fun x y H Q => r x y H Q ∨ r' x y H Q) := by
  intro value slice pins s σ H x y v u Q I rx ry q hs
  rcases q with q | q
  · exact h value slice pins s σ H x y v u Q I rx ry q hs
  · exact h' value slice pins s σ H x y v u Q I rx ry q hs
theorem MtR.or {id : String} {r r' : V → List V → Hp → VK → Prop} (h : MtR X id r) (h' : MtR X id r') : MtR X id (fun x xs H Q => r x xs H Q ∨ r' x xs H Q) := by
  intro pins s σ H x xs v us Q I rx rs q
  rcases q with q | q
  · exact h pins s σ H x xs v us Q I rx rs q
  · exact h' pins s σ H x xs v us Q I rx rs q
/-- a[b] -/
theorem pe_ix {r : R2} (hr : IxR X r) (ha : PE X a ta) (hb : PE X b tb) (hs : PlainIx b) : PE X (.Subscript a b pos) (tOp r ta tb) := by
  intro pins s σ H Q I h
  exact Subscript_ (binT ha hb I h fun v u s2 x y H2 I2 rx ry q => hr a b pins s2 σ H2 x y v u Q I2 rx ry q (hs _ _))

def rIxL (K : PySem.W.Frag) : R2 := fun x y H Q => ∃ p xs i v, x = .ref p ∧ y = .int i ∧ SqL K H p xs ∧ atI xs i = some v ∧ Q v H
def rIxT (K : PySem.W.Frag) : R2 := fun x y H Q => ∃ p xs i v, x = .ref p ∧ y = .int i ∧ SqT K H p xs ∧ atI xs i = some v ∧ Q v H
theorem ix_list : IxR X (rIxL X.K) := by
  intro value slice pins s σ H x y v u Q I rx ry h hs
  obtain ⟨p, xs, i, z, rfl, rfl, hq, he, q⟩ := h
  cases rx
  obtain ⟨t, rfl⟩ := ry
  obtain ⟨its, r, pl, hz⟩ := I.list hq
  obtain ⟨j, h1, h2, h3, h4, h5⟩ := atI_get he
  obtain ⟨w, ew, rw'⟩ := r.get h2
  have hl := r.length
  have hn := line63
  have fin : EP X pins σ Q w s := ⟨z, H, I, rw', q⟩
  by_cases h0 : 0 ≤ i
  · have hj : i.toNat = j := by
      rw [seqIndex_of h0 h5] at h1
      exact Option.some.inj h1
    exact item_listR pl.isList h0 (by omega) (by rw [hj]; simpa using ew) fin hs
  · have hj : (i + (its.toArray.size : Int)).toNat = j := by
      rw [seqIndex_neg (by omega) h4] at h1
      rw [List.size_toArray, ← hl]
      exact Option.some.inj h1
    exact subscriptTail_builtinR (x := w) pl.isList.typeIs slot_list_getitem.lookup
      (wpAny_getItem_list_neg (Q := fun r s' => r = w ∧ EP X pins σ Q r s') pl.isList (by omega) (by rw [List.size_toArray] <;> omega) (by omega) (by rw [hj]; simpa using ew) ⟨rfl, fin⟩) hs
theorem ix_tup : IxR X (rIxT X.K) := by
  intro value slice pins s σ H x y v u Q I rx ry h hs
  obtain ⟨p, xs, i, z, rfl, rfl, hq, he, q⟩ := h
  cases rx
  obtain ⟨t, rfl⟩ := ry
  obtain ⟨its, r, pl, hz⟩ := I.tuple hq
  obtain ⟨j, h1, h2, h3, h4, h5⟩ := atI_get he
  obtain ⟨w, ew, rw'⟩ := r.get h2
  have hl := r.length
  have hn := line63
  have fin : EP X pins σ Q w s := ⟨z, H, I, rw', q⟩
  exact subscriptTail_builtinR (x := w) pl.typeIs slot_tuple_getitem.lookup
    (getItem_tuple (j := j) (Q := fun r s' => r = w ∧ EP X pins σ Q r s') pl (by omega) (by omega) (by rw [List.size_toArray, ← hl]; exact h1) (by simpa using ew) ⟨rfl, fin⟩) hs

/-! ### xs[i] = v, any sign -/
theorem Inv.lst {pins : List (Addr × Obj)} {σ : St} {H : Hp} {s : Shared} {p : Addr} {xs : List V} (I : Inv X pins σ H s) (h : H p = some (.lst xs)) :
    ∃ (its : List Value) (n : Nat), Vals xs its ∧ s.heap.get? p = some { cls := .type "list", data := .seq its.toArray n } ∧ xs.length ≤ sizeLine := by
  obtain ⟨z, its, n, r, e⟩ := I.hok p _ h
  exact ⟨its, n, r, e, z⟩

/-! ### slices -/
theorem slice_bounds (lo hi : Option Int) (n : Nat) : (sliceBounds lo hi none n).1 = ((HT.sIx n 0 lo : Nat) : Int) ∧ (sliceBounds lo hi none n).2.1 = ((HT.sIx n n hi : Nat) : Int) ∧ (sliceBounds lo hi none n).2.2 = 1 := by
  refine ⟨?_, ?_, rfl⟩
  · cases lo with
    | none => simp [sliceBounds, HT.sIx]
    | some i =>
      simp only [sliceBounds, HT.sIx, Option.getD_none, show (1 : Int) > 0 by decide, if_true]
      by_cases h : i < 0
      · simp only [h, if_true] <;> omega
      · simp only [h, if_false] <;> omega
  · cases hi with
    | none => simp [sliceBounds, HT.sIx]
    | some i =>
      simp only [sliceBounds, HT.sIx, Option.getD_none, show (1 : Int) > 0 by decide, if_true]
      by_cases h : i < 0
      · simp only [h, if_true] <;> omega
      · simp only [h, if_false] <;> omega
theorem slicePick_cut (its : List Value) (lo hi : Option Int) : slicePick its.toArray lo hi none = ((its.drop (HT.sIx its.length 0 lo)).take (HT.sIx its.length its.length hi - HT.sIx its.length 0 lo)).toArray := by
  obtain ⟨h1, h2, h3⟩ := slice_bounds lo hi its.toArray.size
  unfold slicePick
  rw [h1, h2, h3]
  simp only [sliceRange_one, pick_run, List.size_toArray] <;> rfl
/-- xs[lo:hi] of a list: a new list -/
def rSlL (K : PySem.W.Frag) : V → Option Int → Option Int → Hp → VK → Prop := fun x lo hi H Q => ∃ a xs, x = .ref a ∧ SqL K H a xs ∧ ∀ p, H p = none → Q (.ref p) (upd H p (.lst (cutV xs lo hi)))
theorem sl_list : SlR X (rSlL X.K) := by
  intro pins s σ H x v vl vu lo hi sl Q I rx hs pl pu h
  obtain ⟨a, xs, rfl, hx, q⟩ := h
  cases rx
  obtain ⟨its, r, ht, hz⟩ := I.list hx
  have hlen := r.length
  refine ⟨"list", _, slot_list_getitem.lookup, ht.isList.typeIs, ?_⟩
  refine wpAny_getItem_list_slice ht.isList hs pl pu .none (by simp) ?_ (by rw [List.size_toArray] <;> omega)
  rw [slicePick_cut, ← hlen]
  refine ⟨.ref s.heap.objs.size, _, I.laid (t' := s.toks) (o := .lst (cutV xs lo hi)) (fun b ob q => Heap.get?_push_of_some _ q) (Nat.le_refl _) ?_, rfl, q _ (I.hok.fresh (Nat.le_refl _))⟩
  exact ⟨Nat.le_trans (cutV_length xs lo hi) hz, _, 0, (r.drop (HT.sIx xs.length 0 lo)).take (HT.sIx xs.length xs.length hi - HT.sIx xs.length 0 lo), Heap.get?_push_size _ rfl⟩

/-! ### in, not in: flat items -/

/-! ### len, list(x), tuple(x) of any list or tuple that is read -/
theorem call_len_seq : CallR X (.builtin "len") (fun xs H Q => ∃ p ys, xs = [.ref p] ∧ (SqL X.K H p ys ∨ SqT X.K H p ys) ∧ Q (.int ys.length) H) := by
  intro pins s σ H xs us Q I r h
  obtain ⟨p, ys, rfl, hq, q⟩ := h
  obtain ⟨u, rfl, rx⟩ := vals1 r
  cases rx
  have hn := line63
  rcases hq with hq | hq
  · obtain ⟨its, r', pl, hz⟩ := I.list hq
    have hlen := r'.length
    exact Calls.call_len_list pl.isList (by simp only [List.size_toArray] <;> omega) ⟨.int ys.length, H, I.tok _, ⟨s.toks + 1, by rw [List.size_toArray, hlen]⟩, q⟩
  · obtain ⟨its, r', pl, hz⟩ := I.tuple hq
    have hlen := r'.length
    exact len_tuple pl (by simp only [List.size_toArray] <;> omega) ⟨.int ys.length, H, I.tok _, ⟨s.toks + 1, by rw [List.size_toArray, hlen]⟩, q⟩
theorem CallR.or {f : Value} {r r' : List V → Hp → VK → Prop} (h : CallR X f r) (h' : CallR X f r') : CallR X f (fun xs H Q => r xs H Q ∨ r' xs H Q) := by
  intro pins s σ H xs us Q I rs q
  rcases q with q | q
  · exact h pins s σ H xs us Q I rs q
  · exact h' pins s σ H xs us Q I rs q
theorem call_list_of : CallR X (.type "list") (fun xs H Q => ∃ p ys, xs = [.ref p] ∧ (SqL X.K H p ys ∨ SqT X.K H p ys) ∧ ∀ l, H l = none → Q (.ref l) (upd H l (.lst ys))) := by
  intro pins s σ H xs us Q I r h
  obtain ⟨p, ys, rfl, hq, q⟩ := h
  obtain ⟨u, rfl, rx⟩ := vals1 r
  cases rx
  have fin : ∀ (its : List Value), Vals ys its → ys.length ≤ sizeLine → ∀ (h' : Heap) (c' : Nat), (∀ b o', s.heap.get? b = some o' → h'.get? b = some o') →
      h'.get? s.heap.objs.size = some { cls := .type "list", dict := none, data := .seq its.toArray c', slots := #[] } → EP X pins σ Q (.ref s.heap.objs.size) { s with heap := h' } := fun its r' hz h' c' kp e =>
    ⟨.ref s.heap.objs.size, _, I.laid (t' := s.toks) kp (Nat.le_refl _) (show ObjOk X.prog X.w _ h' _ (.lst ys) from ⟨hz, its, c', r', e⟩), rfl, q _ (I.hok.fresh (Nat.le_refl _))⟩
  rcases hq with hq | hq
  · obtain ⟨its, r', pl, hz⟩ := I.list hq
    have hlen := r'.length
    obtain ⟨o, ho, hc, n, hd⟩ := pl.isList
    exact call_list_seq p (.inl rfl) ho hc hd (fun h' c' kp e => fin its r' hz h' c' kp e) (by simp only [List.size_toArray] <;> omega)
  · obtain ⟨its, r', pl, hz⟩ := I.tuple hq
    have hlen := r'.length
    obtain ⟨o, ho, hc, n, hd⟩ := pl
    exact call_list_seq p (.inr rfl) ho hc hd (fun h' c' kp e => fin its r' hz h' c' kp e) (by simp only [List.size_toArray] <;> omega)
theorem call_tuple_of : CallR X (.type "tuple") (fun xs H Q => ∃ p ys, xs = [.ref p] ∧ ((SqL X.K H p ys ∧ ∀ l, H l = none → Q (.ref l) (upd H l (.tup ys))) ∨ (SqT X.K H p ys ∧ Q (.ref p) H))) := by
  intro pins s σ H xs us Q I r h
  obtain ⟨p, ys, rfl, h⟩ := h
  obtain ⟨u, rfl, rx⟩ := vals1 r
  cases rx
  rcases h with ⟨hq, q⟩ | ⟨hq, q⟩
  · obtain ⟨its, r', pl, hz⟩ := I.list hq
    have hlen := r'.length
    refine call_tuple_list pl.isList (fun h' kp => ?_) (by simp only [List.size_toArray] <;> omega)
    have I1 : Inv X pins σ H { s with heap := h' } := I.kept (t' := s.toks) kp
    have I2 : Inv X pins σ (upd H h'.objs.size (.tup ys)) { s with heap := h'.push { cls := .type "tuple", data := .seq its.toArray } } :=
      I1.laid (t' := s.toks) (fun b o e => Heap.get?_push_of_some _ e) (Nat.le_refl _) (show ObjOk X.prog X.w _ _ _ (.tup ys) from ⟨hz, its, r', IsTup.new _ _⟩)
    exact ⟨.ref h'.objs.size, _, I2, rfl, q _ (I1.hok.fresh (Nat.le_refl _))⟩
  · obtain ⟨its, r', pl, hz⟩ := I.tuple hq
    exact call_tuple_same pl ⟨.ref p, H, I, rfl, q⟩

/-! ### the call of a builtin's method: o.m(..) -/
/-- the value is of that builtin type -/
def tyV (K : PySem.W.Frag) (T : String) (x : V) (H : Hp) : Prop := match x with
  | .str _ => T = "str"
  | .int _ => T = "int"
  | .ref p => (T = "list" ∧ ∃ xs, SqL K H p xs) ∨ (T = "tuple" ∧ ∃ o, K.lookup p = some o ∧ o.cls = .type "tuple" ∧ o.dict = none) ∨
      (T = "dict" ∧ ((∃ kvs, H p = some (.dK kvs)) ∨ ∃ kvs, H p = some (.dT kvs))) ∨ (T = "set" ∧ ∃ S n, H p = some (.set S n))
  | _ => False
theorem tyV_is {pins : List (Addr × Obj)} {σ : St} {H : Hp} {s : Shared} {T : String} {x : V} {v : Value} (I : Inv X pins σ H s) (r : RelV x v) (ty : tyV X.K T x H) :
    s.TypeIs v T ∧ ∀ a, v = .ref a → ∃ ob, s.heap.get? a = some ob ∧ ob.dict = none := by
  cases x with
  | str z =>
    obtain ⟨t, rfl⟩ := r
    cases (show T = "str" from ty)
    exact ⟨typeIs_str s z t, fun _ e => nomatch e⟩
  | int i =>
    obtain ⟨t, rfl⟩ := r
    cases (show T = "int" from ty)
    exact ⟨typeIs_int s i t, fun _ e => nomatch e⟩
  | ref p =>
    cases r
    rcases ty with ⟨rfl, xs, hq⟩ | ⟨rfl, o, hk, hc, hd⟩ | ⟨rfl, hk⟩ | ⟨rfl, S, n, hk⟩
    · obtain ⟨its, _, pl, _⟩ := I.list hq
      refine ⟨pl.isList.typeIs, fun a e => ?_⟩
      cases e
      obtain ⟨o, n, e, c, hd, _⟩ := pl
      exact ⟨o, e, hd⟩
    · refine ⟨⟨o, I.kIn p o hk, hc⟩, fun a e => ?_⟩
      cases e
      exact ⟨o, I.kIn _ o hk, hd⟩
    · have z : ∃ o, s.heap.get? p = some o ∧ o.ExactDict := by
        rcases hk with ⟨kvs, hk⟩ | ⟨kvs, hk⟩
        · obtain ⟨_, _, _, _, o, _, _, e, ex, _⟩ := I.hok p _ hk
          exact ⟨o, e, ex⟩
        · obtain ⟨_, _, _, _, o, _, _, e, ex, _⟩ := I.hok p _ hk
          exact ⟨o, e, ex⟩
      obtain ⟨o, e, ex⟩ := z
      refine ⟨⟨o, e, ex.1⟩, fun a e2 => ?_⟩
      cases e2
      exact ⟨o, e, ex.2.1⟩
    · obtain ⟨o, _, _, _, e, ex, _⟩ := I.hok p _ hk
      refine ⟨⟨o, e, ex.1⟩, fun a e2 => ?_⟩
      cases e2
      exact ⟨o, e, ex.2.1⟩
  | _ => exact False.elim ty
def tBM0 (K : PySem.W.Frag) (T : String) (r : V → List V → Hp → VK → Prop) (to : TE) : TE := fun σ H Q => to σ H fun x H1 => tyV K T x H1 ∧ r x [] H1 Q
def tBM (K : PySem.W.Frag) (T : String) (r : V → List V → Hp → VK → Prop) (to : TE) (t : TA) : TE := fun σ H Q => to σ H fun x H1 => tyV K T x H1 ∧ t σ H1 fun xs H2 => r x xs H2 Q
variable {o e : Expr} {es : List Expr} {to : TE} {t : TA} {name : Str} {apos cpos : Pos} {T id : String} {r : V → List V → Hp → VK → Prop}
theorem pe_bm0 (pa : PlainAttrs T) (slot : Slot T name id) (hty : typeOf (.builtin id) = pure (.type "method_descriptor")) (hm : MtR X id r) (ho : PE X o to)
    (hbase : attributeBase o name X.env (eval o X.env) = eval o X.env := by rfl) (hline : (apos.endLine == cpos.line) = true := by rfl) : PE X (.Call (.Attribute o name apos) [] [] cpos) (tBM0 X.K T r to) := by
  intro pins s σ H Q I h
  refine wpAny_Call_method0_late hbase hline (thn (ho pins s σ H _ I h) fun v s1 ⟨x, H1, I1, r1, ty, q1⟩ => ?_)
  obtain ⟨h1, h2⟩ := tyV_is I1 r1 ty
  exact ⟨T, id, pa, slot, hty, h1, h2, Calls.callWith_builtin rfl (PySem.evalArgs_none (hm pins s1 σ H1 x [] v [] Q I1 r1 .nil q1))⟩
theorem pe_bm (pa : PlainAttrs T) (slot : Slot T name id) (hty : typeOf (.builtin id) = pure (.type "method_descriptor")) (hm : MtR X id r) (ho : PE X o to) (ha : PA X (e :: es) t)
    (hbase : attributeBase o name X.env (eval o X.env) = eval o X.env := by rfl)
    (hfew : ((backTo cpos (starEach (e :: es) X.env)).all (fun x => !x.1) && (backToKw cpos (keywordEach [] X.env)).all (fun x => x.1.isSome)
      && decide ((e :: es).length + ([] : List Keyword).length + (if ([] : List Keyword).isEmpty then 0 else 1) < 30)) = true := by rfl)
    (hline : (apos.endLine == cpos.line) = true := by rfl) (hs : starEach (e :: es) X.env = (false, eval e X.env) :: starEach es X.env := by rfl) (hplain : (backTo cpos (starEach es X.env)).any (·.1) = false := by rfl) :
    PE X (.Call (.Attribute o name apos) (e :: es) [] cpos) (tBM X.K T r to t) := by
  intro pins s σ H Q I h
  refine wpAny_Call_method_late hbase hfew hline rfl (thn (ho pins s σ H _ I h) fun v s1 ⟨x, H1, I1, r1, ty, q1⟩ => ?_)
  obtain ⟨h1, h2⟩ := tyV_is I1 r1 ty
  refine ⟨T, id, pa, slot, hty, h1, h2, ?_⟩
  have hA := ha cpos pins s1 σ H1 _ I1 q1
  rw [hs] at hA ⊢
  refine Calls.callWith_builtin (by show (false || (backTo cpos (starEach es X.env)).any (·.1)) = false; rw [hplain] <;> rfl) (Calls.evalArgs_plain ?_)
  exact thn hA fun us s2 ⟨vs, H2, I2, r2, q2⟩ => hm pins s2 σ H2 x vs v us Q I2 r1 r2 q2
/- xs.append(e), list.index on a module's tuple .. are MtR facts of 06m -/
end
end L2

namespace L2
open PySem PySem.Spec PyProof.Rows

def MtM (X : Cx) (id : String) (r : V → List V → Hp → VK → Prop) : Prop :=
  ∀ (pins : List (Addr × Obj)) (s : Shared) (σ : St) (H : Hp) (x : V) (xs : List V) (v : Value) (us : List Value) (Q : VK), Inv X pins σ H s → RelV x v → Vals xs us → r x xs H Q →
    wpAny (model X.prog X.w) X.A (call (.builtin id) (v :: us)) (EP X pins σ Q) X.xe s

/-! ### lists of values -/
theorem Vals.one : ∀ {x : V} {us : List Value}, Vals [x] us → ∃ u, us = [u] ∧ RelV x u
  | _, _, .cons r .nil => ⟨_, rfl, r⟩
theorem Vals.two : ∀ {x y : V} {us : List Value}, Vals [x, y] us → ∃ u v, us = [u, v] ∧ RelV x u ∧ RelV y v
  | _, _, _, .cons r (.cons q .nil) => ⟨_, _, rfl, r, q⟩
theorem Vals.zero : ∀ {us : List Value}, Vals [] us → us = []
  | _, .nil => rfl
theorem Vals.reverse {xs : List V} {us : List Value} (h : Vals xs us) : Vals xs.reverse us.reverse := by
  induction h with
  | nil => exact .nil
  | cons r t ih => rw [List.reverse_cons, List.reverse_cons]; exact Vals.append ih (.cons r .nil)

section
variable {X : Cx} {pins : List (Addr × Obj)} {σ : St} {H : Hp} {s : Shared} {l b : Addr} {xs ys zs : List V}

/-! ### the two steps: a tracked list is rewritten, a new list is laid -/
theorem Inv.lset {its its' : List Value} {n : Nat} {f : Array Value → Array Value} {t' : Nat} (I : Inv X pins σ H s) (hH : H l = some (.lst xs))
    (e : s.heap.get? l = some { cls := .type "list", data := .seq its.toArray n }) (hf : f its.toArray = its'.toArray) (hv : Vals ys its') (hz : ys.length ≤ sizeLine) :
    Inv X pins σ (upd H l (.lst ys)) { s with heap := s.heap.update l (Obj.mapSeq f), toks := t' } := by
  have q := PySem.IsL.update e f
  rw [hf] at q
  refine I.write (x := l) (e := l) (by rw [hH]; exact trivial) (.inl rfl) (fun b' u hb hu => (Heap.get?_update_other s.heap (Obj.mapSeq f) (Ne.symm hb)).trans hu) ⟨_, q⟩ ?_
  exact ⟨hz, its', _, hv, q⟩
theorem Inv.lnew {its : List Value} {t' : Nat} (I : Inv X pins σ H s) (hv : Vals ys its) (hz : ys.length ≤ sizeLine) :
    Inv X pins σ (upd H s.heap.objs.size (.lst ys)) { s with heap := s.heap.push { cls := .type "list", data := .seq its.toArray }, toks := t' } :=
  I.laid (fun _ _ q => Heap.get?_push_of_some _ q) (Nat.le_refl _) ⟨hz, its, 0, hv, Heap.get?_push_size _ rfl⟩
theorem Inv.fresh (I : Inv X pins σ H s) : H s.heap.objs.size = none := I.hok.fresh (Nat.le_refl _)
theorem Inv.lstM (I : Inv X pins σ H s) (hH : H l = some (.lst xs)) : xs.length ≤ sizeLine ∧ ∃ (its : List Value) (n : Nat), Vals xs its ∧ xs.length = its.length ∧ s.heap.get? l = some { cls := .type "list", data := .seq its.toArray n } := by
  obtain ⟨z, its, n, r, e⟩ := I.hok l _ hH
  exact ⟨z, its, n, r, r.length, e⟩

end

section
variable {X : Cx}

/-! ### methods -/
def rAppend : V → List V → Hp → VK → Prop := fun x vs H Q => ∃ l xs y, x = .ref l ∧ vs = [y] ∧ H l = some (.lst xs) ∧ xs.length < sizeLine ∧ Q .non (upd H l (.lst (xs ++ [y])))
theorem mt_append : MtM X "list.append" rAppend := by
  intro pins s σ H x vs v us Q I rx rv h
  obtain ⟨l, xs, y, rfl, rfl, hH, hz, q⟩ := h
  cases rx
  obtain ⟨u, rfl, ru⟩ := rv.one
  obtain ⟨z, its, n, r, hl, e⟩ := I.lstM hH
  refine call_meets F.slot_list_append ⟨_, e, rfl⟩ F.entry_list_append (F.args_list_append_2 _ _) (PySem.list_append l its.toArray n u (by rw [List.size_toArray]; omega)) ⟨e, ?_⟩
  refine ⟨.non, _, I.lset (its' := its ++ [u]) hH e (by simp) (r.append (.cons ru .nil)) ?_, rfl, q⟩
  rw [List.length_append, List.length_singleton]
  omega





def rClear : V → List V → Hp → VK → Prop := fun x vs H Q => ∃ l xs, x = .ref l ∧ vs = [] ∧ H l = some (.lst xs) ∧ Q .non (upd H l (.lst []))
theorem mt_clear : MtM X "list.clear" rClear := by
  intro pins s σ H x vs v us Q I rx rv h
  obtain ⟨l, xs, rfl, rfl, hH, q⟩ := h
  cases rx
  have hus := rv.zero
  subst hus
  obtain ⟨z, its, n, r, hl, e⟩ := I.lstM hH
  refine call_meets F.slot_list_clear ⟨_, e, rfl⟩ F.entry_list_clear (F.args_list_clear_1 _) (AutoSeq1.list_clear_list_0 l its.toArray n (by rw [List.size_toArray]; omega)) ⟨e, ?_⟩
  exact ⟨.non, _, I.lset (its' := []) (ys := []) hH e rfl .nil (Nat.zero_le _), rfl, q⟩

/-! ### list + list, list += list, list * int -/
def rCat : R2 := fun x y H Q => ∃ l b xs zs, x = .ref l ∧ y = .ref b ∧ H l = some (.lst xs) ∧ H b = some (.lst zs) ∧ xs.length + zs.length ≤ sizeLine ∧ ∀ p, H p = none → Q (.ref p) (upd H p (.lst (xs ++ zs)))
theorem op_cat : OpR X (binaryOp .Add) rCat := by
  intro pins s σ H x y v u Q I rx ry h
  obtain ⟨l, b, xs, zs, rfl, rfl, hH, hB, hz, q⟩ := h
  cases rx
  cases ry
  obtain ⟨z, its, n, r, hl, e⟩ := I.lstM hH
  obtain ⟨z2, its2, n2, r2, hl2, e2⟩ := I.lstM hB
  refine PySem.P.add_list e e2 ?_ (by rw [List.size_toArray, List.size_toArray]; omega)
  have ea : its.toArray ++ its2.toArray = (its ++ its2).toArray := by simp
  rw [ea]
  exact ⟨.ref _, _, I.lnew (t' := s.toks) (r.append r2) (by rw [List.length_append]; omega), rfl, q _ I.fresh⟩

/-! ### del xs[i] -/
end

/-! ### xs[a:b] = ys -/
section
variable {prog : Program} {w : World} {A : Around} {E : Value → Shared → Prop} {s : Shared}
end

section
variable {X : Cx}
end
end L2

namespace Att
open PySem PySem.W PySem.Calls PyProof.Rows

/-! ### the script -/
theorem ints_of_wellAll {P : Params} {h : Heap} : ∀ (ns : List Int) (vs : List Value), WellAll P h vs (ns.map WData.int) → IntsAre vs ns := by
  intro ns
  induction ns with
  | nil =>
    intro vs w
    rw [List.map_nil] at w
    cases w
    exact .nil
  | cons n ns ih =>
    intro vs w
    rw [List.map_cons] at w
    cases w with
    | cons a b =>
      cases a
      exact .cons _ _ (ih _ b)

theorem script_of {l : OpenLaw} {n : Nat} (hn : l.most = some n) {P : Params} {h : Heap} {args : List WData} {vals : List Value}
    (hpre : l.row.toRowW.claim.pre args = true) (hwl : WellAll P h vals args) :
    ∃ a vs ns, vals = [Value.ref a] ∧ args = [WData.list (ns.map WData.int)] ∧ h.get? a = some { cls := .type "list", data := .seq vs.toArray } ∧ IntsAre vs ns ∧ ns.length ≤ n := by
  have hsh : WShape.hasAll [] args [.list .int] = true := (pre_splitW hpre).1
  have hc : l.pre.holds [] { args := args } = true := (pre_splitW hpre).2
  obtain ⟨d, r, rfl, h1, h2⟩ := hasAllW_cons hsh
  obtain rfl := hasAllW_nil h2
  obtain ⟨xs, rfl, h3⟩ := hasW_list h1
  obtain ⟨ns, rfl⟩ := items_int h3
  have hlen : ns.length ≤ n := by
    unfold OpenLaw.pre at hc
    have h4 : (WTm.not (.lt (.lit (.int (n : Int))) (.len (.arg 0)))).holds [] { args := [.list (ns.map .int)] } = true := by
      have h4 := (holds_andW hc).1
      rw [hn] at h4
      exact h4
    have h5 := condW_of h4 (w_not (w_lt w_lit (w_len_list (w_arg rfl))))
    rw [List.length_map] at h5
    refine Nat.le_of_not_lt fun q => ?_
    have q' : (n : Int) < ((ns.length : Nat) : Int) := by omega
    first
      | (rw [decide_eq_true q'] at h5; exact absurd h5 (by decide))
      | (simp at h5; omega)
  cases hwl with
  | cons w1 w2 =>
    cases w2
    cases w1 with
    | list ho hall => exact ⟨_, _, ns, rfl, rfl, ho, ints_of_wellAll ns _ hall, hlen⟩

theorem post_true (l : OpenLaw) (args : List WData) : l.row.toRowW.claim.post args (.bool true) args = true :=
  postW_of (r := l.row.toRowW) (X := (true == true))
    (show WShape.has [] (.bool true) .bool = true by first | rfl | decide | simp [WShape.has, WShape.arms, WShape.armsAll])
    (show (WTm.eq .res (.lit (.bool true))).value [] { args := args, res := some (.bool true), after := args } = some (.bool (true == true)) from w_eq_bool (w_res rfl) w_lit) rfl

/-! ### the attachment: holds_open's last premise (the goal 'hc' behind k_head) from a wpAny of the law's body -/

/-- the same from a codeAny of the CALL (for a layer whose function contracts speak of calls) -/
theorem attach_call {l : OpenLaw} {n : Nat} {q : Program} {loose : List Str} {XP : (Str → Option Value) → Heap → Prop} {YP : World → Heap → Prop} {d : DefRec}
    (hn : l.most = some n) (hdf : d.params.defaults = [])
    (call : ∀ (w : World) (s₀ s₁ : Shared) (mg mb : Str → Option Value) (fa : Addr) (o : Obj) (pm cd doc : Value) (a : Addr) (vs : List Value) (ns : List Int),
      Ground q loose [] XP w s₀ mg mb s₁.heap → YP w s₁.heap →
      s₁.heap.get? fa = some o → o.data = .func (docDef d.name d.params d.body d.scope pm cd doc) → s₁.heap.CodeRec cd d.name → mg d.name = some (.ref fa) →
      s₁.heap.get? a = some { cls := .type "list", data := .seq vs.toArray } → IntsAre vs ns → ns.length ≤ n → s₁.gens = #[] →
      codeAny (model l.prog w) callerA (.call (.ref fa) ⟨[.ref a], []⟩) (fun r s' => r = .ok (.ret (.bool true)) ∧ OldK s₁.heap s'.heap ∧ s'.os = s₁.os ∧ AllBare s'.gens) s₁) :
    WalkO q loose XP YP l.row.toRowW d [] (fun f vs => PySem.call f vs) := by
  intro w s₀ s₁ mg mb G Y fa o pm cd doc dV kV ho hd hcd hD hmg hg args vals as hpre hlay hrd hwl hlo
  obtain rfl : dV = .none := Dflts.none hD hdf
  obtain rfl : kV = .none := Dflts.noKw hD
  obtain ⟨a, vs, ns, rfl, rfl, hobj, hints, hlen⟩ := script_of hn hpre hwl
  refine enter_call (codeAny_mono (call w s₀ s₁ mg mb fa o pm cd doc a vs ns G Y ho (fd_plain hd) hcd hmg hobj hints hlen hg) fun r s' hq => ?_)
  obtain ⟨rfl, h2, h3, h4⟩ := hq
  exact ⟨.inl ⟨.bool true, .bool true, [], rfl, fun _ => rfl, .bool true, post_true l _, fun _ => ⟨List.Pairwise.nil, fun _ hm => (nomatch hm)⟩⟩, h2, h3, h4⟩


/-! ### rules over ANY heap (no ledger) from facts about the written part K: the library's own take a ledger (News) for what they write -/
section
variable {prog : Program} {w : World} {A : Around} {E : Value → Shared → Prop} {s : Shared} {K : Frag}





/-! the whole heap as the ledger: makes every rule that writes through a ledger a rule over any heap -/
def ledger (h : Heap) (L d : Addr) : List (Addr × Obj) := (List.range h.objs.size).filterMap fun a => if a = L ∨ a = d then none else (h.get? a).map fun o => (a, o)

end
end Att

namespace L2
open PySem PySem.Spec PyProof.Rows

theorem vals_ints : ∀ {vs : List Value} {ns : List Int}, IntsAre vs ns → Vals (ns.map V.int) vs
  | _, _, .nil => .nil
  | _, _, .cons n t h => .cons ⟨t, rfl⟩ (vals_ints h)

/-- nothing is tracked but the script, known to the object (or it is an object of the module) -/
def Only (H : Hp) : Prop := ∀ b, H b = none ∨ ∃ o xs, H b = some (.frz o (.lst xs))

/-- THE HEAD: the law's promise, at the heap behind the top. F, the promise of the law's def, may use that base is part of the heap (so K.In base, base.Ns mainGlobals mg stand in Mod) -/
theorem law_call {P : Program} {w : World} {K : PySem.W.Frag} {mg mb : Str → Option Value} {CX : CXT} {k : Nat} {fa a : Addr} {fd : FuncData} {x : Str} {sp : Sp} {s₁ : Shared} {vs : List Value} {ns : List Int}
    (KX : K.In s₁.heap) (hns : s₁.heap.Ns mainGlobals mg) (hb : s₁.heap.Ns builtinsNs mb) (hbb : ∀ x : Str, x ≠ "__name__" → mb x = bootBuiltins x) (hlim : s₁.heap.NoLimit) (hg : s₁.gens = #[])
    (ha : s₁.heap.get? a = some { cls := .type "list", data := .seq vs.toArray }) (hi : IntsAre vs ns) (hl : ns.length ≤ sizeLine) (hr : Room k callerA)
    (F : ∀ base : Heap, K.In base → base.Ns mainGlobals mg → FnOk P w K mg base CX k fa fd [x] sp) (hbind : ∀ (s : Shared) (u : Value), BindsTo s fd ⟨[u], []⟩ [(x, u)])
    (hsp : ∀ H : Hp, Only H → SqL K H a (ns.map V.int) → sp [.ref a] H (fun v _ => v = .bl true) fun _ _ _ => False)
    (hCX : ∀ H e s', CX [] H s₁ (fun _ _ _ => False) e s' → False) :
    codeAny (model P w) callerA (.call (.ref fa) ⟨[.ref a], []⟩) (fun r s' => r = .ok (.ret (.bool true)) ∧ OldK s₁.heap s'.heap ∧ s'.os = s₁.os ∧ AllBare s'.gens) s₁ := by
  have rv := vals_ints hi
  have lenV := hi.length
  -- from an abstract heap in which nothing but the script may be tracked
  have core : ∀ H : Hp, Only H → SqL K H a (ns.map V.int) → HOk P w H s₁.heap → (∀ b, H b ≠ none → b = a) → (H a ≠ none → K.lookup a = none) →
      codeAny (model P w) callerA (.call (.ref fa) ⟨[.ref a], []⟩) (fun r s' => r = .ok (.ret (.bool true)) ∧ OldK s₁.heap s'.heap ∧ s'.os = s₁.os ∧ AllBare s'.gens) s₁ := by
    intro H hO hS hok hA hK
    have base_of : ∀ {b : Addr} {o : Obj}, s₁.heap.get? b = some o → H b = none → (hidT s₁.heap H).get? b = some o := fun e n => hidT_get e n
    have noA : ∀ {b : Addr} {o : Obj} {es : Array DictEntry} {ep : Nat}, s₁.heap.get? b = some o → o.data = .dict es ep → H b = none := fun {b o es ep} e d => by
      cases q : H b with
      | none => rfl
      | some u =>
        have e' : b = a := hA b (by rw [q]; simp)
        subst e'
        rw [ha] at e; cases e
        have d' : Data.seq vs.toArray _ = Data.dict es ep := d
        cases d'
    have nsK : ∀ {b : Addr} {m : Str → Option Value}, s₁.heap.Ns b m → (hidT s₁.heap H).Ns b m := fun {b m} ⟨o, es, ep, e, d, r⟩ => ⟨o, es, ep, base_of e (noA e d), d, r⟩
    have hKb : K.In (hidT s₁.heap H) := fun b o e => base_of (KX b o e) (by
      cases q : H b with
      | none => rfl
      | some u =>
        have e' : b = a := hA b (by rw [q]; simp)
        subst e'
        rw [hK (by rw [q]; simp)] at e; cases e)
    have hM : Mod K mg (hidT s₁.heap H) := ⟨hKb, nsK hns, ⟨mb, nsK hb, hbb⟩, let ⟨mc, h1, h2⟩ := hlim; ⟨mc, nsK h1, h2⟩⟩
    have e0 : Env0 P w K mg (hidT s₁.heap H) callerA [] s₁ H := ⟨rfl, hM, fun b o e => of_hidT e, Nat.le_of_eq (hidT_size _ _), trivial, fun b hb => absurd (show b ∈ ([] : List Addr) from hb) (by simp), hok, .of_eq hg⟩
    refine codeAny_mono ((F _ hKb (nsK hns)).run callerA [] s₁ H ⟨[.ref a], []⟩ [.ref a] [.ref a] _ _ hr e0 (hbind s₁ (.ref a)) (.cons rfl .nil) (hsp H hO hS)) fun r s' h => ?_
    cases r with
    | error e => exact (hCX H e s' h).elim
    | ok fl =>
      cases fl with
      | next => exact False.elim h
      | brk => exact False.elim h
      | cont => exact False.elim h
      | ret u =>
        obtain ⟨v, H', os, bare, un, hok', r', q⟩ := h
        have q' : v = .bl true := q
        subst q'
        obtain rfl : u = Value.bool true := r'
        refine ⟨rfl, OldK.of_keep fun b o e => ?_, os, bare⟩
        cases q : H b with
        | none => exact un.keep b o e q (by intro z; exact absurd (show b ∈ ([] : List Addr) from z) (by simp)) (by simp)
        | some u =>
          rcases hO b with z | ⟨ob, xs, z⟩
          · rw [q] at z; cases z
          · have z2 := un.frzs b ob _ z
            obtain ⟨e1, _⟩ := hok b _ z
            obtain ⟨e2, _⟩ := hok' b _ z2
            rw [e] at e1; cases e1
            exact e2
  cases hk : K.lookup a with
  | some o =>
    -- the script is one of the module's own objects
    have e := KX a o hk
    rw [ha] at e
    cases e
    refine core (fun _ => none) (fun _ => .inl rfl) (.inr ⟨_, vs.toArray, _, hk, rfl, rfl, rfl, by rw [List.size_toArray, lenV]; exact hl, by simpa using rv⟩) (fun b u z => by have z' : (none : Option HO) = some u := z; cases z') (fun b z => absurd rfl z) fun z => absurd rfl z
  | none =>
    refine core (fun b => if b = a then some (.frz { cls := .type "list", data := .seq vs.toArray } (.lst (ns.map V.int))) else none) (fun b => ?_) (.inl (.inr ⟨{ cls := .type "list", data := .seq vs.toArray }, if_pos rfl⟩)) (fun b u z => ?_) (fun b z => ?_) fun _ => hk
    · by_cases hb : b = a
      · exact .inr ⟨_, _, if_pos hb⟩
      · exact .inl (if_neg hb)
    · by_cases hb : b = a
      · have z' := (if_pos hb).symm.trans z
        cases z'
        subst hb
        exact ⟨ha, by rw [List.length_map]; exact hl, vs, _, rv, ha⟩
      · have z' := (if_neg hb).symm.trans z
        cases z'
    · by_cases hb : b = a
      · exact hb
      · exact absurd (if_neg hb) z
end L2

namespace L2
open PySem PySem.Spec PyProof.Rows

abbrev KOf {K : PySem.W.Frag} {h : Heap} (_ : K.In h) : PySem.W.Frag := K

/-- the goal that k_head leaves (case hc), from the law's promise. F gives the function object fd (K's own) once, then the promise over every base -/
theorem walk_of {l : PySem.W.OpenLaw} {n k : Nat} {q : Program} {loose : List Str} {XP : (Str → Option Value) → Heap → Prop} {YP : World → Heap → Prop} {d : DefRec} {K : Params → PySem.W.Frag} {CX : World → CXT} {sp : World → Sp} {x : Str}
    (hn : l.most = some n) (hn2 : n ≤ sizeLine) (hdf : d.params.defaults = []) (hr : Room k callerA)
    (hY : ∀ (w : World) (h : Heap), YP w h → (K w.params).In h)
    (F : ∀ (w : World) (mg : Str → Option Value) (fa : Addr) (h : Heap), (K w.params).In h → h.Ns mainGlobals mg → mg d.name = some (.ref fa) →
      ∃ fd : FuncData, (∀ (s : Shared) (u : Value), BindsTo s fd ⟨[u], []⟩ [(x, u)]) ∧
        ∀ base : Heap, (K w.params).In base → base.Ns mainGlobals mg → FnOk l.prog w (K w.params) mg base (CX w) k fa fd [x] (sp w))
    (hsp : ∀ (w : World) (H : Hp) (a : Addr) (ns : List Int), ns.length ≤ n → Only H → SqL (K w.params) H a (ns.map V.int) → sp w [.ref a] H (fun v _ => v = .bl true) fun _ _ _ => False)
    (hCX : ∀ (w : World) (H : Hp) (s : Shared) (e : Value) (s' : Shared), CX w [] H s (fun _ _ _ => False) e s' → False) :
    PySem.W.WalkO q loose XP YP l.row.toRowW d [] (fun f vs => PySem.call f vs) := by
  refine Att.attach_call hn hdf fun w s₀ s₁ mg mb fa o pm cd doc a vs ns G Y ho hd hcd hmg hobj hints hlen hg => ?_
  have KX := hY w _ Y
  obtain ⟨fd, hb, hF⟩ := F w mg fa _ KX G.T.g hmg
  exact law_call KX G.T.g G.T.b G.T.builtins G.T.nolimit hg hobj hints (Nat.le_trans hlen hn2) hr hF hb (fun H hO hS => hsp w H a ns hlen hO hS) fun H e s' => hCX w H s₁ e s'
end L2

/- THE LAST THEOREM (shape; LID, My.* are yours):
   My.Adr: a structure of the addresses that your layer names (classes, functions); My.Txt K t: a structure (Prop) of the equations over K;
   My.txt_mk : {K} {implicit addresses ..} (e1 : nsIn K mainGlobals "law" = some (some (.ref f))) (e2 : K.lookup f = some ⟨oc, od, .func (fnOf "law" "law" params body scope dV kV doc pm an cdv ct), sl⟩) (e3 : codeIn K cdv "law" = true) .. : ∃ t, My.Txt K t

set_option maxRecDepth 100000 in
set_option maxHeartbeats 0 in
theorem PySem.Challenge.cw_LID_holds : PySem.Challenge.rw_LID.Holds := by
  w_on; o_law; k_head; (case hw => w_witness2)
  k_fill
  refine L2.walk_of (l := PySem.Challenge.rw_LID) (n := 63) (k := 40) (x := "script") (CX := fun w => ..) (sp := fun _ => My.sp_law) rfl (by decide) rfl ⟨rfl, by decide, by decide⟩ (fun w h Y => PySem.W.kIn_of Y) ?F ?S ?C
  case F =>
    intro w mg fa h KX G hmg
    have T : ∃ t, My.Txt (L2.KOf KX) t := by
      dsimp only [L2.KOf]                          -- K must stand as «<heap const> w.params» for k_is
      refine' My.txt_mk ?e1 ?e2 ?e3 ..
      (case e1 => PySem.W.k_is)                    -- in the order: a name -> its address -> its object -> its parts
      (case e2 => PySem.W.k_is)
      ..
    obtain ⟨t, T⟩ := T
    have e0 := hmg.symm.trans (PySem.W.mg_of KX G T.law)
    cases e0                                       -- fa is the law's own address
    exact ⟨_, fun s u => .of_eq rfl, fun base kb nb => My.law_fn T kb nb⟩     -- if «.of_eq rfl» comes too early: refine' ⟨_, ?b, fun base kb nb => My.law_fn T kb nb⟩; exact fun s u => .of_eq rfl
  case S => exact fun w H a ns hl hO hS => ..
  case C => exact ..
(the tactic k_is has no namespace: write k_is) -/

/-! SHORT WORDS over the layer: a def of the text, its body, what a loop and a test want. -/
namespace L2
open PySem PySem.Spec PyProof.Rows

/-! ### the text by places -/
/-- the j-th statement of a class's body -/
def inClass (s : Stmt) (j : Nat) : Stmt := match s with
  | .ClassDef _ _ _ body _ _ _ _ _ _ _ => body.getD j (.Pass ⟨0, 0, 0, 0⟩)
  | _ => .Pass ⟨0, 0, 0, 0⟩
def defArgs (s : Stmt) : Arguments := match s with
  | .FunctionDef _ a _ _ _ _ _ _ _ _ => a
  | _ => { posonlyargs := [], args := [], vararg := none, kwonlyargs := [], kw_defaults := [], kwarg := none, defaults := [] }
def defBody (s : Stmt) : List Stmt := match s with
  | .FunctionDef _ _ b _ _ _ _ _ _ _ => b
  | _ => []
def defScope (s : Stmt) : Scope := match s with
  | .FunctionDef _ _ _ _ _ _ sc _ _ _ => sc
  | _ => { kind := .function, names := [], isGenerator := false, isCoroutine := false }

/-! ### no exception leaves a def -/
abbrev CX0 : CXT := fun _ _ _ _ _ _ => False
abbrev E0 : XK := fun _ _ _ => False
theorem pass0 {X : Cx} : Passes CX0 X E0 := fun _ _ _ _ _ _ _ h => h.elim

/-! ### a def (or method) of the text as it stands behind the top -/
structure Fun (K : PySem.W.Frag) (x qual : Str) (st : Stmt) (f : Addr) (fd : FuncData) : Prop where
  ex : ∃ (oc : Value) (od : Option Addr) (kV doc pm : Value) (an : Option Addr) (cdv ct : Value) (osl : Array (Option Value)),
    fd = PySem.W.fnOf x qual (defArgs st) (defBody st) (defScope st) .none kV doc pm an cdv ct ∧ K.lookup f = some ⟨oc, od, .func fd, osl⟩ ∧ PySem.W.codeIn K cdv qual = true
  kp : PySem.W.keepIn K (.ref f) = true
section
variable {P : Program} {w : World} {K : PySem.W.Frag} {mg : Str → Option Value} {base : Heap}
/-- THE RULE for a def: its body as a term of rules, and the reading of that term -/
theorem Fun.ok {x qual : Str} {st : Stmt} {f : Addr} {fd : FuncData} {N ps : List Str} {k : Nat} {sp : Sp} (F : Fun K x qual st f fd) (S : FnScope N ps (defScope st)) (len : ∀ vs H Q E, sp vs H Q E → vs.length = ps.length)
    (hbody : ∀ (cdv : Value) (A : Around) (outer : List Env) (s : Shared) (H : Hp) (vs : List V) (Q : VK) (E : XK), Room k (A.deeper (envOfC qual (defScope st) s.heap.objs.size f cdv)) → sp vs H Q E →
      ∃ t, PSs (cxOf CX0 P w K mg base N qual (defScope st) f cdv A outer s H E).nox (defBody st) t ∧ t { nx := fun _ H' => Q .non H', rt := Q } (start N vs) H) : FnOk P w K mg base CX0 (k + 1) f fd ps sp := by
  obtain ⟨oc, od, kV, doc, pm, an, cdv, ct, osl, rfl, lk, hcd⟩ := F.ex
  refine fn_of lk hcd S len fun A outer s H vs Q E hr hsp => ?_
  obtain ⟨t, h, q⟩ := hbody cdv A outer s H vs Q E hr hsp
  exact ⟨t, h.nox, q⟩
/-- how its arguments bind (no defaults): h is «fun _ _ _ _ _ _ us hl => match us, hl with | [_, _], _ => rfl», one _ a parameter -/
theorem Fun.binds {x qual : Str} {st : Stmt} {f : Addr} {fd : FuncData} {ps : List Str} (F : Fun K x qual st f fd)
    (h : ∀ (kV doc pm : Value) (an : Option Addr) (cdv ct : Value) (us : List Value), us.length = ps.length → bindArgs (PySem.W.fnOf x qual (defArgs st) (defBody st) (defScope st) .none kV doc pm an cdv ct) ⟨us, []⟩ = pure (ps.zip us)) : Binds K fd ps [] := by
  obtain ⟨oc, od, kV, doc, pm, an, cdv, ct, osl, rfl, lk, hcd⟩ := F.ex
  exact .all (h kV doc pm an cdv ct)
theorem fun_mk {x qual : Str} {st : Stmt} {f : Addr} {oc : Value} {od an : Option Addr} {osl : Array (Option Value)} {kV doc pm cdv ct : Value} (l : K.lookup f = some ⟨oc, od, .func (PySem.W.fnOf x qual (defArgs st) (defBody st) (defScope st) .none kV doc pm an cdv ct), osl⟩)
    (c : PySem.W.codeIn K cdv qual = true) (k : PySem.W.keepIn K (.ref f) = true) : Fun K x qual st f (PySem.W.fnOf x qual (defArgs st) (defBody st) (defScope st) .none kV doc pm an cdv ct) := ⟨⟨oc, od, kV, doc, pm, an, cdv, ct, osl, rfl, l, c⟩, k⟩
end
theorem hu_of {A : Around} {k : Nat} (hr : Room k A) : A.units + 1 < cLine := Nat.lt_of_le_of_lt (Nat.add_le_add_left (by decide : 1 ≤ 64) _) hr.units
theorem small1000 {n : Nat} (h : n ≤ 1000) : n < sizeLine := Nat.lt_of_le_of_lt h (by decide)

/-! ### expressions in short: the name that stands in the i-th slot -/
section
variable {X : Cx}
theorem pv (i : Nat) {x : Str} {pos : Pos} (hN : X.N[i]? = some x := by rfl) (hv : Vis X.env.scope x := by first | exact Or.inl rfl | exact Or.inr (Or.inl rfl) | exact Or.inr (Or.inr rfl)) (hd : (x == ("__debug__" : Str)) = false := by decide)
    (hcd : (x == ("__classdict__" : Str)) = false := by decide) : PE X (.Name x pos) (tVar i) := pe_var hN hv hd hcd
end

/-! ### tests -/
theorem iteF {A B : Prop} (h : B) : if false = true then A else B := by
  rw [if_neg Bool.false_ne_true]
  exact h
theorem iteT {A B : Prop} (h : A) : if true = true then A else B := by
  rw [if_pos rfl]
  exact h
theorem ite2 {c A B : Prop} [Decidable c] (h1 : c → A) (h2 : ¬ c → B) : if c then A else B := by
  by_cases h : c
  · rw [if_pos h]
    exact h1 h
  · rw [if_neg h]
    exact h2 h
theorem iteNS {c A B : Prop} [Decidable c] (hc : c) (h : B) : if (!decide c) = true then A else B := by
  rw [decide_eq_true hc]
  exact iteF h

/-! ### heaps -/
/-- all that was tracked is as it was -/
def Same (H H' : Hp) : Prop := ∀ b o, H b = some o → H' b = some o
theorem Same.refl (H : Hp) : Same H H := fun _ _ h => h
theorem Same.trans {H H1 H2 : Hp} (a : Same H H1) (b : Same H1 H2) : Same H H2 := fun c o h => b c o (a c o h)
theorem Same.free {H H' : Hp} (e : Same H H') {l : Addr} (h : H' l = Option.none) : H l = Option.none := by
  cases q : H l with
  | none => rfl
  | some o =>
    rw [e l o q] at h
    cases h
theorem Same.seq {K : PySem.W.Frag} {H H' : Hp} {a : Addr} {xs : List V} (e : Same H H') (h : SqL K H a xs) : SqL K H' a xs := by
  rcases h with (h | ⟨o, h⟩) | h
  · exact .inl (.inl (e _ _ h))
  · exact .inl (.inr ⟨o, e _ _ h⟩)
  · exact .inr h

end L2

set_option maxHeartbeats 4000000
/-! ### the table of a set that only grew: its places rise -/
namespace SetQ
open PySem
/-- the table of a set from which nothing went -/
structure Good (L : Bool) (t : SetTable) : Prop where
  rise : t.place.toList.Pairwise (· < ·)

section
variable {prog : Program} {w : World} {A : Around} {E : Value → Shared → Prop} {s : Shared}
def kz (e : Int × Value) : Int := match e.2 with | .int k _ => k | _ => 0
def addK (ks : List Int) (k : Int) : List Int := if ks.any (· == k) then ks else ks ++ [k]
/-- what a set of whole numbers is, from which nothing went: its elements are ks, in the table's order -/
structure Row (w : World) (es : Array (Int × Value)) (t : SetTable) (ks : List Int) : Prop where
  few : es.size < scanBound
  fits : t.fits es.size = true
  good : Good (!w.params.followText "set-order") t
/-- what is asked of a set's table alone -/
structure RowG (w : World) (es : Array (Int × Value)) (t : SetTable) : Prop where
  few : es.size < scanBound
  fits : t.fits es.size = true
  good : Good (!w.params.followText "set-order") t
theorem Row.g {w : World} {es : Array (Int × Value)} {t : SetTable} {ks : List Int} (r : Row w es t ks) : RowG w es t := ⟨r.few, r.fits, r.good⟩
def SetZ (w : World) (h : Heap) (a : Addr) (ks : List Int) : Prop := ∃ o es ep t, h.get? a = some o ∧ o.ExactSet ∧ o.data = .set es ep t ∧ Row w es t ks
theorem put_get {h : Heap} {a : Addr} {o : Obj} {es : Array (Int × Value)} {ep : Nat} {t : SetTable} (ho : h.get? a = some o) (hd : o.data = .set es ep t) (es' : Array (Int × Value)) (t' : SetTable) :
    (h.update a (Obj.putSet es' t')).get? a = some { o with data := .set es' (ep + 1) t' } := by
  have z := Heap.get?_update_self (Obj.putSet es' t') ho (by rw [putSet_of es' t' hd]; rfl)
  rwa [putSet_of es' t' hd] at z
theorem SetZ.put {h : Heap} {a : Addr} {o : Obj} {es : Array (Int × Value)} {ep : Nat} {t : SetTable} (ho : h.get? a = some o) (hex : o.ExactSet) (hd : o.data = .set es ep t) {es' : Array (Int × Value)} {t' : SetTable} {ks : List Int} (r : Row w es' t' ks) :
    SetZ w (h.update a (Obj.putSet es' t')) a ks := ⟨_, es', ep + 1, t', put_get ho hd es' t', hex, rfl, r⟩
end

def dd (val : Nat → Int) (i : Nat) : List Int := ((List.range i).map val).foldl addK []
section
open PySem.Spec PyProof.Rows
variable {prog : Program} {w : World} {A : Around} {R : Result → Shared → Prop} {J : Addr} {fp wr : List Addr} {G : Array GenState → Array GenState → Prop} {n : Nat} {P : Nat → Value → Prop} {St : Nat → Shared → Prop}
end
section
variable {prog : Program} {w : World} {A : Around} {E : Value → Shared → Prop} {s : Shared}

end
end SetQ

/-! ### walking over a set of whole numbers -/
namespace SetQ
open PySem
section
variable {prog : Program} {w : World} {A : Around} {E : Value → Shared → Prop}
end

section
variable {prog : Program} {w : World} {A : Around} {E : Value → Shared → Prop} {s : Shared} {S J T : Addr} {es : Array (Int × Value)} {ep i : Nat} {t : SetTable} {ys : List (Int × Value)} {ks : List Int} {o : Obj} {first : Value}

end
end SetQ

namespace L2
open PySem
theorem clos_go (env : Env) : ∀ (names : List (Str × NameKind)) (acc : List (Str × Addr)),
    (∀ y ∈ names, y.2 = NameKind.free → ∃ c, env.cells.lookup y.1 = some c) →
    (∀ x c, acc.lookup x = some c → env.cells.lookup x = some c) →
    ∃ cl : List (Str × Addr), (forIn names acc (fun (x : Str × NameKind) (r : List (Str × Addr)) => (match x with
      | (name, kind) => if (kind == NameKind.free) = true then do let a ← cellOf env name; pure (ForInStep.yield ((name, a) :: r)) else pure (ForInStep.yield r) : Sem (ForInStep (List (Str × Addr))))) : Sem (List (Str × Addr))) = pure cl ∧
      (∀ x c, cl.lookup x = some c → env.cells.lookup x = some c) ∧ (∀ x, (acc.lookup x).isSome = true → (cl.lookup x).isSome = true) ∧ (∀ y ∈ names, y.2 = NameKind.free → (cl.lookup y.1).isSome = true)
  | [], acc, _, ha => ⟨acc, rfl, ha, fun _ h => h, fun _ h => nomatch h⟩
  | (n, k) :: r, acc, h, ha => by
    by_cases hk : k = NameKind.free
    · subst hk
      obtain ⟨c, hc⟩ := h (n, NameKind.free) List.mem_cons_self rfl
      obtain ⟨cl, e, h1, h2, h3⟩ := clos_go env r ((n, c) :: acc) (fun y hy => h y (List.mem_cons_of_mem _ hy)) (fun x d hd => by
        rw [List.lookup_cons] at hd
        cases hx : x == n with
        | true =>
          rw [hx] at hd
          cases hd
          rw [eq_of_beq hx]; exact hc
        | false => rw [hx] at hd; exact ha x d hd)
      refine ⟨cl, ?_, h1, fun x hx => h2 x ?_, fun y hy hf => ?_⟩
      · rw [List.forIn_cons]
        have ec : cellOf env n = pure c := by unfold cellOf; rw [hc]
        simp only [ec]
        exact e
      · rw [List.lookup_cons]
        cases hx : x == n with
        | true => rfl
        | false => assumption
      · rcases List.mem_cons.mp hy with rfl | hy
        · refine h2 n ?_
          rw [List.lookup_cons, beq_self_eq_true]; rfl
        · exact h3 y hy hf
    · obtain ⟨cl, e, h1, h2, h3⟩ := clos_go env r acc (fun y hy => h y (List.mem_cons_of_mem _ hy)) ha
      refine ⟨cl, ?_, h1, h2, fun y hy hf => ?_⟩
      · rw [List.forIn_cons]
        have ek : (k == NameKind.free) = false := by simpa using hk
        simp only [ek, Bool.false_eq_true, if_false]
        exact e
      · rcases List.mem_cons.mp hy with rfl | hy
        · exact absurd hf hk
        · exact h3 y hy hf
theorem clos_of {scope : Scope} {env : Env} (h : ∀ y ∈ scope.names, y.2 = NameKind.free → ∃ c, env.cells.lookup y.1 = some c) :
    ∃ cl : List (Str × Addr), closureFor scope env = pure cl ∧ (∀ x c, cl.lookup x = some c → env.cells.lookup x = some c) ∧ (∀ y ∈ scope.names, y.2 = NameKind.free → (cl.lookup y.1).isSome = true) := by
  obtain ⟨cl, e, h1, h2, h3⟩ := clos_go env scope.names [] h (fun x c h => by cases h)
  refine ⟨cl, ?_, h1, h3⟩
  unfold closureFor
  show (forIn scope.names [] _ >>= fun r => pure r) = pure cl
  rw [e]
  rfl
end L2

namespace L2
open PySem
section
variable {prog : Program} {w : World} {A : Around} {R : Result → Shared → Prop} {s : Shared}
theorem compLoop_go {elt target iter : Expr} {ifs : List Expr} {scope : Scope} {pos : Pos} {it acc : Value} {env : Env} (I : Nat → Shared → Prop)
    (turn : ∀ n s, I n s → wpAny (model prog w) A (pyNext it) (fun r s₁ => match r with
      | none => R (.ok .next) s₁
      | some v => wpAny (model prog w) A (letOwnedTupleGo target it v) (fun _ s₁' => wpAny (model prog w) A (assign target env v) (fun _ s₂ =>
          wpAny (model prog w) A (forIn ifs true fun c r => if r = true then do let ok ← isTrue c env (eval c env); pure (ForInStep.yield ok) else pure (ForInStep.yield r)) (fun ok s₃ =>
            if ok = true then wpAny (model prog w) A (eval elt env) (fun x s₄ =>
              wpAny (model prog w) A (call (.builtin "list.append") [acc, x]) (fun _ s₅ => ∃ m, m < n ∧ I m s₅) (fun _ _ => False) s₄) (fun _ _ => False) s₃
            else ∃ m, m < n ∧ I m s₃) (fun _ _ => False) s₂) (fun _ _ => False) s₁') (fun _ _ => False) s₁) (fun _ _ => False) s)
    (n : Nat) (h : I n s) :
    codeAny (model prog w) A (.compLoop (.ListComp elt [⟨target, iter, ifs, 0⟩] scope pos) 0 it acc env) R s := by
  refine codeAny_loop rfl I (fun n s hI => ?_) n h
  show wpAny _ A ((compTurn (.ListComp elt [⟨target, iter, ifs, 0⟩] scope pos) 0 it acc env).onRaise (fun x => do noteFrame x env; theTreesLotGoes x)) _ _ s
  refine wpAny_noted ?_
  rw [compTurn_list]
  refine wpAny_bind (wpAny_standAt (wpAny_bind (wpAny_mono (turn n s hI) (fun r s₁ h₁ => ?_) fun _ _ h' => h'.elim)))
  cases r with
  | none => exact wpAny_pure h₁
  | some v =>
    refine wpAny_bind (wpAny_mono h₁ (fun _ s₁' h₁' => ?_) fun _ _ h' => h'.elim)
    refine wpAny_bind (wpAny_mono h₁' (fun _ s₂ h₂ => wpAny_bind (wpAny_mono h₂ (fun ok s₃ h₃ => ?_) fun _ _ h' => h'.elim)) fun _ _ h' => h'.elim)
    cases ok with
    | false => exact wpAny_pure ⟨rfl, h₃⟩
    | true =>
      exact wpAny_bind (wpAny_bind (wpAny_mono h₃ (fun x s₄ h₄ => wpAny_bind (wpAny_mono h₄ (fun _ s₅ h₅ => wpAny_pure (wpAny_pure ⟨rfl, h₅⟩)) fun _ _ h' => h'.elim)) fun _ _ h' => h'.elim))
end
end L2

/-! ### a comprehension: its names, its context -/
namespace L2
open PySem PySem.Spec PyProof.Rows

theorem lookup_relabel {env : Env} : ∀ {names : List (Str × NameKind)} {x : Str} {k' : NameKind},
    (names.map fun (n, k) => if (k == NameKind.free && env.scope.kind == .function && env.kindOf n == some .cell) then (n, NameKind.cell) else (n, k)).lookup x = some k' →
    ∃ k, names.lookup x = some k ∧ (k' = k ∨ (k = .free ∧ k' = .cell))
  | [], _, _, h => by simp at h
  | (n, k) :: r, x, k', h => by
    have h' : List.lookup x ((if (k == NameKind.free && env.scope.kind == .function && env.kindOf n == some .cell) = true then (n, NameKind.cell) else (n, k)) :: _) = some k' := h
    cases hx : x == n with
    | true =>
      by_cases hc : (k == NameKind.free && env.scope.kind == .function && env.kindOf n == some .cell) = true
      · rw [if_pos hc, List.lookup_cons, hx] at h'
        have hk : k = .free := by
          rw [Bool.and_eq_true, Bool.and_eq_true] at hc
          exact eq_of_beq hc.1.1
        exact ⟨k, by rw [List.lookup_cons, hx], .inr ⟨hk, (Option.some.inj h').symm⟩⟩
      · rw [if_neg hc, List.lookup_cons, hx] at h'
        exact ⟨k, by rw [List.lookup_cons, hx], .inl (Option.some.inj h').symm⟩
    | false =>
      have h2 : (r.map fun (n, k) => if (k == NameKind.free && env.scope.kind == .function && env.kindOf n == some .cell) then (n, NameKind.cell) else (n, k)).lookup x = some k' := by
        by_cases hc : (k == NameKind.free && env.scope.kind == .function && env.kindOf n == some .cell) = true
        · rw [if_pos hc, List.lookup_cons, hx] at h'; exact h'
        · rw [if_neg hc, List.lookup_cons, hx] at h'; exact h'
      obtain ⟨k1, e, z⟩ := lookup_relabel h2
      exact ⟨k1, by rw [List.lookup_cons, hx]; exact e, z⟩
theorem lookup_relabel_free {env : Env} : ∀ {names : List (Str × NameKind)} {x : Str}, names.lookup x = some .free →
    (names.map fun (n, k) => if (k == NameKind.free && env.scope.kind == .function && env.kindOf n == some .cell) then (n, NameKind.cell) else (n, k)).lookup x = some .cell ∨
    (names.map fun (n, k) => if (k == NameKind.free && env.scope.kind == .function && env.kindOf n == some .cell) then (n, NameKind.cell) else (n, k)).lookup x = some .free
  | [], _, h => by simp at h
  | (n, k) :: r, x, h => by
    have ih := @lookup_relabel_free env r x
    show List.lookup x ((if (k == NameKind.free && env.scope.kind == .function && env.kindOf n == some .cell) = true then (n, NameKind.cell) else (n, k)) :: _) = _ ∨ List.lookup x ((if (k == NameKind.free && env.scope.kind == .function && env.kindOf n == some .cell) = true then (n, NameKind.cell) else (n, k)) :: _) = _
    cases hx : x == n with
    | true =>
      rw [List.lookup_cons, hx] at h
      have hk : k = .free := Option.some.inj h
      by_cases hc : (k == NameKind.free && env.scope.kind == .function && env.kindOf n == some .cell) = true
      · left; rw [if_pos hc, List.lookup_cons, hx]
      · right; rw [if_neg hc, List.lookup_cons, hx]; simp only; rw [hk]
    | false =>
      rw [List.lookup_cons, hx] at h
      by_cases hc : (k == NameKind.free && env.scope.kind == .function && env.kindOf n == some .cell) = true
      · rw [if_pos hc, List.lookup_cons, hx]; exact ih h
      · rw [if_neg hc, List.lookup_cons, hx]; exact ih h
theorem mem_lookup {names : List (Str × NameKind)} {x : Str} {k : NameKind} (h : names.lookup x = some k) : (x, k) ∈ names := PySem.mem_of_lookup h

/-- the slots of a block's names, out of the def's -/
def csel (fm : List (Option Nat)) (σ : St) : St := fm.map fun o => match o with | some j => (σ[j]?).getD none | none => none
theorem csel_get {fm : List (Option Nat)} {σ : St} {i : Nat} {v : V} (h : (csel fm σ)[i]? = some (some v)) : ∃ j, fm[i]? = some (some j) ∧ σ[j]? = some (some v) := by
  unfold csel at h
  rw [List.getElem?_map] at h
  cases e : fm[i]? with
  | none => rw [e] at h; cases h
  | some o =>
    rw [e] at h
    cases o with
    | none => cases h
    | some j =>
      have h' : some ((σ[j]?).getD none) = some (some v) := h
      have h2 := Option.some.inj h'
      cases e2 : σ[j]? with
      | none => rw [e2] at h2; cases h2
      | some z => rw [e2] at h2; have h3 : z = some v := h2; subst h3; exact ⟨j, rfl, e2⟩

/-- what the block's names are, checked over the text -/
def selOk (XN : List Str) (names : List (Str × NameKind)) : List Str → List (Option Nat) → Bool
  | [], [] => true
  | _ :: N, none :: fm => selOk XN names N fm
  | x :: N, some j :: fm => (XN[j]? == some x) && (names.lookup x == some .free) && selOk XN names N fm
  | _, _ => false
theorem selOk_len {XN : List Str} {names : List (Str × NameKind)} : ∀ {N : List Str} {fm : List (Option Nat)}, selOk XN names N fm = true → fm.length = N.length
  | [], [], _ => rfl
  | _ :: N, none :: fm, h => by rw [List.length_cons, List.length_cons, selOk_len (show selOk XN names N fm = true from h)]
  | x :: N, some j :: fm, h => by
    have h' : ((XN[j]? == some x) && (names.lookup x == some .free) && selOk XN names N fm) = true := h
    rw [Bool.and_eq_true] at h'
    rw [List.length_cons, List.length_cons, selOk_len h'.2]
  | [], _ :: _, h => nomatch h
  | _ :: _, [], h => nomatch h
theorem selOk_at {XN : List Str} {names : List (Str × NameKind)} : ∀ {N : List Str} {fm : List (Option Nat)} {i j : Nat} {x : Str}, selOk XN names N fm = true → N[i]? = some x → fm[i]? = some (some j) → XN[j]? = some x ∧ names.lookup x = some .free
  | [], [], i, j, x, _, h, _ => by simp at h
  | _ :: N, none :: fm, 0, j, x, h, h1, h2 => by simp at h2
  | _ :: N, none :: fm, i + 1, j, x, h, h1, h2 => selOk_at (show selOk XN names N fm = true from h) (by simpa using h1) (by simpa using h2)
  | y :: N, some k :: fm, 0, j, x, h, h1, h2 => by
    have h' : ((XN[k]? == some y) && (names.lookup y == some .free) && selOk XN names N fm) = true := h
    rw [Bool.and_eq_true, Bool.and_eq_true] at h'
    have e1 : y = x := by simpa using h1
    have e2 : k = j := by simpa using h2
    subst e1; subst e2
    exact ⟨eq_of_beq h'.1.1, eq_of_beq h'.1.2⟩
  | y :: N, some k :: fm, i + 1, j, x, h, h1, h2 => by
    have h' : ((XN[k]? == some y) && (names.lookup y == some .free) && selOk XN names N fm) = true := h
    rw [Bool.and_eq_true] at h'
    exact selOk_at h'.2 (by simpa using h1) (by simpa using h2)
  | [], _ :: _, _, _, _, h, _, _ => nomatch h
  | _ :: _, [], _, _, _, h, _, _ => nomatch h
structure CompScope (XN : List Str) (xsc : Scope) (N : List Str) (fm : List (Option Nat)) (scope : Scope) : Prop where
  kind : scope.kind = .function
  cel : ∀ y ∈ scope.names, y.2 = .cell → scope.names.lookup y.1 = some .cell
  loc : ∀ y ∈ scope.names, y.2 = .local → scope.names.lookup y.1 = some .local
  free : ∀ y ∈ scope.names, y.2 = .free → xsc.names.lookup y.1 = some .cell ∨ xsc.names.lookup y.1 = some .free
  sel : selOk XN scope.names N fm = true
  nd : N.Nodup

def cxC (X : Cx) (N : List Str) (scope : Scope) (cl : List (Str × Addr)) (C : Addr) (s : Shared) (H : Hp) (fp : List Addr) : Cx where
  prog := X.prog
  w := X.w
  K := X.K
  mg := X.mg
  base := X.base
  A := X.A
  N := N
  s₀ := s
  H₀ := H
  env := compEnvC scope cl C X.env
  outer := X.stack
  stack := X.stack
  ex := fp
  fn := fun x => scope.names.lookup x == some .cell
  calm := true
  pn := []
  xe := fun _ _ => False

/-! ### the block's cells: new ones ahead of the captured ones -/
theorem cellsFrom_app : ∀ (names : List (Str × NameKind)) (n : Nat) (acc : List (Str × Addr)), cellsFrom n names acc = cellsFrom n names [] ++ acc
  | [], _, _ => rfl
  | (x, k) :: r, n, acc => by
    unfold cellsFrom
    split
    · rw [cellsFrom_app r (n + 1) ((x, n) :: acc), cellsFrom_app r (n + 1) [(x, n)], List.append_assoc]; rfl
    · exact cellsFrom_app r n acc
theorem cellsFrom_mem : ∀ (names : List (Str × NameKind)) (n : Nat) {x : Str} {c : Addr}, (x, c) ∈ cellsFrom n names [] → (x, NameKind.cell) ∈ names
  | [], _, _, _, h => nomatch h
  | (y, k) :: r, n, x, c, h => by
    unfold cellsFrom at h
    split at h
    · rename_i hk
      rw [cellsFrom_app] at h
      rcases List.mem_append.mp h with z | z
      · exact List.mem_cons_of_mem _ (cellsFrom_mem r _ z)
      · have z' : (x, c) = (y, n) := by simpa using z
        cases z'
        rw [eq_of_beq hk]; exact List.mem_cons_self
    · exact List.mem_cons_of_mem _ (cellsFrom_mem r _ h)
theorem lookup_app {l₁ l₂ : List (Str × Addr)} {x : Str} : (l₁ ++ l₂).lookup x = (match l₁.lookup x with | some c => some c | none => l₂.lookup x) := by
  induction l₁ with
  | nil => rfl
  | cons y r ih =>
    obtain ⟨k, v⟩ := y
    rw [List.cons_append, List.lookup_cons, List.lookup_cons]
    cases x == k with
    | true => rfl
    | false => exact ih
structure CellsFor (X : Cx) (scope : Scope) (s : Shared) (h₁ : Heap) (cells : List (Str × Addr)) : Prop where
  src : ∀ x c, cells.lookup x = some c → (s.heap.objs.size < c ∧ h₁.IsCell c none) ∨ X.env.cells.lookup x = some c
  inj : ∀ x y c, cells.lookup x = some c → cells.lookup y = some c → x = y
  has : ∀ x, (scope.names.lookup x = some .cell ∨ scope.names.lookup x = some .free) → ∃ c, cells.lookup x = some c
  cab : ∀ x c, scope.names.lookup x = some .cell → cells.lookup x = some c → s.heap.objs.size ≤ c
  fr : ∀ x c, scope.names.lookup x = some .free → cells.lookup x = some c → X.env.cells.lookup x = some c
theorem newEnvB {M : Model} {A : Around} {E : Value → Shared → Prop} {s : Shared} {scope : Scope} {globals : Addr} {cl : List (Str × Addr)} {qual : Str} {env : Env} {Q : Env → Shared → Prop}
    (h : Q { scope := scope, locals := s.heap.objs.size, globals := globals, cells := cellsFrom (s.heap.objs.size + 1) scope.names cl, qual := qual, func := none, code := env.code, frame := env.frame, builtins := env.builtins }
      { s with heap := pushCells (s.heap.push { cls := .type "dict", data := .dict #[] }) scope.names }) :
    wpAny M A (newFunctionEnv scope globals cl [] qual none .none (some env)) Q E s := by
  simp only [newFunctionEnv, Option.isSome_some, if_true]
  refine wpAny_bind (wpAny_alloc ?_)
  refine wpAny_bind (wpAny_layCells _ (fun name kind cells => by cases hkc : kind == NameKind.cell <;> simp [hkc]) _ _ _ _ ?_)
  rw [show ({ s with heap := s.heap.push { cls := .type "dict", data := .dict #[] } } : Shared).heap.objs.size = s.heap.objs.size + 1 from Heap.size_push ..]
  rw [List.forIn_nil]
  exact wpAny_bind (wpAny_pure (wpAny_pure h))
theorem cells_for {X : Cx} {XN N : List Str} {fm : List (Option Nat)} {xsc scope : Scope} {cl : List (Str × Addr)} {s : Shared} (S : CompScope XN xsc N fm scope)
    (hin : ∀ x y c, X.env.cells.lookup x = some c → X.env.cells.lookup y = some c → x = y) (hlt : ∀ x c, X.env.cells.lookup x = some c → c < s.heap.objs.size)
    (hcl1 : ∀ x c, cl.lookup x = some c → X.env.cells.lookup x = some c) (hcl2 : ∀ y ∈ scope.names, y.2 = NameKind.free → (cl.lookup y.1).isSome = true) :
    CellsFor X scope s (pushCells (s.heap.push { cls := .type "dict", data := .dict #[] }) scope.names) (cellsFrom (s.heap.objs.size + 1) scope.names cl) := by
  have ok := cellsFrom_ok scope.names (s.heap.push { cls := .type "dict", data := .dict #[] }) (s.heap.objs.size + 1) [] ⟨fun _ _ hm => (nomatch hm), List.Pairwise.nil⟩ (by rw [Heap.size_push]; exact Nat.le_refl _)
  rw [Heap.size_push] at ok
  rw [cellsFrom_app]
  have new : ∀ x c, (cellsFrom (s.heap.objs.size + 1) scope.names []).lookup x = some c → s.heap.objs.size < c ∧ (pushCells (s.heap.push { cls := .type "dict", data := .dict #[] }) scope.names).IsCell c none ∧ scope.names.lookup x = some .cell := fun x c e => by
    have m := PySem.mem_of_lookup e
    exact ⟨(ok.empty x c m).2, (ok.empty x c m).1, S.cel (x, .cell) (cellsFrom_mem _ _ m) rfl⟩
  have two : ∀ x c, ((cellsFrom (s.heap.objs.size + 1) scope.names []) ++ cl).lookup x = some c → (cellsFrom (s.heap.objs.size + 1) scope.names []).lookup x = some c ∨ ((cellsFrom (s.heap.objs.size + 1) scope.names []).lookup x = none ∧ cl.lookup x = some c) := fun x c e => by
    rw [lookup_app] at e
    cases q : (cellsFrom (s.heap.objs.size + 1) scope.names []).lookup x with
    | some d => rw [q] at e; exact .inl e
    | none => rw [q] at e; exact .inr ⟨rfl, e⟩
  refine ⟨fun x c e => ?_, fun x y c e1 e2 => ?_, fun x hx => ?_, fun x c hx e => ?_, fun x c hx e => ?_⟩
  · rcases two x c e with z | ⟨_, z⟩
    · exact .inl ⟨(new x c z).1, (new x c z).2.1⟩
    · exact .inr (hcl1 x c z)
  · rcases two x c e1 with z | ⟨_, z⟩
    · rcases two y c e2 with z' | ⟨_, z'⟩
      · exact name_of_addr ok.apart (PySem.mem_of_lookup z) (PySem.mem_of_lookup z')
      · exact absurd (Nat.lt_trans (hlt y c (hcl1 y c z')) (new x c z).1) (Nat.lt_irrefl _)
    · rcases two y c e2 with z' | ⟨_, z'⟩
      · exact absurd (Nat.lt_trans (hlt x c (hcl1 x c z)) (new y c z').1) (Nat.lt_irrefl _)
      · exact hin x y c (hcl1 x c z) (hcl1 y c z')
  · rcases hx with hx | hx
    · have q := PySem.W.cellsFrom_some scope.names (s.heap.objs.size + 1) [] (x := x) (.inl hx)
      obtain ⟨c, e⟩ := Option.isSome_iff_exists.mp q
      exact ⟨c, by rw [lookup_app, e]⟩
    · obtain ⟨c, e⟩ := Option.isSome_iff_exists.mp (hcl2 (x, .free) (mem_lookup hx) rfl)
      rw [lookup_app]
      cases q : (cellsFrom (s.heap.objs.size + 1) scope.names []).lookup x with
      | some d => exact ⟨d, rfl⟩
      | none => exact ⟨c, e⟩
  · rcases two x c e with z | ⟨z, _⟩
    · exact Nat.le_of_lt (new x c z).1
    · have q := PySem.W.cellsFrom_some scope.names (s.heap.objs.size + 1) [] (x := x) (.inl hx)
      rw [z] at q; cases q
  · rcases two x c e with z | ⟨_, z⟩
    · have := (new x c z).2.2
      rw [hx] at this; cases this
    · exact hcl1 x c z

section
variable {X : Cx}
/-- the context is well made -/
theorem cxC_ok {N : List Str} {fm : List (Option Nat)} {scope : Scope} {cells : List (Str × Addr)} {pins : List (Addr × Obj)} {σ : St} {H : Hp} {s : Shared} {fp : List Addr} {h₁ : Heap} (S : CompScope X.N X.env.scope N fm scope) (hc : X.calm = true)
    (I : Inv X pins σ H s) (L : CellsFor X scope s h₁ cells)
    (hfp : ∀ b ∈ fp, FpOk X pins H b) (hfl : ∀ b ∈ fp, b < s.heap.objs.size) : (cxC X N scope cells s.heap.objs.size s H fp).Ok := by
  refine ⟨I.ok.mod, S.kind, I.ok.glob, I.ok.blt, Nat.le_refl _, L.inj, fun x hx => ?_, fun x c h e => L.cab x c (eq_of_beq h) e, fun _ => I.ok.hd hc, I.ok.frames, .inl rfl, fun b hb => ?_, I.bs, Nat.le_trans I.ok.bsz I.sz, fun b o e hb => ?_, fun b hb hf => ?_, I.stack, fun b hb => I.stkFree b hb⟩
  · have hx' : (∃ k', (relabel scope X.env).names.lookup x = some k' ∧ (k' = .cell ∨ k' = .free)) := by
      rcases hx with z | z
      · exact ⟨_, z, .inl rfl⟩
      · exact ⟨_, z, .inr rfl⟩
    obtain ⟨k', e, hk⟩ := hx'
    obtain ⟨k, e1, z⟩ := lookup_relabel e
    refine L.has x ?_
    rcases z with z | ⟨z, _⟩
    · subst z
      rcases hk with hk | hk
      · subst hk; exact .inl e1
      · subst hk; exact .inr e1
    · subst z; exact .inr e1
  · refine ⟨Nat.ne_of_lt (hfl b hb), fun x c e z => ?_⟩
    rcases L.src x c e with ⟨q, _⟩ | q
    · exact absurd (Nat.lt_trans (Nat.lt_of_lt_of_eq q z) (hfl b hb)) (Nat.lt_irrefl _)
    · exact (hfp b hb).2.2.2.2.1 x c q z
  · obtain ⟨_, _, _, h, _⟩ := hfp b hb
    rcases h with h | h
    · exact I.ok.noex b o e h
    · exact absurd (Nat.lt_of_lt_of_le (Heap.lt_size e) (Nat.le_trans I.ok.bsz h)) (Nat.lt_irrefl _)
  · obtain ⟨_, h1, h2, _⟩ := hfp b hb
    rcases List.mem_cons.mp (I.stkSub b hf) with z | z
    · exact h1 z
    · exact h2 z

theorem cxC_inv {N : List Str} {fm : List (Option Nat)} {scope : Scope} {cells : List (Str × Addr)} {pins : List (Addr × Obj)} {σ : St} {H : Hp} {s : Shared} {fp : List Addr} {h₁ : Heap} {tk : Nat} {m : Str → Option Value} (S : CompScope X.N X.env.scope N fm scope) (hc : X.calm = true)
    (I : Inv X pins σ H s) (L : CellsFor X scope s h₁ cells)
    (hfp : ∀ b ∈ fp, FpOk X pins H b) (hfl : ∀ b ∈ fp, b < s.heap.objs.size) (hn : h₁.Ns s.heap.objs.size m) (hk : ∀ b o, s.heap.get? b = some o → h₁.get? b = some o) :
    Inv (cxC X N scope cells s.heap.objs.size s H fp) [] (csel fm σ) H { s with heap := h₁, toks := tk } := by
  have len := selOk_len S.sel
  refine ⟨cxC_ok S hc I L hfp hfl, rfl, I.bare, Un.kept hk, ⟨m, hn, fun i x v e1 e2 e3 => ?_⟩, fun x c e => ?_, I.hok.fresh (Nat.le_refl _), fun x c e => ?_, fun p hp => absurd (show p ∈ ([] : List (Addr × Obj)) from hp) (by simp), I.hok.kept hk, ?_⟩
  · obtain ⟨j, f1, f2⟩ := csel_get e2
    obtain ⟨g1, g2⟩ := selOk_at S.sel e1 f1
    have hxf := S.free (x, .free) (mem_lookup g2) rfl
    obtain ⟨m0, _, hl⟩ := I.loc
    have hvis : Vis X.env.scope x := by
      rcases hxf with z | z
      · exact .inr (.inl z)
      · exact .inr (.inr z)
    obtain ⟨u, r, l⟩ := hl j x v g1 f2 hvis
    refine ⟨u, r, .inr ⟨lookup_relabel_free g2, ?_⟩⟩
    obtain ⟨c, ec⟩ := L.has x (.inr g2)
    refine ⟨c, ec, ?_⟩
    rcases l with ⟨k, _⟩ | ⟨_, c', e', z⟩
    · have k' : X.env.scope.names.lookup x = some .local := k
      rcases hxf with q | q <;> (have q' : X.env.scope.names.lookup x = _ := q; rw [k'] at q'; cases q')
    · have e3 := L.fr x c g2 ec
      rw [e'] at e3
      have e4 : c' = c := Option.some.inj e3
      subst e4
      obtain ⟨o, ho, hd⟩ := z
      exact ⟨o, hk _ _ ho, hd⟩
  · rcases L.src x c e with ⟨_, q⟩ | q
    · exact ⟨_, q⟩
    · obtain ⟨v, o, ho, hd⟩ := I.cell x c q
      exact ⟨v, o, hk _ _ ho, hd⟩
  · rcases L.src x c e with ⟨q, _⟩ | q
    · exact I.hok.fresh (Nat.le_of_lt q)
    · exact I.freeC x c q
  · show (csel fm σ).length = N.length
    unfold csel
    rw [List.length_map]; exact len

/-- the reading of a comprehension -/
def CompRun (J : It) (g : TG) (tt : TT) (te : TE) (Q : VK) (σ0 : St) (H1 : Hp) (D : Addr) : Prop :=
  ∃ W : Nat → Nat → St → Hp → Prop, (∃ m, W 0 m σ0 (upd H1 D (.lst []))) ∧ ∀ i m σ' H', W i m σ' H' →
    (J.stop i H' ∧ Q (.ref D) H') ∨ (J.go i H' ∧ ∃ N : St → Hp → Prop, (∀ σ2 H2, N σ2 H2 → ∃ m', m' < m ∧ W (i + 1) m' σ2 H2) ∧
      ∀ x H2, J.yld i H' x H2 → g x σ' H2 fun σ3 H3 => tt σ3 H3 fun b H4 => if b = true then te σ3 H4 fun y H5 => ∃ ys, H5 D = some (.lst ys) ∧ ys.length < sizeLine ∧ N σ3 (upd H5 D (.lst (ys ++ [y]))) else N σ3 H4)
def tComp (fm : List (Option Nat)) (wi : TI) (g : TG) (tt : TT) (te : TE) : TE := fun σ H Q => wi σ H fun J H1 => ∀ D, H1 D = none → CompRun J g tt te Q (csel fm σ) H1 D
/-- the tests of a comprehension: none, one -/
def PTs (X : Cx) (ifs : List Expr) (t : TT) : Prop :=
  ∀ (pins : List (Addr × Obj)) (s : Shared) (σ : St) (H : Hp) (Q : Bool → Hp → Prop), Inv X pins σ H s → t σ H Q →
    wpAny (model X.prog X.w) X.A (forIn ifs true fun c r => if r = true then do let ok ← isTrue c X.env (eval c X.env); pure (ForInStep.yield ok) else pure (ForInStep.yield r)) (TP X pins σ Q) X.xe s
def tYes : TT := fun _ H Q => Q true H
theorem pts_nil : PTs X [] tYes := fun _ _ _ H _ I h => wpAny_tests_nil ⟨H, I, h⟩
theorem pts_one {c : Expr} {t : TT} (h : PT X c t) : PTs X [c] t := fun pins s σ H Q I q => wpAny_tests_one (h pins s σ H Q I q)

theorem comp_block {elt tg iter : Expr} {ifs : List Expr} {scope : Scope} {cl : List (Str × Addr)} {N : List Str} {fm : List (Option Nat)} {pos : Pos} {g : TG} {tt : TT} {te : TE} {pins : List (Addr × Obj)} {σ : St} {H1 : Hp} {s₂ : Shared} {it : Addr} {fp : List Addr} {tn : Nat → Heap → Prop} {J : It} {Q : VK}
    {E : Value → Shared → Prop} {RR : Value → Addr → Result → Shared → Prop} (S : CompScope X.N X.env.scope N fm scope) (hc : X.calm = true) (hcl1 : ∀ x c, cl.lookup x = some c → X.env.cells.lookup x = some c) (hcl2 : ∀ y ∈ scope.names, y.2 = NameKind.free → (cl.lookup y.1).isSome = true)
    (hg : ∀ cl C s H fp, PG (cxC X N scope cl C s H fp) tg g) (ht : ∀ cl C s H fp, PTs (cxC X N scope cl C s H fp) ifs tt) (he : ∀ cl C s H fp, PE (cxC X N scope cl C s H fp) elt te)
    (I : Inv X pins σ H1 s₂) (T : Turn X.prog X.w X.K tg J fp it tn) (st : tn 0 s₂.heap) (hf : ∀ b ∈ fp, FpOk X pins H1 b)
    (hq : ∀ D, H1 D = none → CompRun J g tt te Q (csel fm σ) H1 D)
    (hRR : ∀ D C s' H' m, Inv X pins σ H' s' → s'.heap.Ns C m → H' C = none → C ≠ X.env.locals → X.s₀.heap.objs.size ≤ C → (∀ x c, X.env.cells.lookup x = some c → c ≠ C) → (∀ p ∈ X.pn ++ pins, p.1 ≠ C) → C ∉ X.fs → Q (.ref D) H' → RR (.ref D) C (.ok .next) s') :
    wpAny (model X.prog X.w) X.A (newList []) (fun acc s₃ => wpAny (model X.prog X.w) X.A (newFunctionEnv scope X.env.globals cl [] X.env.qual none .none (some X.env)) (fun cenv s₄ =>
      codeAny (model X.prog X.w) X.A (.compStart (.ListComp elt [⟨tg, iter, ifs, 0⟩] scope pos) 0 (.ref it) acc { cenv with scope := relabel scope X.env }) (RR acc cenv.locals) s₄) E s₃) E s₂ := by
  have hD : H1 s₂.heap.objs.size = none := I.hok.fresh (Nat.le_refl _)
  obtain ⟨W, ⟨m0, w0⟩, turn⟩ := hq _ hD
  refine wpAny_newObj_type (newEnvB ?_)
  -- the list, the block's names
  have I3 : Inv X pins σ (upd H1 s₂.heap.objs.size (.lst [])) { s₂ with heap := s₂.heap.push { cls := .type "list", data := .seq ([] : List Value).toArray } } := I.lnew (its := []) (t' := s₂.toks) .nil (Nat.zero_le _)
  have obj := T.obj 0 _ st
  have fl : ∀ b ∈ fp, b < s₂.heap.objs.size := fun b hb => by obtain ⟨o, e, _⟩ := obj b hb; exact Heap.lt_size e
  have hf3 : ∀ b ∈ fp, FpOk X pins (upd H1 s₂.heap.objs.size (.lst [])) b := fun b hb => by
    obtain ⟨q, r⟩ := hf b hb
    exact ⟨by rw [upd_ne (Nat.ne_of_lt (fl b hb))]; exact q, r⟩
  have sz3 : (s₂.heap.push { cls := .type "list", data := .seq ([] : List Value).toArray }).objs.size = s₂.heap.objs.size + 1 := Heap.size_push ..
  have fl3 : ∀ b ∈ fp, b < (s₂.heap.push { cls := .type "list", data := .seq ([] : List Value).toArray }).objs.size := fun b hb => by rw [sz3]; exact Nat.lt_succ_of_lt (fl b hb)
  have L := cells_for (X := X) (s := { s₂ with heap := s₂.heap.push { cls := .type "list", data := .seq ([] : List Value).toArray } }) S I.ok.inj (fun x c e => by obtain ⟨v, o, ho, _⟩ := I3.cell x c e; exact Heap.lt_size ho) hcl1 hcl2
  generalize hcells : cellsFrom ((s₂.heap.push { cls := .type "list", data := .seq ([] : List Value).toArray }).objs.size + 1) scope.names cl = cells at L ⊢
  have hns₁ : (pushCells ((s₂.heap.push { cls := .type "list", data := .seq ([] : List Value).toArray }).push { cls := .type "dict", data := .dict #[] }) scope.names).Ns (s₂.heap.push { cls := .type "list", data := .seq ([] : List Value).toArray }).objs.size (fun _ => none) :=
    (Heap.Ns.new _ (.type "dict")).keeps (pushCells_keeps _ _)
  have kp : ∀ b o, (s₂.heap.push { cls := .type "list", data := .seq ([] : List Value).toArray }).get? b = some o → (pushCells ((s₂.heap.push { cls := .type "list", data := .seq ([] : List Value).toArray }).push { cls := .type "dict", data := .dict #[] }) scope.names).get? b = some o := fun b o e => pushCells_keeps _ _ b o (Heap.get?_push_of_some _ e)
  generalize hh₁ : pushCells ((s₂.heap.push { cls := .type "list", data := .seq ([] : List Value).toArray }).push { cls := .type "dict", data := .dict #[] }) scope.names = h₁ at L hns₁ kp ⊢
  have J0 := cxC_inv (tk := s₂.toks) S hc I3 L hf3 fl3 hns₁ kp
  -- what stays true of the iterator's records
  have stat : ∀ {H' : Hp}, (∀ b ∈ fp, H' b = none) → ∀ b ∈ fp, FpOk (cxC X N scope cells (s₂.heap.push { cls := .type "list", data := .seq ([] : List Value).toArray }).objs.size { s₂ with heap := s₂.heap.push { cls := .type "list", data := .seq ([] : List Value).toArray } } (upd H1 s₂.heap.objs.size (.lst [])) fp) [] H' b :=
    fun hn b hb => ⟨hn b hb, (J0.ok.exf b hb).1, J0.ok.exfs b hb, .inl hb, (J0.ok.exf b hb).2, fun p hp => absurd (show p ∈ ([] : List (Addr × Obj)) from hp) (by simp)⟩
  have st1 : tn 0 h₁ := T.keep 0 _ _ st fun b hb o e => kp b o (Heap.get?_push_of_some _ e)
  have loop : ∀ s₃ : Shared, s₃ = { s₂ with heap := h₁, toks := s₂.toks } →
      codeAny (model X.prog X.w) X.A (.compLoop (.ListComp elt [⟨tg, iter, ifs, 0⟩] scope pos) 0 (.ref it) (.ref s₂.heap.objs.size) (compEnvC scope cells (s₂.heap.push { cls := .type "list", data := .seq ([] : List Value).toArray }).objs.size X.env))
        (RR (.ref s₂.heap.objs.size) (s₂.heap.push { cls := .type "list", data := .seq ([] : List Value).toArray }).objs.size) s₃ := by
    rintro s₃ rfl
    generalize hX : cxC X N scope cells (s₂.heap.push { cls := .type "list", data := .seq ([] : List Value).toArray }).objs.size { s₂ with heap := s₂.heap.push { cls := .type "list", data := .seq ([] : List Value).toArray } } (upd H1 s₂.heap.objs.size (.lst [])) fp = X' at J0 stat
    refine compLoop_go (fun n s' => ∃ i σ' H', Inv X' [] σ' H' s' ∧ tn i s'.heap ∧ (∀ b ∈ fp, H' b = none) ∧ W i n σ' H') ?_ m0 ⟨0, _, _, J0, st1, fun b hb => (hf3 b hb).1, w0⟩
    rintro n s3 ⟨i, σ3, H3, I3', st3, fr3, w3⟩
    rcases turn i n σ3 H3 w3 with ⟨stop, qn⟩ | ⟨go, Nx, hN, step⟩
    · have hd := T.done X' (by rw [← hX]; rfl) (by rw [← hX]; rfl) (by rw [← hX]; rfl) (by rw [← hX]; rfl) i [] s3 σ3 H3 (fun _ _ => False) I3' (stat fr3) st3 stop
      have hA : X'.A = X.A := by rw [← hX]; rfl
      rw [hA] at hd
      refine wpAny_mono hd (fun r s4 ⟨hr, I4⟩ => ?_) fun _ _ z => z
      subst hr
      show RR _ _ (.ok .next) s4
      subst hX
      obtain ⟨m', hm', _⟩ := I4.loc
      refine hRR _ _ s4 H3 m' (I3.call' (ch := fp) I4.os I4.base I4.hok I4.bare fun b hb => ?_) hm' I4.free ?_ ?_ ?_ ?_ ?_ qn
      · obtain ⟨_, f1, f2, f3, f4, f5⟩ := hf b hb
        exact ⟨f3, f1, f4, f5⟩
      · exact Nat.ne_of_gt (Nat.lt_of_lt_of_le I.lt (by rw [sz3]; exact Nat.le_succ _))
      · exact Nat.le_trans I.sz (by rw [sz3]; exact Nat.le_succ _)
      · intro x c e z
        obtain ⟨v, o, ho, _⟩ := I3.cell x c e
        exact Nat.lt_irrefl _ (Nat.lt_of_lt_of_eq (Heap.lt_size ho) z.symm)
      · intro p hp z
        have e := (I3.pin p hp).1
        exact Nat.lt_irrefl _ (Nat.lt_of_lt_of_eq (Heap.lt_size e) z.symm)
      · exact I3.nofs (Nat.le_refl _)
    · have hi := T.item X' (by rw [← hX]; rfl) (by rw [← hX]; rfl) (by rw [← hX]; rfl) (by rw [← hX]; rfl) i [] s3 σ3 H3 (fun _ _ => False) I3' (stat fr3) st3 go
      have hA : X'.A = X.A := by rw [← hX]; rfl
      have hP : X'.prog = X.prog := by rw [← hX]; rfl
      have hw' : X'.w = X.w := by rw [← hX]; rfl
      have hE : X'.env = compEnvC scope cells (s₂.heap.push { cls := .type "list", data := .seq ([] : List Value).toArray }).objs.size X.env := by rw [← hX]; rfl
      have hxe : X'.xe = fun _ _ => False := by rw [← hX]; rfl
      rw [hA] at hi
      refine wpAny_mono hi (fun r s4 ⟨u, hr, h4⟩ => ?_) fun _ _ z => z
      subst hr
      refine wpAny_mono h4 (fun _ s5 ⟨x, H5, I5, r5, y5, st5, fr5⟩ => ?_) fun _ _ z => z
      have I5' := I5.pinned (stat fr5) (T.obj _ _ st5)
      have q1 := (by rw [← hX]; exact hg _ _ _ _ _ : PG X' tg g) _ s5 σ3 H5 x u _ I5' r5 (step x H5 y5)
      rw [hP, hw', hA, hE, hxe] at q1
      refine wpAny_mono q1 (fun _ s6 ⟨σ6, H6, I6, q6⟩ => ?_) fun _ _ z => z
      have q2 := (by rw [← hX]; exact ht _ _ _ _ _ : PTs X' ifs tt) _ s6 σ6 H6 _ I6 q6
      rw [hP, hw', hA, hE, hxe] at q2
      refine wpAny_mono q2 (fun ok s7 ⟨H7, I7, q7⟩ => ?_) fun _ _ z => z
      have again : ∀ {s8 : Shared} {σ8 : St} {H8 : Hp}, Inv X' ([] ++ pinsAt fp s5.heap) σ8 H8 s8 → Nx σ8 H8 → ∃ m, m < n ∧ ∃ i σ' H', Inv X' [] σ' H' s8 ∧ tn i s8.heap ∧ (∀ b ∈ fp, H' b = none) ∧ W i m σ' H' := fun {s8 σ8 H8} I8 n8 => by
        obtain ⟨m', hm, w8⟩ := hN σ8 H8 n8
        refine ⟨m', hm, i + 1, σ8, H8, I8.unpinned, T.keep _ _ _ st5 fun b hb o e => (I8.pin (b, o) (List.mem_append_right _ (List.mem_append_right _ (mem_pinsAt hb e)))).1, fun b hb => ?_, w8⟩
        obtain ⟨o, e, d⟩ := T.obj _ _ st5 b hb
        exact (I8.pin (b, o) (List.mem_append_right _ (List.mem_append_right _ (mem_pinsAt hb e)))).2.1
      cases ok with
      | false => exact again I7 q7
      | true =>
        have q3 := (by rw [← hX]; exact he _ _ _ _ _ : PE X' elt te) _ s7 σ6 H7 _ I7 q7
        rw [hP, hw', hA, hE, hxe] at q3
        refine wpAny_mono q3 (fun z s8 ⟨y, H8, I8, r8, ys, e8, l8, n8⟩ => ?_) fun _ _ z => z
        have q4 := mt_append (X := X') _ s8 σ6 H8 (.ref s₂.heap.objs.size) [y] (.ref s₂.heap.objs.size) [z] (fun v H' => Nx σ6 H') I8 rfl (.cons r8 .nil) ⟨_, ys, y, rfl, rfl, e8, l8, n8⟩
        rw [hP, hw', hA, hxe] at q4
        exact wpAny_mono q4 (fun _ s9 ⟨_, H9, I9, _, n9⟩ => again I9 n9) fun _ _ z => z
  exact codeAny_compStart_list (loop _ rfl) (T.self _ 0 _ _ _ st1 (loop _ rfl))

/-- [elt for tg in iter if ..] as a value -/
theorem pe_comp {elt tg iter : Expr} {ifs : List Expr} {scope : Scope} {pos : Pos} {wi : TI} {g : TG} {tt : TT} {te : TE} (XN : List Str) (xsc : Scope) (N : List Str) (fm : List (Option Nat)) (S : CompScope XN xsc N fm scope) (hc : X.calm = true) (hi : PI X tg iter wi)
    (hg : ∀ cl C s H fp, PG (cxC X N scope cl C s H fp) tg g) (ht : ∀ cl C s H fp, PTs (cxC X N scope cl C s H fp) ifs tt) (he : ∀ cl C s H fp, PE (cxC X N scope cl C s H fp) elt te)
    (hXN : X.N = XN := by rfl) (hXs : X.env.scope = xsc := by rfl) (hs : ∀ x, foldedSetIterable iter X.env x = pure x := by intro _; rfl) : PE X (.ListComp elt [⟨tg, iter, ifs, 0⟩] scope pos) (tComp fm wi g tt te) := by
  intro pins s σ H Q I h
  subst hXN hXs
  obtain ⟨cl, hclos, hcl1, hcl2⟩ := clos_of (scope := scope) (env := X.env) fun y hy hf => I.ok.has y.1 (S.free y hy hf)
  rw [eval_ListComp]
  refine wpAny_comprehension_free (use := none) rfl hs hclos S.kind S.loc (thn (hi pins s σ H _ I h) fun xv s₁ h₁ => thn h₁ fun itv s₂ h₂ => ?_)
  obtain ⟨it, fp, tn, J, H1, e, I2, T, st, hf, hq⟩ := h₂
  subst e
  refine comp_block (RR := fun acc C => compPost (model X.prog X.w) X.A X.xe none (EP X pins σ Q) acc C) S hc hcl1 hcl2 hg ht he I2 T st hf hq ?_
  intro D C s' H' m I' hn hC hL hC0 hcc hpp hfs q
  refine ⟨m, hn, fun h' hs' => ⟨.ref D, H', ?_, rfl, q⟩⟩
  exact I'.turned (t' := s'.toks) (it := C) (fun b o hb e => hs'.extBut b o hb e) hC hL (.inr hC0) hcc hpp

/-- name = [elt for tg in iter if ..] -/
theorem ps_setC {i : Nat} {y : Str} {elt tg iter : Expr} {ifs : List Expr} {scope : Scope} {pos spos py : Pos} {wi : TI} {g : TG} {tt : TT} {te : TE} (XN : List Str) (xsc : Scope) (N : List Str) (fm : List (Option Nat)) (S : CompScope XN xsc N fm scope) (hc : X.calm = true)
    (hN : X.N.Nodup) (hiy : X.N[i]? = some y) (hy : X.env.scope.names.lookup y = some .local) (hi : PI X tg iter wi)
    (hg : ∀ cl C s H fp, PG (cxC X N scope cl C s H fp) tg g) (ht : ∀ cl C s H fp, PTs (cxC X N scope cl C s H fp) ifs tt) (he : ∀ cl C s H fp, PE (cxC X N scope cl C s H fp) elt te)
    (hXN : X.N = XN := by rfl) (hXs : X.env.scope = xsc := by rfl) (hs : ∀ x, foldedSetIterable iter X.env x = pure x := by intro _; rfl)
    (hsw : swapsWith (.ListComp elt [⟨tg, iter, ifs, 0⟩] scope pos) (some (.Name y py)) spos.line X.env = pure true := by rfl) :
    PS X (.Assign [.Name y py] (.ListComp elt [⟨tg, iter, ifs, 0⟩] scope pos) spos) (tAsg (tComp fm wi g tt te) (gName i)) := by
  intro pins s σ H D I h
  subst hXN hXs
  obtain ⟨cl, hclos, hcl1, hcl2⟩ := clos_of (scope := scope) (env := X.env) fun y hy hf => I.ok.has y.1 (S.free y hy hf)
  rw [exec_Assign_Name_used _ _ _ _ hsw]
  refine wpAny_bind (wpAny_standAt (wpAny_bind ?_))
  show wpAny _ X.A (do let _ ← comprehension (.ListComp elt [⟨tg, iter, ifs, 0⟩] scope pos) scope X.env _ (newList []) false (eval iter X.env) (some (assign (.Name y py) X.env))) _ _ s
  refine wpAny_bind (wpAny_mono (wpAny_comprehension_free (use := some (assign (.Name y py) X.env)) (Q := fun _ s' => SP X pins D .next s') rfl hs hclos S.kind S.loc
    (thn (hi pins s σ H _ I h) fun xv s₁ h₁ => thn h₁ fun itv s₂ h₂ => ?_)) (fun _ s' hq => wpAny_pure (wpAny_pure hq)) fun _ _ e => e)
  obtain ⟨it, fp, tn, J, H1, e, I2, T, st, hf, hq⟩ := h₂
  subst e
  refine comp_block (Q := fun x H1 => gName i x σ H1 D.nx) (RR := fun acc C => compPost (model X.prog X.w) X.A X.xe (some (assign (.Name y py) X.env)) (fun _ s' => SP X pins D .next s') acc C) S hc hcl1 hcl2 hg ht he I2 T st hf hq ?_
  intro D' C s' H' m I' hn hC hL hC0 hcc hpp hfs q
  show wpAny _ X.A (assign (.Name y py) X.env (.ref D')) _ _ _
  obtain ⟨oC, es, ep, hoC, hdC, hrC⟩ := id hn
  have Ip : Inv X (pins ++ [(C, oC)]) σ H' s' := I'.pins_of fun p hp => by
    rcases List.mem_append.mp hp with z | z
    · exact I'.pin p (List.mem_append_right _ z)
    · have z' : p = (C, oC) := by simpa using z
      subst z'
      exact ⟨hoC, hC, hL, hfs, fun v z => by rw [hdC] at z; cases z⟩
  refine wpAny_assign_Name (store_ok Ip hN hiy (.inl hy) (v := .ref D') rfl (fun s2 I3 => ?_) (.inr hy))
  have hC2 := (I3.pin (C, oC) (List.mem_append_right _ (List.mem_append_right _ (by simp))))
  refine ⟨m, ⟨oC, es, ep, hC2.1, hdC, hrC⟩, fun h' hs' => ⟨_, H', ?_, q⟩⟩
  exact I3.unpinned.turned (t' := s2.toks) (it := C) (fun b o hb e => hs'.extBut b o hb e) hC hL (.inr hC0) hcc hpp
end
end L2

namespace L2
open PySem PySem.Spec PyProof.Rows

/-! ### forms of comprehensions that one uses: one name as the target, in slot 0 -/
/-- behind a turn: the list stands at D -/
def CN (σ0 : St) (D : Addr) (Pv : Nat → List V → Hp → Prop) (i : Nat) : St → Hp → Prop := fun σ H => (∃ v, σ = σ0.set 0 v) ∧ ∃ ys, H D = some (.lst ys) ∧ Pv i ys H
/-- the element's end -/
def CE1 (σ0 : St) (D : Addr) (Pv : Nat → List V → Hp → Prop) (i : Nat) (σ : St) : VK := fun y H => ∃ ys, H D = some (.lst ys) ∧ ys.length < sizeLine ∧ CN σ0 D Pv i σ (upd H D (.lst (ys ++ [y])))
theorem CE1.mk {σ0 : St} {D : Addr} {Pv : Nat → List V → Hp → Prop} {i : Nat} {v : Option V} {y : V} {H : Hp} {ys : List V} (hD : H D = some (.lst ys)) (hl : ys.length < sizeLine) (h : Pv i (ys ++ [y]) (upd H D (.lst (ys ++ [y])))) : CE1 σ0 D Pv i (σ0.set 0 v) y H :=
  ⟨ys, hD, hl, ⟨v, rfl⟩, _, upd_same, h⟩
theorem CN.mk {σ0 : St} {D : Addr} {Pv : Nat → List V → Hp → Prop} {i : Nat} {v : Option V} {H : Hp} {ys : List V} (hD : H D = some (.lst ys)) (h : Pv i ys H) : CN σ0 D Pv i (σ0.set 0 v) H := ⟨⟨v, rfl⟩, ys, hD, h⟩
theorem comp_list {K : PySem.W.Frag} {a D : Addr} {xs : List V} {tt : TT} {te : TE} {σ0 : St} {H1 : Hp} {Q : VK} (Pv : Nat → List V → Hp → Prop) (h0 : Pv 0 [] (upd H1 D (.lst [])))
    (hl : ∀ i ys H, i ≤ xs.length → Pv i ys H → SqL K H a xs)
    (hs : ∀ i x ys H, xs[i]? = some x → Pv i ys H → H D = some (.lst ys) → tt (σ0.set 0 (some x)) H fun b H4 => if b = true then te (σ0.set 0 (some x)) H4 (CE1 σ0 D Pv (i + 1) (σ0.set 0 (some x))) else CN σ0 D Pv (i + 1) (σ0.set 0 (some x)) H4)
    (hd : ∀ ys H, Pv xs.length ys H → H D = some (.lst ys) → Q (.ref D) H) :
    CompRun (Itl K a) (gName 0) tt te Q σ0 H1 D := by
  refine ⟨fun i m σ H => m = xs.length - i ∧ i ≤ xs.length ∧ (σ = σ0 ∨ ∃ v, σ = σ0.set 0 v) ∧ ∃ ys, H D = some (.lst ys) ∧ Pv i ys H, ⟨xs.length, by simp, Nat.zero_le _, .inl rfl, [], upd_same, h0⟩, ?_⟩
  rintro i m σ H ⟨rfl, hi, hσ, ys, hD, p⟩
  have q := hl i ys H hi p
  by_cases hlt : i < xs.length
  · refine .inr ⟨⟨xs, xs[i], q, by simp [hlt]⟩, CN σ0 D Pv (i + 1), fun σ' H' ⟨a1, a2⟩ => ⟨xs.length - (i + 1), by omega, rfl, hlt, .inr a1, a2⟩, fun x H' y => ?_⟩
    obtain ⟨e, y⟩ := y
    subst e
    have hx := y xs q
    have eσ : σ.set 0 (some x) = σ0.set 0 (some x) := by
      rcases hσ with rfl | ⟨v, rfl⟩
      · rfl
      · rw [List.set_set]
    show tt (σ.set 0 (some x)) _ _
    rw [eσ]
    exact hs i x ys _ hx p hD
  · have e : i = xs.length := by omega
    subst e
    exact .inl ⟨⟨xs, q, Nat.le_refl _⟩, hd ys H p hD⟩
theorem comp_range {D : Addr} {lo : Int} {n : Nat} {tt : TT} {te : TE} {σ0 : St} {H1 : Hp} {Q : VK} (Pv : Nat → List V → Hp → Prop) (h0 : Pv 0 [] (upd H1 D (.lst [])))
    (hs : ∀ i ys H, i < n → Pv i ys H → H D = some (.lst ys) → tt (σ0.set 0 (some (.int (lo + i)))) H fun b H4 => if b = true then te (σ0.set 0 (some (.int (lo + i)))) H4 (CE1 σ0 D Pv (i + 1) (σ0.set 0 (some (.int (lo + i))))) else CN σ0 D Pv (i + 1) (σ0.set 0 (some (.int (lo + i)))) H4)
    (hd : ∀ ys H, Pv n ys H → H D = some (.lst ys) → Q (.ref D) H) :
    CompRun (Itr lo n) (gName 0) tt te Q σ0 H1 D := by
  refine ⟨fun i m σ H => m = n - i ∧ i ≤ n ∧ (σ = σ0 ∨ ∃ v, σ = σ0.set 0 v) ∧ ∃ ys, H D = some (.lst ys) ∧ Pv i ys H, ⟨n, by simp, Nat.zero_le _, .inl rfl, [], upd_same, h0⟩, ?_⟩
  rintro i m σ H ⟨rfl, hi, hσ, ys, hD, p⟩
  by_cases hlt : i < n
  · refine .inr ⟨hlt, CN σ0 D Pv (i + 1), fun σ' H' ⟨a1, a2⟩ => ⟨n - (i + 1), by omega, rfl, hlt, .inr a1, a2⟩, fun x H' y => ?_⟩
    obtain ⟨e, y⟩ := y
    subst e y
    have eσ : σ.set 0 (some (.int (lo + i))) = σ0.set 0 (some (.int (lo + i))) := by
      rcases hσ with rfl | ⟨v, rfl⟩
      · rfl
      · rw [List.set_set]
    show tt (σ.set 0 (some (.int (lo + i)))) _ _
    rw [eσ]
    exact hs i ys _ hlt p hD
  · have e : i = n := by omega
    subst e
    exact .inl ⟨Nat.le_refl _, hd ys H p hD⟩

theorem yes_mk {σ : St} {H : Hp} {A B : Hp → Prop} (h : A H) : tYes σ H (fun b H4 => if b = true then A H4 else B H4) := by
  show (if true = true then A H else B H)
  rw [if_pos rfl]; exact h

/-! ### all, any, isinstance -/
section
variable {X : Cx}
theorem range_all : ∀ (bs : List Bool), (List.range bs.length).all (fun i => (bs[i]?).getD true) = bs.all id := by
  intro bs
  rw [Bool.eq_iff_iff, List.all_eq_true, List.all_eq_true]
  constructor
  · intro h b hb
    obtain ⟨i, hi, e⟩ := List.mem_iff_getElem.mp hb
    have := h i (List.mem_range.mpr hi)
    rw [List.getElem?_eq_getElem hi, e] at this
    exact this
  · intro h i hi
    have hi := List.mem_range.mp hi
    rw [List.getElem?_eq_getElem hi]
    exact h _ (List.getElem_mem hi)
theorem range_any : ∀ (bs : List Bool), (List.range bs.length).any (fun i => (bs[i]?).getD false) = bs.any id := by
  intro bs
  rw [Bool.eq_iff_iff, List.any_eq_true, List.any_eq_true]
  constructor
  · rintro ⟨i, hi, e⟩
    have hi := List.mem_range.mp hi
    rw [List.getElem?_eq_getElem hi] at e
    exact ⟨_, List.getElem_mem hi, e⟩
  · rintro ⟨b, hb, e⟩
    obtain ⟨i, hi, e2⟩ := List.mem_iff_getElem.mp hb
    refine ⟨i, List.mem_range.mpr hi, ?_⟩
    rw [List.getElem?_eq_getElem hi, e2]
    exact e
theorem vals_bl {bs : List Bool} {its : List Value} (r : Vals (bs.map V.bl) its) {i : Nat} {v : Value} (h : its[i]? = some v) : ∃ b, bs[i]? = some b ∧ v = .bool b := by
  have hl := r.length
  rw [List.length_map] at hl
  have hi : i < bs.length := by
    have := (List.getElem?_eq_some_iff.mp h).1
    omega
  have e : (bs.map V.bl)[i]? = some (.bl bs[i]) := by rw [List.getElem?_map, List.getElem?_eq_getElem hi]; rfl
  obtain ⟨u, h1, h2⟩ := r.get e
  rw [h] at h1
  have e2 : v = u := Option.some.inj h1
  subst e2
  exact ⟨bs[i], List.getElem?_eq_getElem hi, h2⟩
theorem call_all (hc : X.calm = true) : CallR X (.builtin "all") (fun xs H Q => ∃ (p : Addr) (bs : List Bool), xs = [.ref p] ∧ SqL X.K H p (bs.map V.bl) ∧ Q (.bl (bs.all id)) H) := by
  intro pins s σ H xs us Q I r h
  obtain ⟨p, bs, rfl, hq, q⟩ := h
  obtain ⟨u, rfl, rx⟩ := vals1 r
  cases rx
  obtain ⟨its, rv, pl, hz⟩ := I.list hq
  have hl := pl.isList
  have hlt : p < s.heap.objs.size := by obtain ⟨_, e, _⟩ := hl; exact Heap.lt_size e
  have hlen := rv.length
  rw [List.length_map] at hlen
  refine call_all_walk (wpAny_pyIter_list hl ?_)
  refine ⟨s.heap.objs.size, _, _, _, _, _, fun i => (bs[i]?).getD true, rfl, Walks.list (A := X.A.in1) (show X.A.handled = none from I.ok.hd hc) s.heap.objs.size p (Nat.ne_of_lt hlt) its.toArray, ⟨⟨_, Heap.get?_push_size _ rfl, rfl, rfl⟩, hl.push _⟩, ?_, ?_⟩
  · intro i v s' Q' E' hP hQ
    have hP' : its[i]? = some v := by simpa using hP
    obtain ⟨b, e, rfl⟩ := vals_bl rv hP'
    dsimp only at hQ
    rw [e] at hQ
    exact wpAny_truthy_bool hQ
  · intro h' tk hk
    have I1 : Inv X pins σ H { s with heap := s.heap.push { cls := .type "list_iterator", data := .fields #[.ref p, .int 0 0] } } := I.kept (t' := s.toks) fun b o e => Heap.get?_push_of_some _ e
    have fo := I.fpOk (b := s.heap.objs.size) (Nat.le_refl _) (I.hok.fresh (Nat.le_refl _))
    obtain ⟨f0, f1, f2, f3, f4, f5⟩ := fo
    refine ⟨.bl (bs.all id), H, I1.turned (t' := tk) (it := s.heap.objs.size) (fun b o hb e => hk b o (by simpa using hb) e) f0 f1 f3 f4 f5, ?_, q⟩
    show Value.bool _ = Value.bool _
    rw [List.size_toArray, ← hlen, range_all]
theorem call_any (hc : X.calm = true) : CallR X (.builtin "any") (fun xs H Q => ∃ (p : Addr) (bs : List Bool), xs = [.ref p] ∧ SqL X.K H p (bs.map V.bl) ∧ Q (.bl (bs.any id)) H) := by
  intro pins s σ H xs us Q I r h
  obtain ⟨p, bs, rfl, hq, q⟩ := h
  obtain ⟨u, rfl, rx⟩ := vals1 r
  cases rx
  obtain ⟨its, rv, pl, hz⟩ := I.list hq
  have hl := pl.isList
  have hlt : p < s.heap.objs.size := by obtain ⟨_, e, _⟩ := hl; exact Heap.lt_size e
  have hlen := rv.length
  rw [List.length_map] at hlen
  refine call_any_walk (wpAny_pyIter_list hl ?_)
  refine ⟨s.heap.objs.size, _, _, _, _, _, fun i => (bs[i]?).getD false, rfl, Walks.list (A := X.A.in1) (show X.A.handled = none from I.ok.hd hc) s.heap.objs.size p (Nat.ne_of_lt hlt) its.toArray, ⟨⟨_, Heap.get?_push_size _ rfl, rfl, rfl⟩, hl.push _⟩, ?_, ?_⟩
  · intro i v s' Q' E' hP hQ
    have hP' : its[i]? = some v := by simpa using hP
    obtain ⟨b, e, rfl⟩ := vals_bl rv hP'
    dsimp only at hQ
    rw [e] at hQ
    exact wpAny_truthy_bool hQ
  · intro h' tk hk
    have I1 : Inv X pins σ H { s with heap := s.heap.push { cls := .type "list_iterator", data := .fields #[.ref p, .int 0 0] } } := I.kept (t' := s.toks) fun b o e => Heap.get?_push_of_some _ e
    have fo := I.fpOk (b := s.heap.objs.size) (Nat.le_refl _) (I.hok.fresh (Nat.le_refl _))
    obtain ⟨f0, f1, f2, f3, f4, f5⟩ := fo
    refine ⟨.bl (bs.any id), H, I1.turned (t' := tk) (it := s.heap.objs.size) (fun b o hb e => hk b o (by simpa using hb) e) f0 f1 f3 f4 f5, ?_, q⟩
    show Value.bool _ = Value.bool _
    rw [List.size_toArray, ← hlen, range_any]
/-- isinstance(x, T), T a built-in type by name -/
def rIsi (K : PySem.W.Frag) : List V → Hp → VK → Prop := fun xs H Q => ∃ x t n b, xs = [x, .ty n] ∧ TyOf K H x t ∧ PySem.W.kitOne K t (.type n) = some b ∧ Q (.bl b) H
theorem call_isinst : CallR X (.builtin "isinstance") (rIsi X.K) := by
  intro pins s σ H xs us Q I r h
  obtain ⟨x, t, n, b, rfl, ty, e, q⟩ := h
  obtain ⟨u, c, rfl, rx, rc⟩ := vals2 r
  obtain rfl : c = Value.type n := rc
  exact isinst_ok I rx ty e fun tk => ⟨.bl b, H, I.tok tk, rfl, q⟩
end

/-! ### the rules that speak of the written part, by its name -/
section
variable {X : Cx} {a b o e l : Expr} {es : List Expr} {ta tl : TE} {t : TA} {pos apos cpos : Pos} {f : Str}
theorem ix_tupK (K : PySem.W.Frag) (h : X.K = K := by rfl) : IxR X (rIxT K) := by subst h; exact ix_tup
theorem ix_listK (K : PySem.W.Frag) (h : X.K = K := by rfl) : IxR X (rIxL K) := by subst h; exact ix_list
theorem call_isinstK (K : PySem.W.Frag) (h : X.K = K := by rfl) : CallR X (.builtin "isinstance") (rIsi K) := by subst h; exact call_isinst
def rLen (K : PySem.W.Frag) : List V → Hp → VK → Prop := fun xs H Q => ∃ p ys, xs = [.ref p] ∧ (SqL K H p ys ∨ SqT K H p ys) ∧ Q (.int ys.length) H
theorem call_lenK (K : PySem.W.Frag) (h : X.K = K := by rfl) : CallR X (.builtin "len") (rLen K) := by subst h; exact call_len_seq
def rList (K : PySem.W.Frag) : List V → Hp → VK → Prop := fun xs H Q => ∃ p ys, xs = [.ref p] ∧ (SqL K H p ys ∨ SqT K H p ys) ∧ ∀ l, H l = none → Q (.ref l) (upd H l (.lst ys))
theorem call_listK (K : PySem.W.Frag) (h : X.K = K := by rfl) : CallR X (.type "list") (rList K) := by subst h; exact call_list_of
def rTuple (K : PySem.W.Frag) : List V → Hp → VK → Prop := fun xs H Q => ∃ p ys, xs = [.ref p] ∧ ((SqL K H p ys ∧ ∀ l, H l = none → Q (.ref l) (upd H l (.tup ys))) ∨ (SqT K H p ys ∧ Q (.ref p) H))
theorem call_tupleK (K : PySem.W.Frag) (h : X.K = K := by rfl) : CallR X (.type "tuple") (rTuple K) := by subst h; exact call_tuple_of
def rAll (K : PySem.W.Frag) : List V → Hp → VK → Prop := fun xs H Q => ∃ (p : Addr) (bs : List Bool), xs = [.ref p] ∧ SqL K H p (bs.map V.bl) ∧ Q (.bl (bs.all id)) H
theorem call_allK (K : PySem.W.Frag) (hc : X.calm = true) (h : X.K = K := by rfl) : CallR X (.builtin "all") (rAll K) := by subst h; exact call_all hc
def rAny (K : PySem.W.Frag) : List V → Hp → VK → Prop := fun xs H Q => ∃ (p : Addr) (bs : List Bool), xs = [.ref p] ∧ SqL K H p (bs.map V.bl) ∧ Q (.bl (bs.any id)) H
theorem call_anyK (K : PySem.W.Frag) (hc : X.calm = true) (h : X.K = K := by rfl) : CallR X (.builtin "any") (rAny K) := by subst h; exact call_any hc
theorem pi_listK (K : PySem.W.Frag) {tg : Expr} (hl : PE X l tl) (h : X.K = K := by rfl) : PI X tg l (iList K tl) := by subst h; exact pi_list hl
theorem pg_tupK (K : PySem.W.Frag) {ts : List Expr} {k : Nat} {t : TGs} {n : Nat} (hc : X.calm = true) (hg : PGs X ts t) (h : X.K = K := by rfl)
    (hn : (assignEach ts X.env).length = n := by rfl) (hst : (assignEach ts X.env).findIdx? (·.1) = none := by rfl) : PG X (.Tuple ts k pos) (gTup K n t) := by subst h; exact pg_tup hc hg hn hst
theorem pe_fldK (K : PySem.W.Frag) (he : PE X e ta) (h : X.K = K := by rfl) (hb : attributeBase e f X.env (eval e X.env) = eval e X.env := by rfl) : PE X (.Attribute e f pos) (tFld K ta f) := by subst h; exact pe_fld he hb
theorem ps_fldK (K : PySem.W.Frag) {value : Expr} {tv : TE} {pos' : Pos} (ha : PE X o ta) (hv : PE X value tv) (h : X.K = K := by rfl) (hs : swapsWith value (some (.Attribute o f pos')) pos.line X.env = pure false := by rfl) : PS X (.Assign [.Attribute o f pos'] value pos) (sFld K ta tv f) := by subst h; exact ps_fld ha hv hs
theorem pe_appendK (K : PySem.W.Frag) {to : TE} (ho : PE X o to) (ha : PA X [e] t) (h : X.K = K := by rfl) (hbase : attributeBase o "append" X.env (eval o X.env) = eval o X.env := by rfl)
    (hfew : ((backTo cpos (starEach [e] X.env)).all (fun x => !x.1) && (backToKw cpos (keywordEach [] X.env)).all (fun x => x.1.isSome)
      && decide ([e].length + ([] : List Keyword).length + (if ([] : List Keyword).isEmpty then 0 else 1) < 30)) = true := by rfl)
    (hline : (apos.endLine == cpos.line) = true := by rfl) (hs : starEach [e] X.env = (false, eval e X.env) :: starEach [] X.env := by rfl) (hplain : (backTo cpos (starEach [] X.env)).any (·.1) = false := by rfl) :
    PE X (.Call (.Attribute o "append" apos) [e] [] cpos) (tBM K "list" rAppend to t) := by subst h; exact pe_bm PySem.F.plainAttrs_list PySem.F.slot_list_append PySem.F.type_list_append mt_append ho ha hbase hfew hline hs hplain
theorem pt_truthK (K : PySem.W.Frag) (ha : PE X a ta) (h : X.K = K := by rfl) (he : ∀ whole, isTrue a X.env whole = (do let v ← whole; standAt a.pos; holding [v] (truthy v)) := by intro _; rfl) :
    PT X a (fun σ H Q => ta σ H fun x H' => ∃ k, TruV K x H' k ∧ Q k H') := by subst h; exact pt_truth ha he
end

/-! ### data in the heap, == and != at any depth -/
mutual
inductive Dt (H : Hp) : V → PyData → Prop
  | non : Dt H .non .none
  | bl (b : Bool) : Dt H (.bl b) (.bool b)
  | int (i : Int) : Dt H (.int i) (.int i)
  | str (x : Str) : Dt H (.str x) (.str x)
  | lst {a : Addr} {xs : List V} {ds : List PyData} : H a = some (.lst xs) → Dts H xs ds → Dt H (.ref a) (.list ds)
  | tup {a : Addr} {xs : List V} {ds : List PyData} : H a = some (.tup xs) → Dts H xs ds → Dt H (.ref a) (.tuple ds)
inductive Dts (H : Hp) : List V → List PyData → Prop
  | nil : Dts H [] []
  | cons {x : V} {xs : List V} {d : PyData} {ds : List PyData} : Dt H x d → Dts H xs ds → Dts H (x :: xs) (d :: ds)
end
mutual
theorem Dt.same {H H' : Hp} (e : Same H H') : ∀ {v : V} {d : PyData}, Dt H v d → Dt H' v d
  | _, _, .non => .non
  | _, _, .bl b => .bl b
  | _, _, .int i => .int i
  | _, _, .str x => .str x
  | _, _, .lst h ds => .lst (e _ _ h) (Dts.same e ds)
  | _, _, .tup h ds => .tup (e _ _ h) (Dts.same e ds)
theorem Dts.same {H H' : Hp} (e : Same H H') : ∀ {vs : List V} {ds : List PyData}, Dts H vs ds → Dts H' vs ds
  | _, _, .nil => .nil
  | _, _, .cons h t => .cons (Dt.same e h) (Dts.same e t)
end
mutual
theorem Dt.reads {P : Program} {w : World} {H : Hp} {h : Heap} (ok : HOk P w H h) : ∀ {v : V} {d : PyData} {u : Value}, Dt H v d → RelV v u → ∃ as, Reads h u d as
  | _, _, u, .non, r => by cases (show u = Value.none from r); exact ⟨_, .none⟩
  | _, _, u, .bl b, r => by cases (show u = Value.bool b from r); exact ⟨_, .bool b⟩
  | _, _, u, .int i, r => by obtain ⟨t, rfl⟩ := (show ∃ t, u = Value.int i t from r); exact ⟨_, .int i t⟩
  | _, _, u, .str x, r => by obtain ⟨t, rfl⟩ := (show ∃ t, u = Value.str x t from r); exact ⟨_, .str x t⟩
  | _, _, u, .lst (a := a) (xs := xs) e ds, r => by
    cases (show u = Value.ref a from r)
    obtain ⟨_, its, n, rv, e1⟩ := (show ObjOk P w H h a (.lst xs) from ok a _ e)
    obtain ⟨as, ra⟩ := Dts.reads ok ds rv
    exact ⟨_, .list e1 rfl rfl (by simpa using ra)⟩
  | _, _, u, .tup (a := a) (xs := xs) e ds, r => by
    cases (show u = Value.ref a from r)
    obtain ⟨_, its, rv, ob, e1, hc, n, hd⟩ := (show ObjOk P w H h a (.tup xs) from ok a _ e)
    obtain ⟨as, ra⟩ := Dts.reads ok ds rv
    exact ⟨_, .tuple e1 hc hd (by simpa using ra)⟩
theorem Dts.reads {P : Program} {w : World} {H : Hp} {h : Heap} (ok : HOk P w H h) : ∀ {vs : List V} {ds : List PyData} {us : List Value}, Dts H vs ds → Vals vs us → ∃ as, ReadsAll h us ds as
  | _, _, us, .nil, r => by cases r; exact ⟨_, .nil⟩
  | _, _, us, .cons hd tl, r => by
    cases r with
    | cons r1 r2 =>
      obtain ⟨as, ra⟩ := Dt.reads ok hd r1
      obtain ⟨bs, rb⟩ := Dts.reads ok tl r2
      exact ⟨_, .cons ra rb⟩
end
def rEqD (neg : Bool) : R2 := fun x y H Q => ∃ da db, Dt H x da ∧ Dt H y db ∧ da.canLay0 = true ∧ db.canLay0 = true ∧ da.depth ≤ 60 ∧ Q (.bl (if neg = true then !PyData.eqv da db else PyData.eqv da db)) H
section
variable {X : Cx}
theorem op_neD (hu : X.A.units + 64 < cLine) : OpR X (compareOp .NotEq) (rEqD true) := by
  intro pins s σ H x y v u Q I rx ry h
  obtain ⟨da, db, d1, d2, c1, c2, hd, q⟩ := h
  obtain ⟨as, ra⟩ := d1.reads I.hok rx
  obtain ⟨bs, rb⟩ := d2.reads I.hok ry
  exact SeqAt.compareNe_reads ra rb c1 c2 (by have : min da.depth db.depth ≤ da.depth := Nat.min_le_left _ _; omega) ⟨.bl _, H, I, rfl, q⟩
end
end L2

namespace L2
open PySem PySem.Spec PyProof.Rows

/-! ### enumerate, zip: each turn a new pair -/
/-- the records at ch turn, a tuple is laid -/
theorem Inv.yields {X : Cx} {pins : List (Addr × Obj)} {σ : St} {H : Hp} {s : Shared} {h' : Heap} {ch : List Addr} {T : Addr} {xs : List V} {t' : Nat} (I : Inv X pins σ H s) (hch : ∀ b ∈ ch, FpOk X pins H b)
    (kp : ∀ b o, b ∉ ch → s.heap.get? b = some o → h'.get? b = some o) (hT : s.heap.objs.size ≤ T) (hz : xs.length ≤ sizeLine) (new : ∃ its : List Value, Vals xs its ∧ IsTup h' T its.toArray) (hrec : ∀ b ∈ ch, ∃ o, h'.get? b = some o) :
    Inv X pins σ (upd H T (.tup xs)) { s with heap := h', toks := t' } := by
  have hf : H T = none := I.hok.fresh hT
  have neT : ∀ b o, s.heap.get? b = some o → b ≠ T := fun b o e => Nat.ne_of_lt (Nat.lt_of_lt_of_le (Heap.lt_size e) hT)
  have nch : ∀ b u, H b = some u → b ∉ ch := fun b u e z => by rw [(hch b z).1] at e; cases e
  refine I.step (g' := s.gens) (d' := s.drawn) (ch := ch) (fun b hb => ?_) (fun b o _ _ hc e _ => kp b o hc e) (fun b o _ _ hc e _ => ⟨o.slots, kp b o hc e⟩) (fun b o hc e n => by rw [upd_ne (neT b o e)]; exact n)
    (fun b o hc e => ⟨o, kp b o hc e⟩) (fun b ys e => by rw [upd_ne (ne_of_none e hf)]; exact e) (fun b o u e => by rw [upd_ne (ne_of_none e hf)]; exact e) (fun b ps e => ⟨#[], by rw [upd_ne (ne_of_none e hf), e]; simp⟩) (fun m hm => ?_) (fun b u e => ?_) I.bare
  · obtain ⟨_, f1, _, f3, f4, f5⟩ := hch b hb
    exact ⟨f3, f1, f4, f5⟩
  · obtain ⟨o, es, ep, ho, r⟩ := hm
    exact ⟨o, es, ep, kp _ o (fun z => (hch _ z).2.1 rfl) ho, r⟩
  · by_cases hb : b = T
    · subst hb
      rw [upd_same] at e
      cases e
      obtain ⟨its, rv, p⟩ := new
      exact ⟨hz, its, rv, p⟩
    · rw [upd_ne hb] at e
      refine (I.hok b u e).stay (fun c v hc q => kp c v ?_ q) (fun c q => by rw [upd_ne (ne_of_none q hf)]; exact q) fun c ys q => by rw [upd_ne (ne_of_none q hf)]; exact q
      rcases hc with rfl | hc
      · exact nch c u e
      · exact nch c _ hc
/-- enumerate(list) -/
def Ite (K : PySem.W.Frag) (a : Addr) : It :=
  ⟨fun i H => ∃ xs x, SqL K H a xs ∧ xs[i]? = some x, fun i H x H' => ∃ p, H p = none ∧ x = .ref p ∧ ∀ xs v, SqL K H a xs → xs[i]? = some v → H' = upd H p (.tup [.int (i : Nat), v]), fun i H => ∃ xs, SqL K H a xs ∧ xs.length ≤ i⟩
theorem turn_enum {P : Program} {w : World} {K : PySem.W.Frag} {elts : List Expr} {k0 : Nat} {pos : Pos} (a e it : Addr) (hne : e ≠ it) :
    Turn P w K (.Tuple elts k0 pos) (Ite K a) [e, it] e (fun i h => (∃ old, IsEnum h e it i old) ∧ h.IsListIter it a i) where
  mem := by simp
  obj := fun i h st b hb => by
    obtain ⟨⟨old, he⟩, o, ho, c, d⟩ := st
    rcases List.mem_cons.mp hb with rfl | hb
    · exact ⟨_, he, fun v z => by
        have z' : Data.fields _ = Data.cell v := z
        cases z'⟩
    · have e2 : b = it := by simpa using hb
      subst e2
      exact ⟨o, ho, fun v z => by rw [d] at z; cases z⟩
  keep := fun i h h' st k => ⟨by obtain ⟨old, he⟩ := st.1; exact ⟨old, k e (by simp) _ he⟩, st.2.at fun o ho => k it (by simp) o ho⟩
  item := by
    intro X hP hw hK hc i pins s σ H E I hf st hg
    subst hP hw hK
    obtain ⟨xs, x, hq, hx⟩ := hg
    obtain ⟨its, rv, p, hz⟩ := I.list hq
    obtain ⟨u, hu, ru⟩ := rv.get hx
    obtain ⟨⟨old, he⟩, hit⟩ := st
    refine wpAny_pyNext_enum_item he hit p.isList (x := u) (by simpa using hu) hne fun h' ho' hit' hT' hsz' hk' => ?_
    have I1 : Inv X pins σ (upd H s.heap.objs.size (.tup [.int (i : Nat), x])) { s with heap := h', toks := s.toks + 1 } :=
      I.yields (ch := [e, it]) hf (fun b o hb q => hk' b o (fun z => hb (by simp [z])) (fun z => hb (by simp [z])) q) (Nat.le_refl _) (by show 2 ≤ sizeLine; decide)
        ⟨[.int (i : Nat) s.toks, u], .cons ⟨_, rfl⟩ (.cons ru .nil), ⟨_, hT', rfl, _, rfl⟩⟩ (fun b hb => by
          rcases List.mem_cons.mp hb with rfl | hb
          · exact ⟨_, ho'⟩
          · have e2 : b = it := by simpa using hb
            subst e2
            obtain ⟨o, q, _⟩ := hit'
            exact ⟨o, q⟩)
    refine ⟨_, rfl, wpAny_letOwnedTupleGo_enum (s := { s with heap := h', toks := s.toks + 1 }) ho' fun h'' he'' hs'' => ?_⟩
    have fr : ∀ b ∈ [e, it], (upd H s.heap.objs.size (.tup [.int (i : Nat), x])) b = none := fun b hb => by
      have hlt : b < s.heap.objs.size := by
        rcases List.mem_cons.mp hb with rfl | hb
        · exact Heap.lt_size he
        · have e2 : b = it := by simpa using hb
          subst e2
          obtain ⟨o, q, _⟩ := hit
          exact Heap.lt_size q
      rw [upd_ne (Nat.ne_of_lt hlt)]; exact (hf b hb).1
    obtain ⟨f0, f1, f2, f3, f4, f5⟩ := hf e (by simp)
    have I2 := I1.turned (t' := s.toks + 1) (it := e) (h' := h'') (fun b o hb q => (hs''.2 b hb).trans q) (fr e (by simp)) f1 f3 f4 f5
    refine ⟨.ref s.heap.objs.size, _, I2, rfl, ⟨s.heap.objs.size, I.hok.fresh (Nat.le_refl _), rfl, fun ys v hy hv => ?_⟩, ⟨⟨_, by simpa using he''⟩, hit'.at fun o q => (hs''.2 it (Ne.symm hne)).trans q⟩, fr⟩
    have := I.list_inj hy hq
    subst this
    rw [hx] at hv
    cases hv
    rfl
  done := by
    intro X hP hw hK hc i pins s σ H E I hf st hg
    subst hP hw hK
    obtain ⟨xs, hq, hx⟩ := hg
    obtain ⟨its, rv, p, hz⟩ := I.list hq
    obtain ⟨⟨old, he⟩, hit⟩ := st
    obtain ⟨f0, f1, f2, f3, f4, f5⟩ := hf it (by simp)
    have hl := rv.length
    exact wpAny_pyNext_enum_end (I.ok.hd hc) he hit p.isList (by simp; omega) fun h' eb => ⟨rfl, I.turned (t' := s.toks) (fun b o hb q => eb b o hb q) f0 f1 f3 f4 f5⟩
  self := fun _ _ _ _ _ st h => by obtain ⟨old, he⟩ := st.1; exact wpAny_pyIter_enum he h
def iEnum (K : PySem.W.Frag) (tl : TA) : TI := fun σ H R => tl σ H fun vs H1 => ∃ a xs, vs = [.ref a] ∧ H1 a = some (.lst xs) ∧ R (Ite K a) H1
section
variable {X : Cx}
theorem pi_enumK (K : PySem.W.Frag) {elts : List Expr} {k0 : Nat} {tpos : Pos} {l : Expr} {tl : TA} {p pos : Pos} (hg : Gl X "enumerate") (hm : X.mg "enumerate" = none) (hb : bootBuiltins "enumerate" = some (.type "enumerate")) (ha : PA X [l] tl) (hK : X.K = K := by rfl)
    (hs : starEach [l] X.env = [(false, eval l X.env)] := by rfl) : PI X (.Tuple elts k0 tpos) (.Call (.Name "enumerate" p) [l] [] pos) (iEnum K tl) := by
  subst hK
  intro pins s σ H R I h
  refine Call_ (ld_blt I hg hm hb (PyProof.Rows.callWith_type1 (thn (ha pos pins s σ H _ I h) fun us s1 ⟨vs, H1, I1, r1, q1⟩ => ?_) hs rfl))
  obtain ⟨a, xs, rfl, hq, q⟩ := q1
  obtain ⟨u, rfl, ru⟩ := vals1 r1
  cases ru
  obtain ⟨z, its, n, rv, e⟩ := (show ObjOk X.prog X.w H1 s1.heap a (.lst xs) from I1.hok a _ hq)
  refine call_enumerate_1 e fun h' he hit hsz hk => ?_
  have I2 : Inv X pins σ H1 { s1 with heap := h' } := I1.kept (t' := s1.toks) hk
  refine wpAny_pyIter_enum he ?_
  refine ⟨s1.heap.objs.size + 1, [s1.heap.objs.size + 1, s1.heap.objs.size], _, _, H1, rfl, I2, turn_enum a _ _ (Nat.ne_of_gt (Nat.lt_succ_self _)), ⟨⟨_, he⟩, hit⟩, fun b hb => ?_, q⟩
  have hle : s1.heap.objs.size ≤ b := by
    rcases List.mem_cons.mp hb with rfl | hb
    · exact Nat.le_succ _
    · have e2 : b = s1.heap.objs.size := by simpa using hb
      exact Nat.le_of_eq e2.symm
  exact I1.fpOk hle (I1.hok.fresh hle)
end
/-- zip(list, list) -/
def Itz (K : PySem.W.Frag) (a b : Addr) : It :=
  ⟨fun i H => ∃ xs ys x y, SqL K H a xs ∧ SqL K H b ys ∧ xs[i]? = some x ∧ ys[i]? = some y, fun i H x H' => ∃ p, H p = none ∧ x = .ref p ∧ ∀ xs ys v w, SqL K H a xs → SqL K H b ys → xs[i]? = some v → ys[i]? = some w → H' = upd H p (.tup [v, w]),
    fun i H => ∃ xs ys, SqL K H a xs ∧ SqL K H b ys ∧ (xs.length ≤ i ∨ ys.length ≤ i)⟩
theorem turn_zip {P : Program} {w : World} {K : PySem.W.Frag} {elts : List Expr} {k0 : Nat} {pos : Pos} (a b z TI TO i1 i2 : Addr) (D : ZipApart z TI TO i1 i2 a b) :
    Turn P w K (.Tuple elts k0 pos) (Itz K a b) [z, TO, i1, i2, TI] z (fun i h => IsZip h z TI TO .none ∧ IsPair h TI (.ref i1) (.ref i2) ∧ (∃ u v, IsPair h TO u v) ∧ h.IsListIter i1 a i ∧ h.IsListIter i2 b i) where
  mem := by simp
  obj := fun i h st c hc => by
    obtain ⟨hz, hTI, ⟨u, v, hTO⟩, ⟨o1, q1, _, d1⟩, o2, q2, _, d2⟩ := st
    simp only [List.mem_cons, List.not_mem_nil, or_false] at hc
    rcases hc with rfl | rfl | rfl | rfl | rfl
    · exact ⟨_, hz, fun v z => by
        have z' : Data.fields _ = Data.cell v := z
        cases z'⟩
    · exact ⟨_, hTO, fun v z => by
        have z' : Data.seq _ _ = Data.cell v := z
        cases z'⟩
    · exact ⟨o1, q1, fun v z => by rw [d1] at z; cases z⟩
    · exact ⟨o2, q2, fun v z => by rw [d2] at z; cases z⟩
    · exact ⟨_, hTI, fun v z => by
        have z' : Data.seq _ _ = Data.cell v := z
        cases z'⟩
  keep := fun i h h' st k => by
    obtain ⟨hz, hTI, ⟨u, v, hTO⟩, h1, h2⟩ := st
    exact ⟨k z (by simp) _ hz, k TI (by simp) _ hTI, ⟨u, v, k TO (by simp) _ hTO⟩, h1.at fun o q => k i1 (by simp) o q, h2.at fun o q => k i2 (by simp) o q⟩
  item := by
    intro X hP hw hK hc i pins s σ H E I hf st hg
    subst hP hw hK
    obtain ⟨xs, ys, x, y, hq1, hq2, hx, hy⟩ := hg
    obtain ⟨its, rv, p, hz1⟩ := I.list hq1
    obtain ⟨its2, rv2, p2, hz2⟩ := I.list hq2
    obtain ⟨u, hu, ru⟩ := rv.get hx
    obtain ⟨u2, hu2, ru2⟩ := rv2.get hy
    obtain ⟨hz, hTI, ⟨t1, t2, hTO⟩, h1, h2⟩ := st
    refine wpAny_pyNext_zip_item D hz hTI hTO h1 h2 p.isList p2.isList (x := u) (y := u2) (by simpa using hu) (by simpa using hu2) fun h' hz' hTO' h1' h2' hT' hsz' hk' => ?_
    have lt : ∀ c ∈ [z, TO, i1, i2, TI], c < s.heap.objs.size := fun c hc => by
      obtain ⟨o1, q1, _⟩ := id h1
      obtain ⟨o2, q2, _⟩ := id h2
      simp only [List.mem_cons, List.not_mem_nil, or_false] at hc
      rcases hc with rfl | rfl | rfl | rfl | rfl
      · exact Heap.lt_size hz
      · exact Heap.lt_size hTO
      · exact Heap.lt_size q1
      · exact Heap.lt_size q2
      · exact Heap.lt_size hTI
    have I1 : Inv X pins σ (upd H s.heap.objs.size (.tup [x, y])) { s with heap := h', toks := s.toks } :=
      I.yields (ch := [z, TO, i1, i2]) (fun c hc => hf c (by simp only [List.mem_cons, List.not_mem_nil, or_false] at hc ⊢; rcases hc with h | h | h | h <;> simp [h])) (fun c o hc q => hk' c o (fun z => hc (by simp [z])) (fun z => hc (by simp [z])) (fun z => hc (by simp [z])) (fun z => hc (by simp [z])) q) (Nat.le_refl _) (by show 2 ≤ sizeLine; decide)
        ⟨[u, u2], .cons ru (.cons ru2 .nil), ⟨_, hT', rfl, _, rfl⟩⟩ (fun c hc => by
          obtain ⟨o1, q1, _⟩ := id h1'
          obtain ⟨o2, q2, _⟩ := id h2'
          simp only [List.mem_cons, List.not_mem_nil, or_false] at hc
          rcases hc with rfl | rfl | rfl | rfl
          · exact ⟨_, hz'⟩
          · exact ⟨_, hTO'⟩
          · exact ⟨_, q1⟩
          · exact ⟨_, q2⟩)
    refine ⟨_, rfl, wpAny_letOwnedTupleGo_zip (s := { s with heap := h', toks := s.toks }) hz' fun h'' hz'' hs'' => ?_⟩
    have fr : ∀ c ∈ [z, TO, i1, i2, TI], (upd H s.heap.objs.size (.tup [x, y])) c = none := fun c hc => by
      rw [upd_ne (Nat.ne_of_lt (lt c hc))]; exact (hf c hc).1
    obtain ⟨f0, f1, f2, f3, f4, f5⟩ := hf z (by simp)
    have I2 := I1.turned (t' := s.toks) (it := z) (h' := h'') (fun c o hc q => (hs''.2 c hc).trans q) (fr z (by simp)) f1 f3 f4 f5
    have hTI' : IsPair h' TI (.ref i1) (.ref i2) := hk' TI _ D.TIz D.TITO D.TIi1 D.TIi2 hTI
    refine ⟨.ref s.heap.objs.size, _, I2, rfl, ⟨s.heap.objs.size, I.hok.fresh (Nat.le_refl _), rfl, fun xs' ys' v w' hxs hys hv hw => ?_⟩,
      ⟨hz'', (hs''.2 TI D.TIz).trans hTI', ⟨_, _, (hs''.2 TO D.TOz).trans hTO'⟩, h1'.at fun o q => (hs''.2 i1 D.i1z).trans q, h2'.at fun o q => (hs''.2 i2 D.i2z).trans q⟩, fr⟩
    have e1 := I.list_inj hxs hq1
    have e2 := I.list_inj hys hq2
    subst e1; subst e2
    rw [hx] at hv; rw [hy] at hw
    cases hv; cases hw
    rfl
  done := by
    intro X hP hw hK hc i pins s σ H E I hf st hg
    subst hP hw hK
    obtain ⟨xs, ys, hq1, hq2, hend⟩ := hg
    obtain ⟨its, rv, p, hz1⟩ := I.list hq1
    obtain ⟨its2, rv2, p2, hz2⟩ := I.list hq2
    obtain ⟨hz, hTI, ⟨t1, t2, hTO⟩, h1, h2⟩ := st
    have hl := rv.length
    have hl2 := rv2.length
    refine wpAny_pyNext_zip_end (I.ok.hd hc) D hz hTI hTO h1 h2 p.isList p2.isList (by
      rcases hend with h | h
      · left; simp; omega
      · right; simp; omega) fun h' hk' => ⟨rfl, ?_⟩
    refine I.step (g' := s.gens) (d' := s.drawn) (t' := s.toks) (ch := [z, TO, i1, i2]) (fun c hc => ?_) (fun c o _ _ hc q _ => hk' c o (fun z => hc (by simp [z])) (fun z => hc (by simp [z])) (fun z => hc (by simp [z])) (fun z => hc (by simp [z])) q)
      (fun c o _ _ hc q _ => ⟨o.slots, hk' c o (fun z => hc (by simp [z])) (fun z => hc (by simp [z])) (fun z => hc (by simp [z])) (fun z => hc (by simp [z])) q⟩) (fun _ _ _ _ n => n)
      (fun c o hc q => ⟨o, hk' c o (fun z => hc (by simp [z])) (fun z => hc (by simp [z])) (fun z => hc (by simp [z])) (fun z => hc (by simp [z])) q⟩) (fun _ _ q => q) (fun _ _ _ q => q) (fun c ps q => ⟨#[], by rw [q]; simp⟩) (fun m hm => ?_) (fun c u q => ?_) I.bare
    · obtain ⟨_, f1, _, f3, f4, f5⟩ := hf c (by simp only [List.mem_cons, List.not_mem_nil, or_false] at hc ⊢; rcases hc with h | h | h | h <;> simp [h])
      exact ⟨f3, f1, f4, f5⟩
    · obtain ⟨o, es, ep, ho, r⟩ := hm
      have ne : ∀ c ∈ [z, TO, i1, i2, TI], X.env.locals ≠ c := fun c hc => Ne.symm (hf c hc).2.1
      exact ⟨o, es, ep, hk' _ o (ne z (by simp)) (ne TO (by simp)) (ne i1 (by simp)) (ne i2 (by simp)) ho, r⟩
    · have nn : ∀ d v, H d = some v → ∀ c ∈ [z, TO, i1, i2, TI], d ≠ c := fun d v e c hc w' => by rw [w', (hf c hc).1] at e; cases e
      have all : ∀ d v, H d = some v → ∀ o, s.heap.get? d = some o → h'.get? d = some o := fun d v e o q' => hk' d o (nn d v e z (by simp)) (nn d v e TO (by simp)) (nn d v e i1 (by simp)) (nn d v e i2 (by simp)) q'
      refine (I.hok c u q).stay (fun d v hd q' => ?_) (fun _ q => q) fun _ _ q => q
      rcases hd with rfl | hd
      · exact all d u q v q'
      · exact all d _ hd v q'
  self := fun _ _ _ _ _ st h => wpAny_pyIter_zip st.1 h
def iZip (K : PySem.W.Frag) (tl : TA) : TI := fun σ H R => tl σ H fun vs H1 => ∃ a b, vs = [.ref a, .ref b] ∧ (∃ xs, SqL K H1 a xs) ∧ (∃ ys, SqL K H1 b ys) ∧ R (Itz K a b) H1
section
variable {X : Cx}
theorem pi_zipK (K : PySem.W.Frag) {elts : List Expr} {k0 : Nat} {tpos : Pos} {l m : Expr} {tl : TA} {p pos : Pos} (hg : Gl X "zip") (hm : X.mg "zip" = none) (hb : bootBuiltins "zip" = some (.type "zip")) (ha : PA X [l, m] tl) (hK : X.K = K := by rfl)
    (hs : starEach [l, m] X.env = [(false, eval l X.env), (false, eval m X.env)] := by rfl) (hs2 : starEach [m] X.env = [(false, eval m X.env)] := by rfl) : PI X (.Tuple elts k0 tpos) (.Call (.Name "zip" p) [l, m] [] pos) (iZip K tl) := by
  subst hK
  intro pins s σ H R I h
  refine Call_ (ld_blt I hg hm hb (PyProof.Rows.callWith_type1 (thn (ha pos pins s σ H _ I h) fun us s1 ⟨vs, H1, I1, r1, q1⟩ => ?_) (by rw [hs, hs2]) (by rw [hs2]; rfl)))
  obtain ⟨a, b, rfl, ⟨xs, hq1⟩, ⟨ys, hq2⟩, q⟩ := q1
  obtain ⟨u, w', rfl, ru, rw'⟩ := vals2 r1
  cases ru; cases rw'
  obtain ⟨its, rv, p1, hz1⟩ := I1.list hq1
  obtain ⟨its2, rv2, p2, hz2⟩ := I1.list hq2
  have a1 : a < s1.heap.objs.size := by obtain ⟨_, e, _⟩ := p1.isList; exact Heap.lt_size e
  have a2 : b < s1.heap.objs.size := by obtain ⟨_, e, _⟩ := p2.isList; exact Heap.lt_size e
  refine call_zip_2 p1.isList p2.isList fun h' hz hTI hTO hi1 hi2 hsz hk => ?_
  have I2 : Inv X pins σ H1 { s1 with heap := h' } := I1.kept (t' := s1.toks) hk
  refine wpAny_pyIter_zip hz ?_
  refine ⟨s1.heap.objs.size + 4, [s1.heap.objs.size + 4, s1.heap.objs.size + 3, s1.heap.objs.size, s1.heap.objs.size + 1, s1.heap.objs.size + 2], _, _, H1, rfl, I2, turn_zip a b _ _ _ _ _ (zipApart_new a1 a2), ⟨hz, hTI, ⟨_, _, hTO⟩, hi1, hi2⟩, fun c hc => ?_, q⟩
  have hle : s1.heap.objs.size ≤ c := by
    simp only [List.mem_cons, List.not_mem_nil, or_false] at hc
    rcases hc with rfl | rfl | rfl | rfl | rfl
    · exact Nat.le_add_right _ 4
    · exact Nat.le_add_right _ 3
    · exact Nat.le_refl _
    · exact Nat.le_add_right _ 1
    · exact Nat.le_add_right _ 2
  exact I1.fpOk hle (I1.hok.fresh hle)
end
end L2

/-! ### sorted(set(a list of whole numbers)) -/
namespace SetQ
open PySem PySem.Spec PyProof.Rows
section
variable {prog : Program} {w : World} {A : Around} {E : Value → Shared → Prop} {s : Shared} {S J T : Addr} {es : Array (Int × Value)} {ep i : Nat} {t : SetTable} {ys : List (Int × Value)} {ks : List Int} {o : Obj} {first : Value}

end

end SetQ
namespace L2
open PySem PySem.Spec PyProof.Rows
section
variable {X : Cx}
end
end L2

namespace L2
open PySem PySem.Spec PyProof.Rows

/-! ### lists of pairs as tables -/
section
variable {κ : Type} [DecidableEq κ]
def valV (kvs : List (κ × V)) (k : κ) : Option V := (kvs.find? fun kv => decide (kv.1 = k)).map (·.2)
/-- in its place, or at the end -/
def putK (kvs : List (κ × V)) (k : κ) (v : V) : List (κ × V) :=
  if (kvs.any fun kv => decide (kv.1 = k)) = true then kvs.map (fun kv => if kv.1 = k then (kv.1, v) else kv) else kvs ++ [(k, v)]
def dropK (kvs : List (κ × V)) (k : κ) : List (κ × V) := kvs.filter fun kv => decide (kv.1 ≠ k)

theorem valV_pos {p : κ × V} {r : List (κ × V)} {k : κ} (e : p.1 = k) : valV (p :: r) k = some p.2 := by simp [valV, List.find?_cons, e]
theorem valV_neg {p : κ × V} {r : List (κ × V)} {k : κ} (e : ¬ p.1 = k) : valV (p :: r) k = valV r k := by simp [valV, List.find?_cons, e]
theorem valV_any (k : κ) : ∀ kvs : List (κ × V), (kvs.any fun kv => decide (kv.1 = k)) = (valV kvs k).isSome
  | [] => rfl
  | p :: r => by
    rw [List.any_cons]
    by_cases e : p.1 = k
    · simp only [valV_pos e, decide_eq_true e, Bool.true_or, Option.isSome_some]
    · rw [valV_neg e, decide_eq_false e, Bool.false_or]; exact valV_any k r
theorem valV_map (k j : κ) (y : V) : ∀ kvs : List (κ × V), valV (kvs.map fun kv => if kv.1 = k then (kv.1, y) else kv) j = (valV kvs j).map fun x => if j = k then y else x
  | [] => rfl
  | p :: r => by
    have ih := valV_map k j y r
    rw [List.map_cons]
    by_cases h : p.1 = k
    · rw [if_pos h]
      by_cases e : p.1 = j
      · rw [valV_pos (p := (p.1, y)) e, valV_pos e, Option.map_some, if_pos (e.symm.trans h)]
      · rw [valV_neg (p := (p.1, y)) e, valV_neg e, ih]
    · rw [if_neg h]
      by_cases e : p.1 = j
      · rw [valV_pos (p := p) e, valV_pos e, Option.map_some, if_neg (fun z => h (e.trans z))]
      · rw [valV_neg (p := p) e, valV_neg e, ih]
theorem valV_snoc (k j : κ) (y : V) : ∀ kvs : List (κ × V), valV kvs k = none → valV (kvs ++ [(k, y)]) j = if j = k then some y else valV kvs j
  | [], _ => by
    by_cases e : k = j
    · rw [if_pos e.symm]; exact valV_pos (p := (k, y)) e
    · rw [if_neg (fun z => e z.symm)]; exact valV_neg (p := (k, y)) e
  | p :: r, hn => by
    rw [List.cons_append]
    have hk : ¬ p.1 = k := fun z => by rw [valV_pos z] at hn; cases hn
    rw [valV_neg hk] at hn
    have ih := valV_snoc k j y r hn
    by_cases e : p.1 = j
    · rw [valV_pos e, valV_pos e, if_neg (fun z => hk (e.trans z))]
    · rw [valV_neg e, valV_neg e, ih]
theorem valV_put (kvs : List (κ × V)) (k j : κ) (y : V) : valV (putK kvs k y) j = if j = k then some y else valV kvs j := by
  unfold putK
  by_cases a : (kvs.any fun kv => decide (kv.1 = k)) = true
  · rw [if_pos a, valV_map]
    rw [valV_any] at a
    by_cases e : j = k
    · obtain ⟨x, hx⟩ := Option.isSome_iff_exists.mp a
      rw [if_pos e, e, hx, Option.map_some, if_pos rfl]
    · rw [if_neg e]
      cases valV kvs j with
      | none => rfl
      | some x => rw [Option.map_some, if_neg e]
  · rw [if_neg a]
    refine valV_snoc k j y kvs ?_
    rw [valV_any] at a
    cases q : valV kvs k with
    | none => rfl
    | some x => rw [q] at a; exact (a rfl).elim
theorem length_putK (kvs : List (κ × V)) (k : κ) (v : V) : (putK kvs k v).length ≤ kvs.length + 1 := by
  unfold putK
  split
  · rw [List.length_map]; omega
  · rw [List.length_append, List.length_cons, List.length_nil]; omega

theorem RelO.isSome_eq {o : Option V} {u : Option Value} (r : RelO o u) : o.isSome = u.isSome := by
  cases o with
  | none => cases u with
    | none => rfl
    | some _ => exact (show False from r).elim
  | some _ => cases u with
    | none => exact (show False from r).elim
    | some _ => rfl
theorem RelO.getD {o : Option V} {u : Option Value} {d : V} {d' : Value} (r : RelO o u) (rd : RelV d d') : RelV (o.getD d) (u.getD d') := by
  cases o with
  | none => cases u with
    | none => exact rd
    | some _ => exact (show False from r).elim
  | some _ => cases u with
    | none => exact (show False from r).elim
    | some _ => exact r

/-- raw tables of the same keys -/
theorem KV.val {kvs : List (κ × V)} {vs : List (κ × Value)} (r : KV kvs vs) (k : κ) : RelO (valV kvs k) (valueAt vs k) := by
  unfold KV at r
  induction r with
  | nil => exact True.intro
  | @cons p q ps qs h t ih =>
    obtain ⟨h1, h2⟩ := h
    by_cases e : p.1 = k
    · have e' : q.1 = k := h1.symm.trans e
      have b : valueAt (q :: qs) k = some q.2 := by simp [valueAt, List.find?_cons, e']
      rw [valV_pos e, b]; exact h2
    · have e' : ¬ q.1 = k := fun z => e (h1.trans z)
      have b : valueAt (q :: qs) k = valueAt qs k := by simp [valueAt, List.find?_cons, e']
      rw [valV_neg e, b]; exact ih
theorem KV.any {kvs : List (κ × V)} {vs : List (κ × Value)} (r : KV kvs vs) (k : κ) : (kvs.any fun kv => decide (kv.1 = k)) = vs.any fun kv => decide (kv.1 = k) := by
  unfold KV at r
  induction r with
  | nil => rfl
  | cons h t ih => rw [List.any_cons, List.any_cons, ih, h.1]
theorem KV.repl {kvs : List (κ × V)} {vs : List (κ × Value)} (r : KV kvs vs) (k : κ) {y : V} {u : Value} (ry : RelV y u) :
    KV (kvs.map fun kv => if kv.1 = k then (kv.1, y) else kv) (vs.map fun kv => if kv.1 = k then (kv.1, u) else kv) := by
  unfold KV at r ⊢
  induction r with
  | nil => exact .nil
  | @cons p q ps qs h t ih =>
    rw [List.map_cons, List.map_cons]
    refine .cons ?_ ih
    obtain ⟨h1, h2⟩ := h
    by_cases e : p.1 = k
    · rw [if_pos e, if_pos (h1.symm.trans e)]; exact ⟨h1, ry⟩
    · rw [if_neg e, if_neg (fun z => e (h1.trans z))]; exact ⟨h1, h2⟩
theorem KV.put {kvs : List (κ × V)} {vs : List (κ × Value)} (r : KV kvs vs) (k : κ) {y : V} {u : Value} (ry : RelV y u) : KV (putK kvs k y) (stored vs k u) := by
  unfold putK stored
  rw [r.any k]
  by_cases e : (vs.any fun kv => decide (kv.1 = k)) = true
  · rw [if_pos e, if_pos e]; exact r.repl k ry
  · rw [if_neg e, if_neg e]; exact Paired.snoc r ⟨rfl, ry⟩
theorem KV.drop {kvs : List (κ × V)} {vs : List (κ × Value)} (r : KV kvs vs) (k : κ) : KV (dropK kvs k) (without vs k) := by
  unfold KV at r ⊢
  unfold dropK without
  induction r with
  | nil => exact .nil
  | @cons p q ps qs h t ih =>
    obtain ⟨h1, h2⟩ := h
    rw [List.filter_cons, List.filter_cons]
    by_cases e : p.1 = k
    · have a : ¬ decide (p.1 ≠ k) = true := by simp [e]
      have b : ¬ decide (q.1 ≠ k) = true := by simp [h1.symm.trans e]
      rw [if_neg a, if_neg b]; exact ih
    · have e' : ¬ q.1 = k := fun z => e (h1.trans z)
      have a : decide (p.1 ≠ k) = true := by simp [e]
      have b : decide (q.1 ≠ k) = true := by simp [e']
      rw [if_pos a, if_pos b]; exact .cons ⟨h1, h2⟩ ih
theorem KV.keys {kvs : List (κ × V)} {vs : List (κ × Value)} (r : KV kvs vs) : kvs.map (·.1) = vs.map (·.1) := by
  unfold KV at r
  induction r with
  | nil => rfl
  | cons h t ih => rw [List.map_cons, List.map_cons, ih, h.1]
theorem KV.length {kvs : List (κ × V)} {vs : List (κ × Value)} (r : KV kvs vs) : kvs.length = vs.length := Paired.length r
end


/-! ### a tracked dict, its keys ints and texts or tuples of these -/
theorem kV_is {P : Program} {w : World} {k : Key} {u : Value} (r : RelV (kV k) u) : (mixKind P w).is k u = true := by
  cases k with
  | inl i => obtain ⟨t, e⟩ := (show ∃ t, u = Value.int i t from r); subst e; exact mixKind_int P w i t
  | inr x => obtain ⟨t, e⟩ := (show ∃ t, u = Value.str x t from r); subst e; exact mixKind_str P w x t
theorem items_are {P : Program} {w : World} : ∀ {ks : List Key} {us : List Value}, Vals (ks.map kV) us → ItemsAre (mixKind P w) ks us
  | [], _, r => by rw [List.map_nil] at r; cases r; exact .nil
  | k :: ks, _, r => by
    rw [List.map_cons] at r
    cases r with
    | cons h t => exact .cons (kV_is h) (items_are t)

/-- raw entries of a dict with tuple keys -/
abbrev KT (H : Hp) : List (List Key × V) → List (List Key × Addr × Value) → Prop := Paired fun p q => p.1 = q.1 ∧ H q.2.1 = some (.tup (p.1.map kV)) ∧ RelV p.2 q.2.2
theorem KT.val {H : Hp} {kvs : List (List Key × V)} {xs : List (List Key × Addr × Value)} (r : KT H kvs xs) (k : List Key) : RelO (valV kvs k) ((atKey xs k).map (·.2)) := by
  induction r with
  | nil => exact True.intro
  | @cons p q ps qs h t ih =>
    obtain ⟨h1, _, h2⟩ := h
    by_cases e : p.1 = k
    · have e' : q.1 = k := h1.symm.trans e
      have b : atKey (q :: qs) k = some q.2 := by simp [atKey, List.find?_cons, e']
      rw [valV_pos e, b]; exact h2
    · have e' : ¬ q.1 = k := fun z => e (h1.trans z)
      have b : atKey (q :: qs) k = atKey qs k := by simp [atKey, List.find?_cons, e']
      rw [valV_neg e, b]; exact ih
theorem KT.repl {H : Hp} {kvs : List (List Key × V)} {xs : List (List Key × Addr × Value)} (r : KT H kvs xs) (k : List Key) {y : V} {u : Value} (ry : RelV y u) :
    KT H (kvs.map fun kv => if kv.1 = k then (kv.1, y) else kv) (xs.map (putAt k u)) := by
  induction r with
  | nil => exact .nil
  | @cons p q ps qs h t ih =>
    rw [List.map_cons, List.map_cons]
    refine .cons ?_ ih
    obtain ⟨h1, h2, h3⟩ := h
    unfold putAt
    by_cases e : p.1 = k
    · rw [if_pos e, if_pos (h1.symm.trans e)]; exact ⟨h1, h2, ry⟩
    · rw [if_neg e, if_neg (fun z => e (h1.trans z))]; exact ⟨h1, h2, h3⟩
theorem KT.put {H : Hp} {kvs : List (List Key × V)} {xs : List (List Key × Addr × Value)} (r : KT H kvs xs) (k : List Key) {b : Addr} {y : V} {u : Value} (hb : H b = some (.tup (k.map kV))) (ry : RelV y u) :
    KT H (putK kvs k y) (storedH xs k b u) := by
  have e : (kvs.any fun kv => decide (kv.1 = k)) = (atKey xs k).isSome := by
    rw [valV_any, (r.val k).isSome_eq, Option.isSome_map]
  unfold putK storedH
  rw [e]
  by_cases q : (atKey xs k).isSome = true
  · rw [if_pos q, if_pos q]; exact r.repl k ry
  · rw [if_neg q, if_neg q]; exact Paired.snoc r ⟨rfl, hb, ry⟩
theorem KT.keeps {H H' : Hp} {kvs : List (List Key × V)} {xs : List (List Key × Addr × Value)} (r : KT H kvs xs) (ht : ∀ b ys, H b = some (.tup ys) → H' b = some (.tup ys)) : KT H' kvs xs :=
  Paired.mapP r fun _ _ z => ⟨z.1, ht _ _ z.2.1, z.2.2⟩

section
variable {P : Program} {w : World} {H : Hp} {h : Heap} {a : Addr}
theorem rd_of {u : HO} (ok : HOk P w H h) (e : Rd H a u) : ObjOk P w H h a u := e.ok ok
theorem dk_rd {kvs : List (Key × V)} (ok : HOk P w H h) (e : Rd H a (.dK kvs)) : kvs.length ≤ sizeLine ∧ (a == sysModules) = false ∧ ∃ vs, KV kvs vs ∧ h.DictOf (mixKind P w) a vs :=
  show ObjOk P w H h a (.dK kvs) from rd_of ok e
/-- a tracked tuple of ints and texts is a key -/
theorem key_of {ks : List Key} (ok : HOk P w H h) (e : H a = some (.tup (ks.map kV))) : (tupleKind (mixKind P w)).is h ks a := by
  obtain ⟨_, its, r, o, h1, h2, n, h3⟩ := (show ObjOk P w H h a (.tup (ks.map kV)) from ok a _ e)
  exact ⟨o, its.toArray, n, h1, h2, h3, by simpa using items_are r⟩
theorem dt_rd {kvs : List (List Key × V)} (ok : HOk P w H h) (e : Rd H a (.dT kvs)) : kvs.length ≤ sizeLine ∧ (a == sysModules) = false ∧
    ∃ xs, KT H kvs xs ∧ h.DictOfH (tupleKind (mixKind P w)) a xs := by
  obtain ⟨z, y, xs, r, o, es, ep, h1, h2, h3, h4, h5⟩ := (show ObjOk P w H h a (.dT kvs) from rd_of ok e)
  refine ⟨z, y, xs, r, o, es, ep, h1, h2, h3, h4, fun x hx => ?_, h5⟩
  have all : ∀ {l : List (List Key × V)} {m : List (List Key × Addr × Value)}, KT H l m → ∀ x ∈ m, (tupleKind (mixKind P w)).is h x.1 x.2.1 := by
    intro l m q
    induction q with
    | nil => intro x hx; exact nomatch hx
    | @cons p q ps qs hq t ih =>
      intro x hx
      rcases List.mem_cons.mp hx with e | hx
      · subst e
        exact key_of ok (by rw [← hq.1]; exact hq.2.1)
      · exact ih x hx
  exact all r x hx
theorem dt_of {kvs : List (List Key × V)} (ok : HOk P w H h) (e : H a = some (.dT kvs)) : kvs.length ≤ sizeLine ∧ (a == sysModules) = false ∧
    ∃ xs, KT H kvs xs ∧ h.DictOfH (tupleKind (mixKind P w)) a xs := dt_rd ok (.inl e)
end

/-- what the dict at a holds at the key y -/
def DGet (H : Hp) (a : Addr) (y : V) (r : Option V) : Prop :=
  (∃ kvs k, Rd H a (.dK kvs) ∧ y = kV k ∧ r = valV kvs k) ∨ ∃ kvs k b, Rd H a (.dT kvs) ∧ y = .ref b ∧ H b = some (.tup (k.map kV)) ∧ r = valV kvs k
/-- the heap behind a[y] = v -/
def DPut (H : Hp) (a : Addr) (y v : V) (H' : Hp) : Prop :=
  (∃ kvs k, H a = some (.dK kvs) ∧ y = kV k ∧ kvs.length < sizeLine ∧ H' = upd H a (.dK (putK kvs k v))) ∨
  ∃ kvs k b, H a = some (.dT kvs) ∧ y = .ref b ∧ H b = some (.tup (k.map kV)) ∧ kvs.length < sizeLine ∧ H' = upd H a (.dT (putK kvs k v))
theorem DGet.k {H : Hp} {a : Addr} {kvs : List (Key × V)} {k : Key} (e : H a = some (.dK kvs)) : DGet H a (kV k) (valV kvs k) := .inl ⟨kvs, k, .inl e, rfl, rfl⟩
theorem DGet.t {H : Hp} {a b : Addr} {kvs : List (List Key × V)} {k : List Key} (e : H a = some (.dT kvs)) (eb : H b = some (.tup (k.map kV))) : DGet H a (.ref b) (valV kvs k) := .inr ⟨kvs, k, b, .inl e, rfl, eb, rfl⟩
theorem DPut.k {H : Hp} {a : Addr} {kvs : List (Key × V)} {k : Key} {v : V} (e : H a = some (.dK kvs)) (hl : kvs.length < sizeLine) : DPut H a (kV k) v (upd H a (.dK (putK kvs k v))) := .inl ⟨kvs, k, e, rfl, hl, rfl⟩
theorem DPut.t {H : Hp} {a b : Addr} {kvs : List (List Key × V)} {k : List Key} {v : V} (e : H a = some (.dT kvs)) (eb : H b = some (.tup (k.map kV))) (hl : kvs.length < sizeLine) :
    DPut H a (.ref b) v (upd H a (.dT (putK kvs k v))) := .inr ⟨kvs, k, b, e, rfl, eb, hl, rfl⟩


section
variable {X : Cx} {pins : List (Addr × Obj)} {σ : St} {H : Hp} {s : Shared} {a : Addr} {y v : V} {u r : Value} {o : Option V} {A : Around} {E : Value → Shared → Prop}

theorem Inv.big (I : Inv X pins σ H s) : sysModules < s.heap.objs.size := by
  have h : mainGlobals < s.heap.objs.size := (I.mod.glob.keeps I.bk).lt
  exact Nat.lt_trans (by decide) h

/-- a dict's object is replaced -/
theorem d_write {h' : Heap} {t' : Nat} {ob : HO} (I : Inv X pins σ H s) (mu : Mut (H a)) (hs : Heap.SameBut a s.heap h') (he : ∃ q, h'.get? a = some q) (new : ObjOk X.prog X.w (upd H a ob) h' a ob) :
    Inv X pins σ (upd H a ob) { s with heap := h', toks := t' } :=
  I.write (x := a) (e := a) mu (.inl rfl) (fun b q hb z => (hs.2 b hb).trans z) he new
end

section
variable {X : Cx} {pins : List (Addr × Obj)} {σ : St} {H : Hp} {s : Shared} {a : Addr} {kvs : List (Key × V)} {k : Key} {u : Value} {A : Around} {E : Value → Shared → Prop}
end


/-! ### readings and rules -/



section
variable {X : Cx} {o i e value : Expr} {pos pos' tpos : Pos} {td ty tv : TE}
end


/-! ### displays -/
theorem dt_empty {P : Program} {w : World} {H : Hp} (h : Heap) (hb : sysModules < h.objs.size) : ObjOk P w H (h.push { cls := .type "dict", data := .dict #[] }) h.objs.size (.dT []) :=
  ⟨Nat.zero_le _, beq_eq_false_iff_ne.mpr (Ne.symm (Nat.ne_of_lt hb)), [], .nil, _, #[], 0, Heap.get?_push_size _ rfl, ⟨rfl, rfl, rfl⟩, rfl, rfl, List.nodup_nil⟩
def tDNewT : TE := fun _ H Q => ∀ p, H p = none → Q (.ref p) (upd H p (.dT []))
section
variable {X : Cx} {pos : Pos}
theorem pe_dnewT : PE X (.Dict [] [] pos) tDNewT := fun pins s σ H Q I h =>
  wpAny_Dict_empty ⟨.ref s.heap.objs.size, _, I.laid (a := s.heap.objs.size) (o := .dT []) (t' := s.toks) (fun _ _ q => Heap.get?_push_of_some _ q) (Nat.le_refl _) (dt_empty s.heap I.big), rfl, h _ (I.hok.fresh (Nat.le_refl _))⟩
end




/-! ### methods -/
/-- a method call o.m(e) of a built-in, with one argument: what must be seen of the text -/
structure M1 (X : Cx) (o : Expr) (m : Str) (apos : Pos) (e : Expr) (cpos : Pos) : Prop where
  base : attributeBase o m X.env (eval o X.env) = eval o X.env
  few : ((backTo cpos (starEach [e] X.env)).all (fun x => !x.1) && (backToKw cpos (keywordEach [] X.env)).all (fun x => x.1.isSome)
    && decide (([e] : List Expr).length + ([] : List Keyword).length + (if ([] : List Keyword).isEmpty then 0 else 1) < 30)) = true
  line : (apos.endLine == cpos.line) = true
  trees : backTo cpos (starEach [e] X.env) = [(false, eval e X.env)]
structure M2 (X : Cx) (o : Expr) (m : Str) (apos : Pos) (e f : Expr) (cpos : Pos) : Prop where
  base : attributeBase o m X.env (eval o X.env) = eval o X.env
  few : ((backTo cpos (starEach [e, f] X.env)).all (fun x => !x.1) && (backToKw cpos (keywordEach [] X.env)).all (fun x => x.1.isSome)
    && decide (([e, f] : List Expr).length + ([] : List Keyword).length + (if ([] : List Keyword).isEmpty then 0 else 1) < 30)) = true
  line : (apos.endLine == cpos.line) = true
  trees : backTo cpos (starEach [e, f] X.env) = [(false, eval e X.env), (false, eval f X.env)]

/-- a is a dict, whatever its keys -/
def IsD (H : Hp) (a : Addr) : Prop := (∃ kvs, Rd H a (.dK kvs)) ∨ ∃ kvs, Rd H a (.dT kvs)
theorem isD_at {X : Cx} {pins : List (Addr × Obj)} {σ : St} {H : Hp} {s : Shared} {a : Addr} (I : Inv X pins σ H s) (d : IsD H a) :
    s.TypeIs (.ref a) "dict" ∧ (∀ b, Value.ref a = .ref b → ∃ ob, s.heap.get? b = some ob ∧ ob.dict = none) ∧ (a == sysModules) = false := by
  rcases d with ⟨kvs, e⟩ | ⟨kvs, e⟩
  · obtain ⟨_, hd, vs, _, dd⟩ := dk_rd I.hok e
    refine ⟨dd.typeIs, fun b q => ?_, hd⟩
    cases q
    obtain ⟨ob, _, _, h1, h2, _⟩ := dd
    exact ⟨ob, h1, h2.2.1⟩
  · obtain ⟨_, hd, xs, _, dd⟩ := dt_rd I.hok e
    refine ⟨dd.typeIs, fun b q => ?_, hd⟩
    cases q
    obtain ⟨ob, _, _, h1, h2, _⟩ := dd
    exact ⟨ob, h1, h2.2.1⟩

section
variable {X : Cx} {pins : List (Addr × Obj)} {σ : St} {H : Hp} {s : Shared} {a : Addr} {y d : V} {u r : Value} {o : Option V} {A : Around} {E : Value → Shared → Prop}
end

section
variable {X : Cx} {o e f : Expr} {apos cpos : Pos} {td ty tx : TE}
end

/-! ### dict(d): a copy -/
section
variable {X : Cx} {pins : List (Addr × Obj)} {σ : St} {H : Hp} {s : Shared} {a : Addr} {kvs : List (Key × V)} {A : Around} {E : Value → Shared → Prop}
end


section
variable {X : Cx} {pins : List (Addr × Obj)} {σ : St} {H : Hp} {s : Shared} {a : Addr} {y : V} {u : Value} {A : Around} {E : Value → Shared → Prop}
end
end L2
namespace L2
open PySem PySem.Spec PyProof.Rows
/-! ### a dict's pairs: keys that differ -/
section
variable {κ : Type} [DecidableEq κ]
end
end L2

/-! ### d.setdefault(a tuple, x) -/
namespace DictQ
open PySem
section
variable {prog : Program} {w : World} {K : Type} [DecidableEq K] {knd : HeapKind prog w K} {A : Around} {E : Value → Shared → Prop} {s : Shared} {d a : Addr} {k : K} {xs : List (K × Addr × Value)}
theorem setdef_ok {x : Value} {Q : Value → Shared → Prop} (hu : knd.room A) (hkey : knd.is s.heap k a) (hm : s.heap.DictOfH knd d xs) (old : ∀ p, atKey xs k = some p → Q p.2 { s with toks := s.toks + knd.draws k })
    (new : atKey xs k = none → ∀ h', h'.DictOfH knd d (storedH xs k a x) → Heap.SameBut d s.heap h' → Q x { s with heap := h', toks := s.toks + knd.draws k }) (hz : xs.length ≤ sizeLine) :
    wpAny (model prog w) A (dictSetDefault d (.ref a) x) Q E s := by
  obtain ⟨o, es, ep, ho, hc, hd, he, his, hn⟩ := hm
  have hsz : es.size = xs.length := size_of_entries he
  unfold dictSetDefault
  refine wpAny_holding (wpAny_bind (knd.pyHash hu hkey (wpAny_bind (wpAny_dictFind_heap (s := { s with toks := s.toks + knd.draws k }) hu hkey ho hd he his hn (fun hno => ?_) fun j p hj => ?_))))
  · have z : atKey xs k = none := atKey_none_of_get hno
    have nk : k ∉ xs.map (·.1) := not_mem_keys_of_get hno
    have sb : Heap.SameBut d s.heap (s.heap.update d (Obj.mapDictKeys (·.push ⟨knd.hash k, .ref a, x⟩))) := Heap.SameBut.update ..
    refine wpAny_bind (wpAny_rule (wpAny_bind (wpAny_updateDictKeys (hz := by omega) (s := { s with toks := s.toks + knd.draws k }) ho hd (wpAny_pure (new z _ ?_ sb)))))
    refine ⟨_, _, ep + 1, Heap.get?_update_self _ ho (Obj.isFreed_of_dict (Obj.data_mapDictKeys hd _)), hc.mapDictKeys _, Obj.data_mapDictKeys hd _, ?_, ?_, ?_⟩ <;> rw [storedH_new z]
    · simp [he, entryOfKey]
    · intro y hy
      rcases List.mem_append.mp hy with hy | hy
      · exact knd.keeps (his y hy) ho hd sb
      · have e : y = (k, a, x) := by simpa using hy
        subst e
        exact knd.keeps hkey ho hd sb
    · rw [List.map_append]
      refine List.nodup_append.mpr ⟨hn, by simp, fun y hy y' hy' e => ?_⟩
      have e2 : y' = k := by simpa using hy'
      exact nk (by rw [← e2, ← e]; exact hy)
  · refine wpAny_bind (wpAny_dictEntries (s := { s with toks := s.toks + knd.draws k }) ho hd ?_)
    rw [entry_at he j, hj]
    exact wpAny_bind (wpAny_rule (wpAny_pure (old p (atKey_of_get hn hj))))
theorem meets_setdef (d a : Addr) (hd : (d == sysModules) = false) (x : Value) :
    MeetsIn prog w (Builtin.«dict.setdefault» ⟨[.ref d, .ref a, x], []⟩) (fun A R s => knd.room A.in1 ∧ ∃ k xs, knd.is s.heap k a ∧ s.heap.DictOfH knd d xs ∧ xs.length ≤ sizeLine ∧
      (∀ p, atKey xs k = some p → R (.ok (.ret p.2)) { s with toks := s.toks + knd.draws k }) ∧
      (atKey xs k = none → ∀ h', h'.DictOfH knd d (storedH xs k a x) → Heap.SameBut d s.heap h' → R (.ok (.ret x)) { s with heap := h', toks := s.toks + knd.draws k })) :=
  .of_wp fun A R s ⟨hu, k, xs, hkey, hm, hz, h1, h2⟩ => by
    unfold Builtin.«dict.setdefault» Builtin.Dict.keyAndDefault
    refine wpAny_bind (wpAny_bind (wpAny_notOrdered_dict hm.typeIs (wpAny_pure ?_)))
    show wpAny _ _ (if (d == sysModules) = true then _ else (dictSetDefault d (.ref a) x >>= _)) _ _ s
    rw [hd, if_neg Bool.false_ne_true]
    exact wpAny_bind (setdef_ok hu hkey hm (fun p hp => wpAny_pure ⟨p.2, rfl, h1 p hp⟩) (fun hn h' a1 a2 => wpAny_pure ⟨x, rfl, h2 hn h' a1 a2⟩) hz)
end
end DictQ
namespace L2
open PySem PySem.Spec PyProof.Rows
section
variable {X : Cx} {o e f : Expr} {apos cpos : Pos} {td ty tx : TE}
/-- d.setdefault(t, x): what is there, or x, which is put there -/
def tDSetdef (td ty tx : TE) : TE := fun σ H Q => td σ H fun x H1 => ∃ a, x = .ref a ∧ IsD H1 a ∧ ty σ H1 fun y H2 => tx σ H2 fun z H3 => ∃ kvs k b, H3 a = some (.dT kvs) ∧ y = .ref b ∧ H3 b = some (.tup (k.map kV)) ∧ kvs.length < sizeLine ∧
  (∀ v, valV kvs k = some v → Q v H3) ∧ (valV kvs k = none → Q z (upd H3 a (.dT (putK kvs k z))))
theorem pe_dsetdef (hu : X.A.units + 1 < cLine) (ho : PE X o td) (he : PE X e ty) (hf : PE X f tx) (m : M2 X o "setdefault" apos e f cpos) : PE X (.Call (.Attribute o "setdefault" apos) [e, f] [] cpos) (tDSetdef td ty tx) := by
  intro pins s σ H Q I h
  refine wpAny_Call_method m.base m.few m.line PySem.F.plainAttrs_dict PySem.F.slot_dict_setdefault PySem.F.type_dict_setdefault (thn (ho pins s σ H _ I h) fun u s1 ⟨x, H1, I1, rx, a, ex, d, q1⟩ => ?_)
  subst ex
  obtain rfl : u = Value.ref a := rx
  obtain ⟨t1, t2, _⟩ := isD_at I1 d
  refine ⟨t1, t2, ?_⟩
  rw [m.trees]
  refine Calls.callWith_builtin rfl (Calls.evalArgs_plain (Calls.spliced_cons (thn (he pins s1 σ H1 _ I1 q1) fun iv s2 ⟨y, H2, I2, ry, q2⟩ =>
    Calls.spliced_cons (thn (hf pins s2 σ H2 _ I2 q2) fun fv s3 ⟨z, H3, I3, rz, kvs, k, b, ea, ey, eb, hl, q3, q4⟩ => Calls.spliced_nil ?_))))
  subst ey
  cases (show iv = Value.ref b from ry)
  obtain ⟨hz, hd, xs, rel, dd⟩ := dt_of I3.hok ea
  have hz' : xs.length ≤ sizeLine := by rw [← Paired.length rel]; exact hz
  refine call_meetsIn PySem.F.slot_dict_setdefault dd.typeIs PySem.F.entry_dict_setdefault (PySem.F.args_dict_setdefault_3 _ _ _) (DictQ.meets_setdef (knd := tupleKind (mixKind X.prog X.w)) a b hd fv)
    ⟨tupleKind_room_in1 hu, k, xs, key_of I3.hok eb, dd, hz', fun p hp => ?_, fun hn h' dd' hs => ?_⟩
  · have r := rel.val k
    rw [hp] at r
    obtain ⟨v, e1, e2⟩ : ∃ v, valV kvs k = some v ∧ RelV v p.2 := by
      cases hv : valV kvs k with
      | none => rw [hv] at r; exact r.elim
      | some v => rw [hv] at r; exact ⟨v, rfl, r⟩
    exact ⟨v, H3, I3.tok _, e2, q3 v e1⟩
  · have r := rel.val k
    rw [hn] at r
    have e1 : valV kvs k = none := by
      cases hv : valV kvs k with
      | none => rfl
      | some v => rw [hv] at r; exact r.elim
    obtain ⟨q, es, ep, hq, h2, h3, h4, _, h5⟩ := dd'
    have hl' : (putK kvs k z).length ≤ sizeLine := by have := length_putK kvs k z; omega
    refine ⟨z, _, d_write (ob := .dT (putK kvs k z)) I3 (by rw [ea]; exact True.intro) hs ⟨q, hq⟩ ⟨hl', hd, _, (rel.put k eb rz).keeps fun c ys ec => ?_, q, es, ep, hq, h2, h3, h4, h5⟩, rz, q4 e1⟩
    rw [upd_ne (ne_of ec ea (fun z => nomatch z))]
    exact ec
end
end L2

/-! ### comprehensions over pairs: two names, in slots 0 and 1 -/
namespace L2
open PySem PySem.Spec PyProof.Rows
abbrev g2 (K : PySem.W.Frag) : TG := gTup K 2 (gCons (gName 0) (gCons (gName 1) gNil))
def CN2 (σ0 : St) (D : Addr) (Pv : Nat → List V → Hp → Prop) (i : Nat) : St → Hp → Prop := fun σ H => (∃ v u, σ = (σ0.set 0 v).set 1 u) ∧ ∃ ys, H D = some (.lst ys) ∧ Pv i ys H
def CE2 (σ0 : St) (D : Addr) (Pv : Nat → List V → Hp → Prop) (i : Nat) (σ : St) : VK := fun y H => ∃ ys, H D = some (.lst ys) ∧ ys.length < sizeLine ∧ CN2 σ0 D Pv i σ (upd H D (.lst (ys ++ [y])))
theorem CE2.mk {σ0 : St} {D : Addr} {Pv : Nat → List V → Hp → Prop} {i : Nat} {v u : Option V} {y : V} {H : Hp} {ys : List V} (hD : H D = some (.lst ys)) (hl : ys.length < sizeLine) (h : Pv i (ys ++ [y]) (upd H D (.lst (ys ++ [y])))) : CE2 σ0 D Pv i ((σ0.set 0 v).set 1 u) y H :=
  ⟨ys, hD, hl, ⟨v, u, rfl⟩, _, upd_same, h⟩
theorem CN2.mk {σ0 : St} {D : Addr} {Pv : Nat → List V → Hp → Prop} {i : Nat} {v u : Option V} {H : Hp} {ys : List V} (hD : H D = some (.lst ys)) (h : Pv i ys H) : CN2 σ0 D Pv i ((σ0.set 0 v).set 1 u) H := ⟨⟨v, u, rfl⟩, ys, hD, h⟩
theorem set_again (σ0 : St) (a b a' b' : Option V) : (((σ0.set 0 a).set 1 b).set 0 a').set 1 b' = (σ0.set 0 a').set 1 b' := by
  cases σ0 with
  | nil => rfl
  | cons x r => cases r with
    | nil => rfl
    | cons y r => rfl
theorem comp_pairs {K : PySem.W.Frag} {J : It} {n : Nat} {xs : Nat → V × V} {D : Addr} {tt : TT} {te : TE} {σ0 : St} {H1 : Hp} {Q : VK} (Pv : Nat → List V → Hp → Prop) (h0 : Pv 0 [] (upd H1 D (.lst [])))
    (hgo : ∀ i ys H, i < n → Pv i ys H → J.go i H) (hst : ∀ ys H, Pv n ys H → J.stop n H) (hy : ∀ i ys H x H', i < n → Pv i ys H → J.yld i H x H' → ∃ p, H p = none ∧ x = .ref p ∧ H' = upd H p (.tup [(xs i).1, (xs i).2]))
    (hs : ∀ i ys H p, i < n → Pv i ys H → H D = some (.lst ys) → H p = none → tt ((σ0.set 0 (some (xs i).1)).set 1 (some (xs i).2)) (upd H p (.tup [(xs i).1, (xs i).2])) fun b H4 =>
      if b = true then te ((σ0.set 0 (some (xs i).1)).set 1 (some (xs i).2)) H4 (CE2 σ0 D Pv (i + 1) ((σ0.set 0 (some (xs i).1)).set 1 (some (xs i).2))) else CN2 σ0 D Pv (i + 1) ((σ0.set 0 (some (xs i).1)).set 1 (some (xs i).2)) H4)
    (hd : ∀ ys H, Pv n ys H → H D = some (.lst ys) → Q (.ref D) H) :
    CompRun J (g2 K) tt te Q σ0 H1 D := by
  refine ⟨fun i m σ H => m = n - i ∧ i ≤ n ∧ (σ = σ0 ∨ ∃ v u, σ = (σ0.set 0 v).set 1 u) ∧ ∃ ys, H D = some (.lst ys) ∧ Pv i ys H, ⟨n, by simp, Nat.zero_le _, .inl rfl, [], upd_same, h0⟩, ?_⟩
  rintro i m σ H ⟨rfl, hi, hσ, ys, hD, p⟩
  by_cases hlt : i < n
  · refine .inr ⟨hgo i ys H hlt p, CN2 σ0 D Pv (i + 1), fun σ' H' ⟨a1, a2⟩ => ⟨n - (i + 1), by omega, rfl, hlt, .inr a1, a2⟩, fun x H' y => ?_⟩
    obtain ⟨q, hq, rfl, rfl⟩ := hy i ys H x H' hlt p y
    have eσ : (σ.set 0 (some (xs i).1)).set 1 (some (xs i).2) = (σ0.set 0 (some (xs i).1)).set 1 (some (xs i).2) := by
      rcases hσ with rfl | ⟨v, u, rfl⟩
      · rfl
      · exact set_again _ _ _ _ _
    refine ⟨q, _, rfl, SqT.of upd_same, rfl, _, _, rfl, ?_⟩
    refine ⟨_, _, rfl, rfl, ?_⟩
    show tt ((σ.set 0 (some (xs i).1)).set 1 (some (xs i).2)) _ _
    rw [eσ]
    exact hs i ys H q hlt p hD hq
  · have e : i = n := by omega
    subst e
    exact .inl ⟨hst ys H p, hd ys H p hD⟩
/-- [.. for i, x in enumerate(l) if ..] -/
theorem comp_enum {K : PySem.W.Frag} {a D : Addr} {xs : List V} {tt : TT} {te : TE} {σ0 : St} {H1 : Hp} {Q : VK} (Pv : Nat → List V → Hp → Prop) (h0 : Pv 0 [] (upd H1 D (.lst [])))
    (hl : ∀ i ys H, i ≤ xs.length → Pv i ys H → H a = some (.lst xs))
    (hs : ∀ i x ys H p, xs[i]? = some x → Pv i ys H → H D = some (.lst ys) → H p = none → tt ((σ0.set 0 (some (.int (i : Nat)))).set 1 (some x)) (upd H p (.tup [.int (i : Nat), x])) fun b H4 =>
      if b = true then te ((σ0.set 0 (some (.int (i : Nat)))).set 1 (some x)) H4 (CE2 σ0 D Pv (i + 1) ((σ0.set 0 (some (.int (i : Nat)))).set 1 (some x))) else CN2 σ0 D Pv (i + 1) ((σ0.set 0 (some (.int (i : Nat)))).set 1 (some x)) H4)
    (hd : ∀ ys H, Pv xs.length ys H → H D = some (.lst ys) → Q (.ref D) H) : CompRun (Ite K a) (g2 K) tt te Q σ0 H1 D := by
  refine comp_pairs (n := xs.length) (xs := fun i => (.int (i : Nat), (xs[i]?).getD .non)) Pv h0 (fun i ys H hi p => ?_) (fun ys H p => ?_) (fun i ys H x H' hi p y => ?_) (fun i ys H p hi hp hD hf => ?_) hd
  · exact ⟨xs, xs[i], SqL.of (hl i ys H (Nat.le_of_lt hi) p), List.getElem?_eq_getElem hi⟩
  · exact ⟨xs, SqL.of (hl _ ys H (Nat.le_refl _) p), Nat.le_refl _⟩
  · obtain ⟨q, hq, e, z⟩ := y
    refine ⟨q, hq, e, ?_⟩
    rw [z xs xs[i] (SqL.of (hl i ys H (Nat.le_of_lt hi) p)) (List.getElem?_eq_getElem hi), List.getElem?_eq_getElem hi]; rfl
  · have e : xs[i]? = some xs[i] := List.getElem?_eq_getElem hi
    have z := hs i xs[i] ys H p e hp hD hf
    dsimp only
    rw [e]
    exact z
/-- [.. for x, y in zip(l, m)] -/
theorem comp_zip {K : PySem.W.Frag} {a b D : Addr} {xs zs : List V} {tt : TT} {te : TE} {σ0 : St} {H1 : Hp} {Q : VK} (Pv : Nat → List V → Hp → Prop) (hxz : xs.length = zs.length) (h0 : Pv 0 [] (upd H1 D (.lst [])))
    (hl : ∀ i ys H, i ≤ xs.length → Pv i ys H → H a = some (.lst xs) ∧ H b = some (.lst zs))
    (hs : ∀ i x z ys H p, xs[i]? = some x → zs[i]? = some z → Pv i ys H → H D = some (.lst ys) → H p = none → tt ((σ0.set 0 (some x)).set 1 (some z)) (upd H p (.tup [x, z])) fun b H4 =>
      if b = true then te ((σ0.set 0 (some x)).set 1 (some z)) H4 (CE2 σ0 D Pv (i + 1) ((σ0.set 0 (some x)).set 1 (some z))) else CN2 σ0 D Pv (i + 1) ((σ0.set 0 (some x)).set 1 (some z)) H4)
    (hd : ∀ ys H, Pv xs.length ys H → H D = some (.lst ys) → Q (.ref D) H) : CompRun (Itz K a b) (g2 K) tt te Q σ0 H1 D := by
  refine comp_pairs (n := xs.length) (xs := fun i => ((xs[i]?).getD .non, (zs[i]?).getD .non)) Pv h0 (fun i ys H hi p => ?_) (fun ys H p => ?_) (fun i ys H x H' hi p y => ?_) (fun i ys H p hi hp hD hf => ?_) hd
  · obtain ⟨h1, h2⟩ := hl i ys H (Nat.le_of_lt hi) p
    exact ⟨xs, zs, xs[i], zs[i]'(by omega), SqL.of h1, SqL.of h2, List.getElem?_eq_getElem hi, List.getElem?_eq_getElem (by omega)⟩
  · obtain ⟨h1, h2⟩ := hl _ ys H (Nat.le_refl _) p
    exact ⟨xs, zs, SqL.of h1, SqL.of h2, .inl (Nat.le_refl _)⟩
  · obtain ⟨h1, h2⟩ := hl i ys H (Nat.le_of_lt hi) p
    obtain ⟨q, hq, e, z⟩ := y
    have e1 : xs[i]? = some xs[i] := List.getElem?_eq_getElem hi
    have e2 : zs[i]? = some (zs[i]'(by omega)) := List.getElem?_eq_getElem (by omega)
    refine ⟨q, hq, e, ?_⟩
    rw [z xs zs _ _ (SqL.of h1) (SqL.of h2) e1 e2, e1, e2]; rfl
  · have e1 : xs[i]? = some xs[i] := List.getElem?_eq_getElem hi
    have e2 : zs[i]? = some (zs[i]'(by omega)) := List.getElem?_eq_getElem (by omega)
    have z := hs i _ _ ys H p e1 e2 hp hD hf
    dsimp only
    rw [e1, e2]
    exact z

section
variable {X : Cx} {o e : Expr} {t : TA} {apos cpos : Pos}
end
end L2

namespace L2
open PySem PySem.Spec PyProof.Rows
/-- for i, x in enumerate(l): .. -/
theorem for_enum {K : PySem.W.Frag} {a : Addr} {xs : List V} {g : TG} {tb : TS} {D : Ends} {σ : St} {H : Hp} (Pv : Nat → St → Hp → Prop) (h0 : Pv 0 σ H) (hl : ∀ i σ H, i ≤ xs.length → Pv i σ H → H a = some (.lst xs))
    (hs : ∀ i x σ H p, xs[i]? = some x → Pv i σ H → H p = none → g (.ref p) σ (upd H p (.tup [.int (i : Nat), x])) fun σ2 H2 => tb { D with nx := Pv (i + 1), ct := Pv (i + 1), bk := D.nx } σ2 H2) (hd : ∀ σ H, Pv xs.length σ H → D.nx σ H) :
    ∃ W : Nat → Nat → St → Hp → Prop, (∃ m, W 0 m σ H) ∧ ∀ i m σ H, W i m σ H →
      ((Ite K a).stop i H ∧ D.nx σ H) ∨ ((Ite K a).go i H ∧ ∃ N : St → Hp → Prop, (∀ σ' H', N σ' H' → ∃ m', m' < m ∧ W (i + 1) m' σ' H') ∧ ∀ x H', (Ite K a).yld i H x H' → g x σ H' fun σ2 H2 => tb { D with nx := N, ct := N, bk := D.nx } σ2 H2) := by
  refine ⟨fun i m σ H => m = xs.length - i ∧ i ≤ xs.length ∧ Pv i σ H, ⟨xs.length, by simp, Nat.zero_le _, h0⟩, ?_⟩
  rintro i m σ H ⟨rfl, hi, p⟩
  have q : SqL K H a xs := SqL.of (hl i σ H hi p)
  by_cases hlt : i < xs.length
  · refine .inr ⟨⟨xs, xs[i], q, by simp [hlt]⟩, Pv (i + 1), fun σ' H' p' => ⟨xs.length - (i + 1), by omega, rfl, hlt, p'⟩, fun x H' y => ?_⟩
    obtain ⟨t, ht, rfl, y⟩ := y
    have e : xs[i]? = some xs[i] := List.getElem?_eq_getElem hlt
    rw [y xs xs[i] q e]
    exact hs i xs[i] σ H t e p ht
  · have e : i = xs.length := by omega
    subst e
    exact .inl ⟨⟨xs, q, Nat.le_refl _⟩, hd σ H p⟩
end L2

/-! ### the sort's own way, with keys that differ -/
namespace SortQ
open PySem PySem.W PyProof.Rows
def run {α : Type} (b : Nat → Nat → Bool) : KasT α → α
  | .ret a => a
  | .ask i j f => run b (f (b i j))
section
variable (k : Nat → Nat)
def at' (p : Array Nat) (t : Nat) : Nat := k (p.getD t 0)
def Nd (p : Array Nat) : Prop := (p.toList.map k).Nodup
def Up (p : Array Nat) (m : Nat) : Prop := ∀ t, 0 < t → t < m → at' k p (t - 1) < at' k p t
variable {k}
theorem Nd.ne {p : Array Nat} (h : Nd k p) {t u : Nat} (htu : t < u) (hu : u < p.size) : at' k p t ≠ at' k p u := by
  intro z
  have e1 : (p.toList.map k)[t]? = some (at' k p t) := by
    rw [List.getElem?_map, Array.getElem?_toList, Array.getElem?_eq_getElem (by omega)]
    unfold at'; simp [Array.getD, (by omega : t < p.size)]
  have e2 : (p.toList.map k)[u]? = some (at' k p u) := by
    rw [List.getElem?_map, Array.getElem?_toList, Array.getElem?_eq_getElem hu]
    unfold at'; simp [Array.getD, hu]
  have hl : t < (p.toList.map k).length := by rw [List.length_map, Array.length_toList]; omega
  have := (List.getElem?_inj (i := t) (j := u) hl h).mp (by rw [e1, e2, z])
  omega
theorem Up.lt {p : Array Nat} {m : Nat} (h : Up k p m) : ∀ {t u : Nat}, t < u → u < m → at' k p t < at' k p u
  | t, 0, htu, _ => absurd htu (Nat.not_lt_zero _)
  | t, u + 1, htu, hu => by
    have h1 := h (u + 1) (Nat.succ_pos _) hu
    rw [Nat.add_sub_cancel] at h1
    rcases Nat.lt_or_eq_of_le (Nat.le_of_lt_succ htu) with z | z
    · exact Nat.lt_trans (h.lt z (by omega)) h1
    · subst z; exact h1
end
end SortQ

namespace SortQ
open PySem PySem.W PyProof.Rows
/-! ### what the sort asks of -/
def BT (n : Nat) {α : Type} (Q : α → Prop) : KasT α → Prop
  | .ret a => Q a
  | .ask i j f => i < n ∧ j < n ∧ ∀ b, BT n Q (f b)
theorem BT.bind {n : Nat} {α β : Type} {f : α → KasT β} {Q : β → Prop} : ∀ {t : KasT α}, BT n (fun a => BT n Q (f a)) t → BT n Q (t.bind f)
  | .ret _, h => h
  | .ask _ _ _, ⟨h1, h2, h3⟩ => ⟨h1, h2, fun b => BT.bind (h3 b)⟩
section
variable {n : Nat}
def PB (n : Nat) (p : Array Nat) : Prop := ∀ x ∈ p.toList, x < n
theorem PB.at {p : Array Nat} (h : PB n p) (h0 : 0 < n) (t : Nat) : p.getD t 0 < n := by
  by_cases ht : t < p.size
  · have : p.getD t 0 = p[t] := by simp [Array.getD, ht]
    rw [this]
    exact h _ (by simp)
  · have : p.getD t 0 = 0 := by simp [Array.getD, ht]
    rw [this]; exact h0
end
/-! ### pairs of numbers in the heap -/
section
variable {prog : Program} {w : World} {A : Around} {E : Value → Shared → Prop} {s : Shared} {vs : List Value} {ps : List (Nat × Nat)}
end
end SortQ

namespace SetP
open PySem
/-! ### a table's slots are all met -/
def fL (N i : Nat) : Nat := (i * 5 + 1) % N
def fN (N : Nat) : Nat → Nat → Nat
  | 0, i => i
  | r + 1, i => fN N r (fL N i)
theorem fN_add (N : Nat) : ∀ (a b i : Nat), fN N (a + b) i = fN N b (fN N a i)
  | 0, b, i => by rw [Nat.zero_add]; rfl
  | a + 1, b, i => by rw [Nat.succ_add]; exact fN_add N a b (fL N i)
/-- from 0 all are met, and then 0 again -/
structure Per (N : Nat) : Prop where
  all : ∀ e, e < N → ∃ m, m < N ∧ fN N m 0 = e
  back : fN N N 0 = 0
def meets (N e : Nat) : Bool := (List.range N).any fun m => fN N m 0 == e
theorem Per.of {N : Nat} (h : ((List.range N).all (meets N) && (fN N N 0 == 0)) = true) : Per N := by
  rw [Bool.and_eq_true] at h
  refine ⟨fun e he => ?_, beq_iff_eq.mp h.2⟩
  have := List.all_eq_true.mp h.1 e (List.mem_range.mpr he)
  unfold meets at this
  obtain ⟨m, hm, q⟩ := List.any_eq_true.mp this
  exact ⟨m, List.mem_range.mp hm, beq_iff_eq.mp q⟩
theorem Per.reach {N : Nat} (P : Per N) {i e : Nat} (hi : i < N) (he : e < N) : ∃ r, r < N ∧ fN N r i = e := by
  obtain ⟨a, ha, rfl⟩ := P.all i hi
  obtain ⟨b, hb, rfl⟩ := P.all e he
  by_cases q : a ≤ b
  · exact ⟨b - a, by omega, by rw [← fN_add]; congr 1; omega⟩
  · refine ⟨N + b - a, by omega, ?_⟩
    rw [← fN_add, show a + (N + b - a) = N + b by omega, fN_add, P.back]
/-! ### the search -/
def seg (M i pt : Nat) : SetTable.Probe := { j := i, more := SetTable.runEnd M i - i, i := i, perturb := pt, dummy := none }
section
variable {t : SetTable} {f : Nat → Int} {h : Int}
abbrev go (t : SetTable) (f : Nat → Int) (h : Int) := SetTable.probe.go t f h
end
/-! ### an empty slot -/
end SetP

namespace SetP
open PySem
/-! ### a table laid anew -/
abbrev free (M : Nat) (owner : Array (Option Nat)) := SetTable.layClean.free M owner
theorem getD_none {owner : Array (Option Nat)} {j : Nat} (h : (owner.getD j (some 0)).isNone = true) : owner.toList[j]? = some none := by
  rw [Array.getElem?_toList]
  by_cases hj : j < owner.size
  · have : owner.getD j (some 0) = owner[j] := by simp [Array.getD, hj]
    rw [this] at h
    rw [Array.getElem?_eq_getElem hj]
    cases e : owner[j] with
    | none => rfl
    | some v => rw [e] at h; cases h
  · have : owner.getD j (some 0) = some 0 := by simp [Array.getD, hj]
    rw [this] at h; cases h
end SetP

namespace SetP
open PySem
/-! ### the way of a search -/
def advM (M : Nat) (p : SetTable.Probe) : SetTable.Probe :=
  if p.more > 0 then { p with j := p.j + 1, more := p.more - 1 } else
  { p with j := (SetTable.leap M p.i p.perturb).1, more := SetTable.runEnd M (SetTable.leap M p.i p.perturb).1 - (SetTable.leap M p.i p.perturb).1, i := (SetTable.leap M p.i p.perturb).1, perturb := (SetTable.leap M p.i p.perturb).2 }
def advN (M : Nat) : Nat → SetTable.Probe → SetTable.Probe
  | 0, p => p
  | n + 1, p => advN M n (advM M p)
def st0 (M : Nat) (h : Int) : SetTable.Probe := seg M (SetTable.bits h % (M + 1)) (SetTable.bits h)
def pth (M : Nat) (h : Int) (n : Nat) : Nat := (advN M n (st0 M h)).j
/-- a slot that a search comes to over slots that are taken -/
def Occ (M : Nat) (occ : Nat → Prop) (h : Int) (j : Nat) : Prop := ∃ n, pth M h n = j ∧ ∀ m, m < n → occ (pth M h m)
theorem Occ.mono {M : Nat} {o o' : Nat → Prop} {h : Int} {j : Nat} (k : ∀ s, o s → o' s) : Occ M o h j → Occ M o' h j := fun ⟨n, e, q⟩ => ⟨n, e, fun m hm => k _ (q m hm)⟩
/-! ### the way of a laying -/
def taken (owner : Array (Option Nat)) (s : Nat) : Prop := ∃ y, owner.toList[s]? = some (some y)
end SetP

namespace SetP
open PySem
def OcAll (M : Nat) (es : List (Int × Value)) (pl : List Nat) : Prop := ∀ (i : Nat) (e : Int × Value) (j : Nat), es[i]? = some e → pl[i]? = some j → Occ M (· ∈ pl) e.1 j
end SetP

namespace SetP
open PySem
def TabOk (t : SetTable) (n : Nat) : Prop := (t.mask = 7 ∧ n ≤ 4) ∨ (t.mask = 31 ∧ n ≤ 18) ∨ (t.mask = 127 ∧ n ≤ 76)
theorem TabOk.lt {t : SetTable} {n : Nat} (h : TabOk t n) : n + 1 ≤ t.mask := by
  rcases h with ⟨h, q⟩ | ⟨h, q⟩ | ⟨h, q⟩ <;> rw [h] <;> omega
theorem TabOk.way {t : SetTable} {n : Nat} (h : TabOk t n) : t.gaveWay = false := by
  unfold SetTable.gaveWay
  rcases h with ⟨h, q⟩ | ⟨h, q⟩ | ⟨h, q⟩ <;> rw [h] <;> rfl
abbrev TK (prog : Program) (w : World) : HeapKind prog w (List Int) := tupleKind (intKind prog w)
structure RowT (prog : Program) (w : World) (h : Heap) (es : Array (Int × Value)) (t : SetTable) (L : List (List Int × Addr)) : Prop where
  el : es.toList = L.map fun x => ((TK prog w).hash x.1, Value.ref x.2)
  ks : ∀ x ∈ L, (TK prog w).is h x.1 x.2
  nd : (L.map (·.1)).Nodup
  tb : TabOk t L.length
  pl : t.plain = true
  oc : OcAll t.mask es.toList t.place.toList
  fits : t.fits es.size = true
  good : SetQ.Good (!w.params.followText "set-order") t
section
variable {prog : Program} {w : World} {A : Around} {E : Value → Shared → Prop} {s : Shared}
theorem RowT.sz {h : Heap} {es : Array (Int × Value)} {t : SetTable} {L : List (List Int × Addr)} (r : RowT prog w h es t L) : es.size = L.length := by
  have := congrArg List.length r.el
  rw [List.length_map, Array.length_toList] at this
  exact this
end
end SetP

namespace SetP
open PySem
section
variable {prog : Program} {w : World} {A : Around} {E : Value → Shared → Prop} {s : Shared}
/-- what is put in at a place -/
def putAt {α : Type} (l : List α) (p : Nat) (x : α) : List α := l.take p ++ x :: l.drop p
end
end SetP

namespace SetP
open PySem PySem.Spec PyProof.Rows
section
variable {prog : Program} {w : World} {A : Around} {R : Result → Shared → Prop} {J : Addr} {fp wr : List Addr} {G : Array GenState → Array GenState → Prop} {n : Nat} {P : Nat → Value → Prop} {St : Nat → Shared → Prop}
end
section
variable {prog : Program} {w : World} {A : Around} {E : Value → Shared → Prop} {s : Shared}
end
end SetP

namespace SortQ
open PySem PySem.W PyProof.Rows
section
variable {prog : Program} {w : World} {A : Around} {E : Value → Shared → Prop} {s : Shared} {vs : List Value} {ps : List (Nat × Nat)}
end
end SortQ

namespace L2
open PySem PySem.Spec PyProof.Rows
section
variable {X : Cx}
theorem op_isntB : OpR X (compareOp .IsNot) (fun x y H Q => ∃ a b : Bool, x = .bl a ∧ y = .bl b ∧ Q (.bl (!(a == b))) H) := by
  intro pins s σ H x y v u Q I rx ry h
  obtain ⟨a, b, rfl, rfl, q⟩ := h
  cases rx
  cases ry
  refine wpAny_isNot_plain rfl (fin_bl I q ?_)
  cases a <;> cases b <;> rfl
/-- isinstance(x, C), C an own class -/
structure ClsTy (K : PySem.W.Frag) (C : Addr) : Prop where
  a : PySem.W.findIn K (.ref C) "__class__" = some (some (.builtin "object.__class__"))
  n : PySem.W.specialIn K (.builtin "object.__class__") "__get__" = some (some (.builtin "getset_descriptor.__get__"))
  tk : PySem.W.takesIn K (.builtin "object.__class__") = some true
  m : PySem.W.mroIn K C (.type "object") = some true
theorem ClsTy.ty {K : PySem.W.Frag} {H : Hp} {a C dx : Addr} {fs : List (Str × V)} (t : ClsTy K C) (cl : Cls K C) (e : H a = some (.ins C dx fs)) : TyOf K H (.ref a) (.ref C) := .ins e cl t.a t.n t.tk t.m
def rIsC (K : PySem.W.Frag) : List V → Hp → VK → Prop := fun xs H Q => ∃ x t C b, xs = [x, .ref C] ∧ TyOf K H x t ∧ PySem.W.kitOne K t (.ref C) = some b ∧ Q (.bl b) H
theorem call_isinstC : CallR X (.builtin "isinstance") (rIsC X.K) := by
  intro pins s σ H xs us Q I r h
  obtain ⟨x, t, n, b, rfl, ty, e, q⟩ := h
  obtain ⟨u, c, rfl, rx, rc⟩ := vals2 r
  obtain rfl : c = Value.ref n := rc
  exact isinst_ok I rx ty e fun tk => ⟨.bl b, H, I.tok tk, rfl, q⟩
theorem call_isinstCK (K : PySem.W.Frag) (h : X.K = K := by rfl) : CallR X (.builtin "isinstance") (rIsC K) := by subst h; exact call_isinstC
/-- one of two rules -/
def tEither (t u : TE) : TE := fun σ H Q => t σ H Q ∨ u σ H Q
theorem pe_either {e : Expr} {t u : TE} (h1 : PE X e t) (h2 : PE X e u) : PE X e (tEither t u) := fun pins s σ H Q I h => h.elim (h1 pins s σ H Q I) (h2 pins s σ H Q I)
/-- xs.index(True) in a list of bools -/
theorem eqGives_bool (a b : Bool) : MeetsSeq.EqGives (.bool a) (.bool b) (a == b) := fun prog w A E s Q h => SeqAt.EqAt.bool_bool (A := A) (s := s) a b prog w E Q h
def isTrueV : Value → Bool
  | .bool b => b
  | _ => false
def rIndexB : V → List V → Hp → VK → Prop := fun x vs H Q => ∃ (l : Addr) (bs : List Bool) (j : Nat), x = .ref l ∧ vs = [.bl true] ∧ H l = some (.lst (bs.map V.bl)) ∧ bs[j]? = some true ∧ (∀ m, m < j → bs[m]? = some false) ∧ Q (.int (j : Nat)) H
theorem mt_indexB : MtM X "list.index" rIndexB := by
  intro pins s σ H x vs v us Q I rx rv h
  obtain ⟨l, bs, j, rfl, rfl, hH, hj, hm, q⟩ := h
  cases rx
  obtain ⟨u, rfl, ru⟩ := rv.one
  obtain rfl : u = Value.bool true := ru
  obtain ⟨z, its, n, r, hl, e⟩ := I.lstM hH
  have hjl : j < its.length := by
    have := (List.getElem?_eq_some_iff.mp hj).1
    rw [← hl, List.length_map]; exact this
  have hat : ∀ i (hi : i < its.length), ∃ b, bs[i]? = some b ∧ its[i] = .bool b := fun i hi => vals_bl r (List.getElem?_eq_getElem hi)
  refine call_meets F.slot_list_index ⟨_, e, rfl⟩ F.entry_list_index (F.args_list_index_2 _ _)
    (MeetsSeq.list_index l its.toArray n (.bool true) isTrueV (fun y hy => ?_) j (by rw [List.size_toArray]; exact hjl) ?_ ?_ fun m hm' hmj => ?_) ⟨e, ?_⟩
  · obtain ⟨i, hi, rfl⟩ := List.mem_iff_getElem.mp (Array.mem_toList_iff.mpr hy)
    obtain ⟨b, _, eb⟩ := hat i hi
    show MeetsSeq.EqGives its[i] _ (isTrueV its[i])
    rw [eb]
    have := eqGives_bool b true
    rwa [show (b == true) = b by cases b <;> rfl] at this
  · have h1 : its.length ≤ sizeLine := by omega
    have h2 : (sizeLine : Nat) < 2 ^ 63 - 1 := by decide
    omega
  · obtain ⟨b, h1, eb⟩ := hat j hjl
    rw [hj] at h1
    cases h1
    show isTrueV its[j] = true
    rw [eb]; rfl
  · obtain ⟨b, h1, eb⟩ := hat m (by rw [List.size_toArray] at hm'; exact hm')
    rw [hm m hmj] at h1
    cases h1
    show isTrueV its[m] = false
    rw [eb]; rfl
  · exact ⟨.int (j : Nat), H, I.tok _, ⟨_, rfl⟩, q⟩
variable {o e : Expr} {t : TA} {apos cpos : Pos}
theorem pe_indexK (K : PySem.W.Frag) {to : TE} (ho : PE X o to) (ha : PA X [e] t) (h : X.K = K := by rfl) (hbase : attributeBase o "index" X.env (eval o X.env) = eval o X.env := by rfl)
    (hfew : ((backTo cpos (starEach [e] X.env)).all (fun x => !x.1) && (backToKw cpos (keywordEach [] X.env)).all (fun x => x.1.isSome)
      && decide ([e].length + ([] : List Keyword).length + (if ([] : List Keyword).isEmpty then 0 else 1) < 30)) = true := by rfl)
    (hline : (apos.endLine == cpos.line) = true := by rfl) (hs : starEach [e] X.env = (false, eval e X.env) :: starEach [] X.env := by rfl) (hplain : (backTo cpos (starEach [] X.env)).any (·.1) = false := by rfl) :
    PE X (.Call (.Attribute o "index" apos) [e] [] cpos) (tBM K "list" rIndexB to t) := by subst h; exact pe_bm PySem.F.plainAttrs_list PySem.F.slot_list_index PySem.F.type_list_index mt_indexB ho ha hbase hfew hline hs hplain
theorem pe_clearK (K : PySem.W.Frag) {to : TE} (ho : PE X o to) (h : X.K = K := by rfl) (hbase : attributeBase o "clear" X.env (eval o X.env) = eval o X.env := by rfl) (hline : (apos.endLine == cpos.line) = true := by rfl) :
    PE X (.Call (.Attribute o "clear" apos) [] [] cpos) (tBM0 K "list" rClear to) := by subst h; exact pe_bm0 PySem.F.plainAttrs_list PySem.F.slot_list_clear PySem.F.type_list_clear mt_clear ho hbase hline
end
end L2

namespace L2
open PySem PySem.Spec PyProof.Rows
section
variable {X : Cx}
end
end L2

namespace SortQ
open PySem PySem.W PySem.Spec PyProof.Rows SetP
section
variable {prog : Program} {w : World} {A : Around} {E : Value → Shared → Prop} {s : Shared}
end
end SortQ

namespace SortQ
open PySem PySem.W PySem.Spec PyProof.Rows SetP
/-! ### no two of these pairs have one hash -/
def h2 (x y : Nat) : Int := reduceHash (Builtin.Tuple.tupleHashOf [hashInt ((x : Nat) : Int), hashInt ((y : Nat) : Int)])
end SortQ
namespace L2
open PySem PySem.Spec PyProof.Rows SortQ SetP
def TpL (H : Hp) : List Addr → List (Nat × Nat) → Prop
  | [], [] => True
  | t :: ts, p :: ps => H t = some (.tup [.int (p.1 : Nat), .int (p.2 : Nat)]) ∧ TpL H ts ps
  | _, _ => False
theorem TpL.len {H : Hp} : ∀ {ts : List Addr} {ps : List (Nat × Nat)}, TpL H ts ps → ts.length = ps.length
  | [], [], _ => rfl
  | _ :: _, _ :: _, ⟨_, t⟩ => congrArg (· + 1) (TpL.len t)
  | [], _ :: _, h => h.elim
  | _ :: _, [], h => h.elim
theorem TpL.get {H : Hp} : ∀ {ts : List Addr} {ps : List (Nat × Nat)} {i : Nat} {t : Addr}, TpL H ts ps → ts[i]? = some t → ∃ p, ps[i]? = some p ∧ H t = some (.tup [.int (p.1 : Nat), .int (p.2 : Nat)])
  | [], [], i, t, _, h => by simp at h
  | t :: _, p :: _, 0, u, ⟨h, _⟩, e => ⟨p, rfl, by have : t = u := by simpa using e
                                                   rw [← this]; exact h⟩
  | _ :: _, _ :: _, i + 1, u, ⟨_, t⟩, e => by
    obtain ⟨p, h1, h2⟩ := TpL.get (i := i) t (by simpa using e)
    exact ⟨p, by simpa using h1, h2⟩
  | [], _ :: _, _, _, h, _ => h.elim
  | _ :: _, [], _, _, h, _ => h.elim
theorem TpL.of {H : Hp} : ∀ {M : List ((Nat × Nat) × Addr)}, (∀ q ∈ M, H q.2 = some (.tup [.int (q.1.1 : Nat), .int (q.1.2 : Nat)])) → TpL H (M.map (·.2)) (M.map (·.1))
  | [], _ => trivial
  | q :: M, h => ⟨h q List.mem_cons_self, TpL.of fun x hx => h x (List.mem_cons_of_mem _ hx)⟩
section
variable {X : Cx}
end
end L2

/-! ### sorted(d.items()) -/
namespace L2
open PySem PySem.W PySem.Spec PyProof.Rows SortQ SetP
/-- many new objects at once -/
theorem Inv.grow {X : Cx} {pins : List (Addr × Obj)} {σ : St} {H H' : Hp} {s : Shared} {h' : Heap} {t' : Nat} (I : Inv X pins σ H s) (k : ∀ b u, s.heap.get? b = some u → h'.get? b = some u)
    (ext : ∀ b u, H b = some u → H' b = some u) (free : ∀ b o, s.heap.get? b = some o → H b = none → H' b = none) (new : ∀ b u, H b = none → H' b = some u → ObjOk X.prog X.w H' h' b u) :
    Inv X pins σ H' { s with heap := h', toks := t' } := by
  refine I.un ⟨fun b o e _ _ _ => k b o e, fun b o e _ _ _ => ⟨o.slots, k b o e⟩, fun b o e n _ => free b o e n, fun b o e _ => ⟨o, k b o e⟩, fun b xs e => ext b _ e, fun b o u e => ext b _ e, fun b ps e => ⟨#[], by rw [ext b _ e]; simp⟩⟩ fun b u e => ?_
  cases q : H b with
  | none => exact new b u q e
  | some u' =>
    have z := ext b u' q
    rw [e] at z
    cases z
    exact (I.hok b u q).stay (fun c v _ z => k c v z) (fun c z => ext c _ z) fun c xs z => ext c _ z
section
variable {X : Cx} {pins : List (Addr × Obj)} {σ : St} {H : Hp} {s : Shared} {a v : Addr} {A : Around} {E : Value → Shared → Prop} {ps : List (Nat × Nat)}
theorem sl_listK (K : PySem.W.Frag) (h : X.K = K := by rfl) : SlR X (rSlL K) := by subst h; exact sl_list
end
end L2

/-! ### xs[::-1] -/
namespace L2
open PySem PySem.Spec PyProof.Rows
theorem filterMap_some {α β : Type} {f : α → Option β} {g : α → β} : ∀ {l : List α}, (∀ x ∈ l, f x = some (g x)) → l.filterMap f = l.map g
  | [], _ => rfl
  | x :: l, h => by rw [List.filterMap_cons, h x List.mem_cons_self, List.map_cons, filterMap_some fun y hy => h y (List.mem_cons_of_mem _ hy)]
theorem Vals.rev : ∀ {xs : List V} {us : List Value}, Vals xs us → Vals xs.reverse us.reverse
  | [], _, h => by cases h; exact .nil
  | x :: xs, _, h => by
    cases h with
    | cons p q =>
      rw [List.reverse_cons, List.reverse_cons]
      exact (Vals.rev q).append (.cons p .nil)
theorem rev_pick (its : List Value) : slicePick its.toArray none none (some (-1)) = its.reverse.toArray := by
  have hb : sliceBounds none none (some (-1)) its.toArray.size = ((its.length : Int) - 1, -1, -1) := by
    simp [sliceBounds]
  unfold slicePick
  rw [hb]
  have hr : sliceRange ((its.length : Int) - 1) (-1) (-1) = (List.range its.length).map fun k => its.length - 1 - k := by
    unfold sliceRange
    have h1 : ¬ ((-1 : Int) > 0) := by decide
    simp only [h1, if_false]
    by_cases h : its.length = 0
    · have h2 : ¬ ((its.length : Int) - 1 > -1) := by omega
      rw [if_neg h2, h]; rfl
    · have h2 : ((its.length : Int) - 1 > -1) := by omega
      rw [if_pos h2]
      have e : (((its.length : Int) - 1 - -1 - -1 - 1) / (- -1)).toNat = its.length := by
        have e1 : ((its.length : Int) - 1 - -1 - -1 - 1) = its.length := by omega
        rw [e1, show (- -1 : Int) = 1 by decide, Int.ediv_one, Int.toNat_natCast]
      rw [e]
      refine List.map_congr_left fun k hk => ?_
      have := List.mem_range.mp hk
      omega
  simp only [hr]
  congr 1
  have hm : ((List.range its.length).map fun k => its.length - 1 - k).filterMap (fun i => its.toArray[i]?) = its.reverse := by
    rw [List.filterMap_map]
    have : ∀ k ∈ List.range its.length, ((fun i => its.toArray[i]?) ∘ fun k => its.length - 1 - k) k = some ((its.reverse)[k]?.getD .none) := fun k hk => by
      have hk' := List.mem_range.mp hk
      have h2 : its.length - 1 - k < its.length := by omega
      have h3 : k < its.reverse.length := by rw [List.length_reverse]; exact hk'
      show its.toArray[its.length - 1 - k]? = _
      rw [List.getElem?_toArray, List.getElem?_eq_getElem h2, List.getElem?_eq_getElem h3, List.getElem_reverse]
      rfl
    rw [filterMap_some this]
    refine List.ext_getElem? fun i => ?_
    rw [List.getElem?_map]
    by_cases hi : i < its.length
    · have h3 : i < its.reverse.length := by rw [List.length_reverse]; exact hi
      rw [List.getElem?_range hi, List.getElem?_eq_getElem h3]
      simp [List.getElem?_eq_getElem h3]
    · rw [List.getElem?_eq_none (by rw [List.length_range]; omega), List.getElem?_eq_none (by rw [List.length_reverse]; omega)]
      rfl
  exact hm
section
variable {X : Cx} {e st : Expr} {te : TE} {ts : TO} {pos p2 : Pos}
def tRev (K : PySem.W.Frag) (te : TE) (ts : TO) : TE := fun σ H Q => te σ H fun x H1 => ts σ H1 fun o H2 => o = some (-1) ∧ ∃ a xs, x = .ref a ∧ SqL K H2 a xs ∧ ∀ p, H2 p = none → Q (.ref p) (upd H2 p (.lst xs.reverse))
theorem pe_rev (he : PE X e te) (hs : PO X (some st) ts) : PE X (.Subscript e (.Slice none none (some st) p2) pos) (tRev X.K te ts) := by
  intro pins s σ H Q I h
  refine Subscript_ (thn (he pins s σ H _ I h) fun v s1 ⟨x, H1, I1, r1, q1⟩ => ?_)
  refine wpAny_Slice ?_
  rw [evalPart_none]
  refine wpAny_pure (wpAny_pure ?_)
  refine thn (hs pins s1 σ H1 _ I1 q1) fun vs s3 ⟨o, H3, I3, po, q3⟩ => ?_
  obtain ⟨rfl, a, xs, rfl, hx, q⟩ := q3
  cases r1
  have I4 : Inv X pins σ H3 { s3 with heap := s3.heap.push { cls := .type "slice", data := .fields #[.none, .none, vs] } } := I3.kept (t' := s3.toks) fun b ob q => Heap.get?_push_of_some _ q
  show wpAny (model X.prog X.w) X.A (subscriptTail e (.Slice none none (some st) p2) (.ref a) (.ref s3.heap.objs.size)) (EP X pins σ Q) X.xe { s3 with heap := s3.heap.push { cls := .type "slice", data := .fields #[.none, .none, vs] } }
  obtain ⟨its, r, ht, hz⟩ := I4.list hx
  refine tail_any (ops := [.ref a, .ref s3.heap.objs.size]) ht.isList.typeIs slot_list_getitem.lookup ?_ (by with_unfolding_all rfl)
  refine wpAny_getItem_list_slice ht.isList (Heap.IsSliceOf.new ..) .none .none po (by decide) ?_ (by rw [List.size_toArray]; have := r.length; omega)
  rw [rev_pick]
  refine ⟨.ref _, _, I4.laid (t' := s3.toks) (o := .lst xs.reverse) (fun b ob q => Heap.get?_push_of_some _ q) (Nat.le_refl _) ?_, rfl, q _ (I4.hok.fresh (Nat.le_refl _))⟩
  exact ⟨by rw [List.length_reverse]; exact hz, _, 0, r.rev, Heap.get?_push_size _ rfl⟩
theorem pe_revK (K : PySem.W.Frag) (he : PE X e te) (hs : PO X (some st) ts) (h : X.K = K := by rfl) : PE X (.Subscript e (.Slice none none (some st) p2) pos) (tRev K te ts) := by subst h; exact pe_rev he hs
end
end L2

/-! ### the stations of an error whose context is none: the context stays none -/
namespace L2
open PySem
/-- the error's record, with no context -/
def NoCtx (e : Addr) (h : Heap) : Prop := ∃ oe vs, h.get? e = some oe ∧ oe.dict = none ∧ oe.data = .fields vs ∧ vs[2]? = some Value.none
theorem dict_map (f : Array Value → Array Value) (o : Obj) : (Obj.mapFields f o).dict = o.dict := by
  unfold Obj.mapFields
  split <;> rfl
/-- what stays on the way -/
structure Trk (base : Heap) (l : List Env) (e : Addr) (cls a0 : Value) (h0 h : Heap) : Prop where
  st : base.StaysIn h
  fr : h.FunFrames base l
  up : h0.UpToSlots h
  nw : base.get? e = none
  rc : ∃ oe vs, h.get? e = some oe ∧ oe.cls = cls ∧ oe.dict = none ∧ oe.data = .fields vs ∧ vs[0]? = some a0 ∧ vs[2]? = some Value.none
/-- the newest entry of its trace -/
def Tb (base : Heap) (e : Addr) (fl : Value) (h : Heap) : Prop :=
  ∃ oe vs T oT ts, h.get? e = some oe ∧ oe.data = .fields vs ∧ vs[1]? = some (Value.ref T) ∧ base.get? T = none ∧ T ≠ e ∧ h.get? T = some oT ∧ oT.data = .fields ts ∧ ts[3]? = some fl
section
variable {base : Heap} {l : List Env} {e : Addr} {cls a0 : Value} {h0 h h' : Heap}
theorem Trk.step (T : Trk base l e cls a0 h0 h) (hb : ∀ b o, base.get? b = some o → h.get? b = some o → h'.get? b = some o) (up : h.UpToSlots h')
    (re : ∃ oe vs, h'.get? e = some oe ∧ oe.cls = cls ∧ oe.dict = none ∧ oe.data = .fields vs ∧ vs[0]? = some a0 ∧ vs[2]? = some Value.none) : Trk base l e cls a0 h0 h' :=
  ⟨fun b o q => hb b o q (T.st b o q), T.fr.of_keeps fun b o q n => let ⟨_, z⟩ := up b o q n; ⟨_, z, rfl⟩, T.up.trans up, T.nw, re⟩
theorem Trk.slots (T : Trk base l e cls a0 h0 h) (hs : Heap.SlotsOnly (l.filterMap (·.frame)) h h') : Trk base l e cls a0 h0 h' := by
  obtain ⟨oe, vs, r1, r2, r0, r3, r4⟩ := T.rc
  refine T.step (fun b o q z => ?_) (fun b o q _ => hs.2.2 b o q) ⟨oe, vs, ?_, r2, r0, r3, r4⟩
  · rw [hs.2.1 b fun m => by rw [(T.fr.mem m).1] at q; cases q]; exact z
  · rw [hs.2.1 e fun m => ?_]; exact r1
    obtain ⟨_, o, z, nd⟩ := T.fr.mem m
    rw [r1] at z; cases z; exact nd vs r3
theorem Trk.push (T : Trk base l e cls a0 h0 h) (o : Obj) : Trk base l e cls a0 h0 (h.push o) := by
  obtain ⟨oe, vs, r1, r2⟩ := T.rc
  exact T.step (fun b o q z => Heap.get?_push_of_some _ z) (.of_keeps fun b o q => Heap.get?_push_of_some _ q) ⟨oe, vs, Heap.get?_push_of_some _ r1, r2⟩
theorem Trk.setE (T : Trk base l e cls a0 h0 h) (x : Value) : Trk base l e cls a0 h0 (h.update e (Obj.mapFields (·.setIfInBounds 1 x))) := by
  obtain ⟨oe, vs, r1, r2, r0, r3, r4, r5⟩ := T.rc
  have ot : ∀ b, b ≠ e → (h.update e (Obj.mapFields (·.setIfInBounds 1 x))).get? b = h.get? b := fun b n => Heap.get?_update_other _ _ (Ne.symm n)
  have d := Obj.data_mapFields r3 (·.setIfInBounds 1 x)
  refine T.step (fun b o q z => (ot b fun n => by rw [n, T.nw] at q; cases q).trans z) (fun b o q n => ⟨o.slots, (ot b fun z => ?_).trans q⟩) ⟨_, _, Heap.get?_update_self _ r1 (Obj.isFreed_of_fields d), (Obj.cls_mapFields _ _).trans r2, (dict_map _ _).trans r0, d, ?_, ?_⟩
  · rw [z, r1] at q; cases q; exact n vs r3
  · rw [Array.getElem?_setIfInBounds_ne (by decide)]; exact r4
  · rw [Array.getElem?_setIfInBounds_ne (by decide)]; exact r5
theorem Trk.setT {b : Addr} {ob : Obj} {ts : Array Value} (T : Trk base l e cls a0 h0 h) (hb : h.get? b = some ob) (hd : ob.data = .fields ts) (hn : base.get? b = none) (hne : b ≠ e) (x : Value) : Trk base l e cls a0 h0 (h.update b (Obj.mapFields (·.setIfInBounds 3 x))) := by
  obtain ⟨oe, vs, r1, r2⟩ := T.rc
  have ot : ∀ c, c ≠ b → (h.update b (Obj.mapFields (·.setIfInBounds 3 x))).get? c = h.get? c := fun c n => Heap.get?_update_other _ _ (Ne.symm n)
  refine T.step (fun c o q z => (ot c fun n => by rw [n, hn] at q; cases q).trans z) (fun c o q n => ⟨o.slots, (ot c fun z => ?_).trans q⟩) ⟨oe, vs, (ot e (Ne.symm hne)).trans r1, r2⟩
  rw [z, hb] at q; cases q; exact n ts hd
end
section
variable {M : Model} {A : Around} {E : Value → Shared → Prop} {s : Shared} {base : Heap} {env : Env} {outer : List Env} {L e : Addr} {cls a0 : Value} {h0 : Heap} {Q : Unit → Shared → Prop}
theorem entry_trk {head : Value} {had : Bool} (hfr : A.frames = some (env :: outer)) (hf : env.frame = some L) (T : Trk base (env :: outer) e cls a0 h0 s.heap)
    (k : ∀ h', Trk base (env :: outer) e cls a0 h0 h' → Tb base e (rawInt L) h' → Q () { s with heap := h' }) :
    wpAny M A (frameOf env >>= fun a => entryPlaceOf L had >>= fun pl => EntryCells.newEntry head a .none (rawInt L) .none pl >>= fun b => setField (.ref e) 1 b) Q E s := by
  refine wpAny_bind (wpAny_frameOf_fun hfr T.fr hf fun h1 s1 => ?_)
  have T1 := T.slots s1
  refine wpAny_bind (wpAny_entryPlaceOf fun pl hpl => wpAny_bind ?_)
  unfold EntryCells.newEntry newFields
  refine wpAny_newObj_type ?_ (hpl.sizeOk5 _ _ _ _ _)
  have T2 := T1.push { cls := .type "traceback", dict := none, data := .fields ([head, .ref L, .none, rawInt L, .none] ++ (if pl.isEmpty then List.replicate 6 Value.none else pl)).toArray }
  obtain ⟨oe, vs, r1, r2, r0, r3, r4, r5⟩ := T2.rc
  have z1 : 1 < vs.size := Nat.lt_trans (by decide) (Array.getElem?_eq_some_iff.mp r5).1
  refine wpAny_setField r1 r3 z1 (k _ (T2.setE _) ?_)
  have d := Obj.data_mapFields r3 (·.setIfInBounds 1 (Value.ref h1.objs.size))
  obtain ⟨oe', vs', r1', _⟩ := T1.rc
  have ne : h1.objs.size ≠ e := Nat.ne_of_gt (Heap.lt_size r1')
  refine ⟨_, _, h1.objs.size, _, _, Heap.get?_update_self _ r1 (Obj.isFreed_of_fields d), d, by simp [z1], T1.st.fresh, ne, (Heap.get?_update_other _ _ (Ne.symm ne)).trans (Heap.get?_push_size h1 rfl), rfl, ?_⟩
  first | (simp; done) | (rcases hpl with rfl | ⟨_, _, _, _, _, _, _, rfl⟩ <;> simp)
theorem note_first {oe : Obj} {vs : Array Value} (hfr : A.frames = some (env :: outer)) (hf : env.frame = some L) (T : Trk base (env :: outer) e cls a0 h0 s.heap) (h1 : s.heap.get? e = some oe) (h2 : oe.data = .fields vs) (h3 : vs[1]? = some Value.none)
    (k : ∀ h', Trk base (env :: outer) e cls a0 h0 h' → Tb base e (rawInt L) h' → Q () { s with heap := h' }) : wpAny M A (noteFrame (.ref e) env) Q E s := by
  unfold noteFrame
  simp only [hf]
  refine wpAny_bind (wpAny_field h1 h2 h3 ?_)
  rw [if_neg (by decide)]
  exact entry_trk hfr hf T k
theorem note_next (hfr : A.frames = some (env :: outer)) (hf : env.frame = some L) (T : Trk base (env :: outer) e cls a0 h0 s.heap) (B : Tb base e .none s.heap)
    (k : ∀ h', Trk base (env :: outer) e cls a0 h0 h' → Tb base e (rawInt L) h' → Q () { s with heap := h' }) : wpAny M A (noteFrame (.ref e) env) Q E s := by
  obtain ⟨oe, vs, t, ot, ts, h1, h2, h3, h4, h5, h6, h7, h8⟩ := B
  unfold noteFrame
  simp only [hf]
  refine wpAny_bind (wpAny_field h1 h2 h3 ?_)
  rw [if_pos (show (Value.ref t != Value.none) = true from by simp)]
  refine wpAny_bind (wpAny_field h6 h7 h8 ?_)
  rw [if_neg (show ¬ ((Value.none == rawInt L) = true) from by simp [rawInt])]
  refine wpAny_bind (wpAny_setField h6 h7 (Array.getElem?_eq_some_iff.mp h8).1 ?_)
  exact entry_trk (s := { s with heap := _ }) hfr hf (T.setT h6 h7 h4 h5 _) k
theorem flight_trk {l : List Env} {fl : Value} (T : Trk base l e cls a0 h0 s.heap) (B : Tb base e fl s.heap) (k : ∀ h', Trk base l e cls a0 h0 h' → Tb base e .none h' → Q () { s with heap := h' }) : wpAny M A (setFlight (.ref e) none) Q E s := by
  obtain ⟨oe, vs, t, ot, ts, h1, h2, h3, h4, h5, h6, h7, h8⟩ := B
  have z : 3 < ts.size := (Array.getElem?_eq_some_iff.mp h8).1
  have d := Obj.data_mapFields h7 (·.setIfInBounds 3 (Value.none))
  unfold setFlight
  refine wpAny_bind (wpAny_field h1 h2 h3 ?_)
  rw [if_pos (show (Value.ref t != Value.none) = true from by simp)]
  exact wpAny_setField h6 h7 z (k _ (T.setT h6 h7 h4 h5 _) ⟨oe, vs, t, _, _, (Heap.get?_update_other _ _ h5).trans h1, h2, h3, h4, h5, Heap.get?_update_self _ h6 (Obj.isFreed_of_fields d), d, by simp [z]⟩)
end
/-- an error on its way, with no context -/
def FlyX (base : Heap) (l : List Env) (e : Addr) (cls a0 : Value) (h : Heap) : Prop := Heap.FlyingW base l e cls a0 h ∧ NoCtx e h
section
variable {base h h0 : Heap} {l : List Env} {e : Addr} {cls a0 : Value}
theorem Trk.fly (T : Trk base l e cls a0 h0 h) (B : Tb base e .none h) : FlyX base l e cls a0 h := by
  obtain ⟨oe, vs, r1, r2, r0, r3, r4, r5⟩ := T.rc
  obtain ⟨oe', vs', t, ot, ts, h1, h2, h3, h4, h5, h6, h7, h8⟩ := B
  rw [r1] at h1; cases h1
  rw [r3] at h2; cases h2
  exact ⟨⟨T.st, T.nw, T.fr, oe, vs, t, ot, ts, r1, ⟨r2, r4⟩, r3, h3, h4, h5, h6, h7, h8⟩, oe, vs, r1, r0, r3, r5⟩
theorem FlyX.trk (F : FlyX base l e cls a0 h) : Trk base l e cls a0 h h ∧ Tb base e .none h := by
  obtain ⟨⟨f1, f2, f3, oe, vs, t, ot, ts, r1, ⟨r2, r4⟩, r3, h3, h4, h5, h6, h7, h8⟩, oe', vs', q1, q0, q2, q3⟩ := F
  rw [r1] at q1; cases q1
  rw [r3] at q2; cases q2
  exact ⟨⟨f1, f3, .refl _, f2, oe, vs, r1, r2, q0, r3, r4, q3⟩, oe, vs, t, ot, ts, r1, r3, h3, h4, h5, h6, h7, h8⟩
theorem Trk.out {env : Env} (T : Trk base (env :: l) e cls a0 h0 h) : Trk base l e cls a0 h0 h := ⟨T.st, T.fr.2.2, T.up, T.nw, T.rc⟩
end
section
variable {M : Model} {A : Around} {E : Value → Shared → Prop} {s : Shared} {base : Heap} {env : Env} {outer : List Env} {L e : Addr} {cls a0 : Value} {Q : Unit → Shared → Prop}
/-- it leaves the frame where it was made -/
theorem leaves_madeX {h : Heap} {args : List Value} (hfr : A.frames = some (env :: outer)) (hf : env.frame = some L) (hkb : base.StaysIn h) (hl : h.FunFrames base (env :: outer)) (hx : Heap.MadeExcOf h s.heap e cls args)
    (k : ∀ h' t, FlyX base outer e cls (.ref t) h' → s.heap.UpToSlots h' → Q () { s with heap := h' }) : wpAny M A (leaving env (.ref e)) Q E s := by
  obtain ⟨t, he, htn, ht⟩ := hx.there
  have fresh : base.get? e = none := by
    cases q : base.get? e with
    | none => rfl
    | some o => have z := hkb e o q; rw [hx.new] at z; cases z
  have T : Trk base (env :: outer) e cls (.ref t) s.heap s.heap := ⟨fun b o q => hx.keeps b o (hkb b o q), hl.of_keeps fun b o q _ => ⟨o, hx.keeps b o q, rfl⟩, .refl _, fresh, _, _, he, rfl, rfl, rfl, rfl, rfl⟩
  unfold leaving
  exact wpAny_bind (note_first hfr hf T he rfl rfl fun h1 T1 B1 => flight_trk (s := { s with heap := h1 }) T1 B1 fun h2 T2 B2 => k h2 t (T2.out.fly B2) T2.up)
/-- it is looked at where it is caught -/
theorem looks_onX (hfr : A.frames = some (env :: outer)) (hf : env.frame = some L) (F : FlyX base (env :: outer) e cls a0 s.heap) (k : ∀ h', FlyX base (env :: outer) e cls a0 h' → s.heap.UpToSlots h' → Q () { s with heap := h' }) :
    wpAny M A (noteFrame (.ref e) env) (fun _ s2 => wpAny M A (setFlight (.ref e) none) Q E s2) E s := by
  obtain ⟨T, B⟩ := F.trk
  exact note_next hfr hf T B fun h1 T1 B1 => flight_trk (s := { s with heap := h1 }) T1 B1 fun h2 T2 B2 => k h2 (T2.fly B2) T2.up
theorem lands_onX {l : List Env} (F : FlyX base l e cls a0 s.heap) (k : ∀ h', FlyX base l e cls a0 h' → s.heap.UpToSlots h' → Q () { s with heap := h' }) : wpAny M A (setFlight (.ref e) none) Q E s := by
  obtain ⟨T, B⟩ := F.trk
  exact flight_trk T B fun h2 T2 B2 => k h2 (T2.fly B2) T2.up
end
end L2

/-! ### raise C(..), C an own class of errors -/
namespace L2
open PySem PySem.Spec PyProof.Rows
/-- what a fragment tells of an own class of errors -/
theorem exc_obj {K : PySem.W.Frag} {h : Heap} {C : Addr} {bmB : List Value} {newId : String} (X : K.In h) (q : PySem.W.excIn K C bmB newId = true) :
    ∃ (bm : List Value) (N : Addr) (nm qn : Str) (bs : List Value) (hd : Bool) (sn : List Str) (sub : List Value) (ab : Bool) (col : Option Bool) (dd : Option Addr) (k0 k1 k2 k3 k5 : Option Value) (mN : Str → Option Value),
      h.get? C = some (excClassObj nm qn C N bs bm hd sn sub ab col dd k0 k1 k2 k3 k5 newId) ∧ h.Ns N mN ∧ mN "__init__" = none ∧ OwnTail h bmB bm := by
  unfold PySem.W.excIn at q
  split at q
  · rename_i dd cd sl lk
    split at q
    · rename_i D bm k0 k1 k2 k3 n k5 em es
      simp only [Bool.and_eq_true, beq_iff_eq, Bool.not_eq_true'] at q
      obtain ⟨⟨⟨⟨⟨e1, e2⟩, e3⟩, e4⟩, e5⟩, e6⟩ := q
      subst e1 e2
      obtain ⟨nm, bs, mro, ns, qn, hd, sn, sub, ab, col, del⟩ := cd
      dsimp only at em e3 e5 e6
      subst em e3
      have e7 : sl = #[k0, k1, k2, k3, some (.builtin n), k5] := by
        cases sl with
        | mk l => exact congrArg Array.mk es
      subst e7
      exact ⟨bm, ns, nm, qn, bs, hd, sn, sub, ab, col, dd, k0, k1, k2, k3, k5, h.nsMap ns, X _ _ lk, .of_isNs (PySem.W.isNs_of_in X e5), PySem.W.nsMap_none_of_in X e5 e6, PySem.W.tail_of_in X e4⟩
    · cases q
  · cases q
/-- an error raised here reaches what this body wants of exceptions -/
def RaisesX (X : Cx) (C : Addr) (W : Hp → Prop) : Prop :=
  ∀ (pins : List (Addr × Obj)) (σ : St) (H : Hp) (s : Shared) (e : Addr) (h' : Heap) (vs : List Value), Inv X pins σ H s → W H → Heap.MadeExcOf s.heap h' e (.ref C) vs → X.xe (.ref e) { s with heap := h' }
def tRaise (W : Hp → Prop) (t : TA) : TS := fun _ σ H => t σ H fun vs H1 => vs.length ≤ sizeLine ∧ W H1
section
variable {X : Cx} {C : Addr} {W : Hp → Prop} {B Bn newId nid initId inN : String} {bmB bmN : List Value}
theorem ps_raise {x : Str} {e : Expr} {es : List Expr} {t : TA} {np cpos pos : Pos} (hc : X.calm = true) (hg : Gl X x) (hm : X.mg x = some (.ref C)) (q : PySem.W.excIn X.K C bmB newId = true)
    (Fn : ExcBaseFacts Bn newId inN bmN) (hBn : bmB.contains (.type Bn) = true) (FB : ExcBaseFacts B nid initId bmB) (hx : RaisesX X C W) (ha : PA X (e :: es) t) (hdb : (x == ("__debug__" : Str)) = false := by decide)
    (he : starEach (e :: es) X.env = (false, eval e X.env) :: starEach es X.env := by rfl) (hpl : (backTo cpos (starEach es X.env)).any (·.1) = false := by rfl) :
    PS X (.Raise (some (.Call (.Name x np) (e :: es) [] cpos)) none pos) (tRaise W t) := by
  intro pins s σ H D I h
  obtain ⟨bm, N, nm, qn, bs, hd, sn, sub, ab, col, dd, k0, k1, k2, k3, k5, mN, hC, hN, hni, T⟩ := exc_obj I.mod.kin q
  have hp : (backTo cpos (starEach (e :: es) X.env)).any (·.1) = false := by
    rw [he]
    show (false || (backTo cpos (starEach es X.env)).any (·.1)) = false
    rw [hpl]; rfl
  refine wpAny_Raise_call_subU (C := C) (nm := nm) (q := qn) (N := N) (bs := bs) (bm := bm) (hdct := hd) (sn := sn) (sub := sub) (ab := ab) (col := col) (dd := dd) (k0 := k0) (k1 := k1) (k2 := k2) (k3 := k3) (k5 := k5)
    Fn hBn FB (mN := mN) (T.hasType FB.hasBase) (I.ok.hd hc) hp hni (ld_glob I hg hm ⟨rfl, ?_⟩ hdb)
  have ha' := ha cpos pins s σ H _ I h
  rw [he] at ha' ⊢
  refine Calls.evalArgs_plain (wpAny_mono ha' (fun us s2 z => ?_) fun _ _ y => y)
  obtain ⟨vs, H1, I1, r1, hl, hw⟩ := z
  exact ⟨rfl, by rw [← r1.length]; exact hl, I1.bk _ _ hC, hN.keeps I1.bk, T.keeps I1.bk, fun h' e' hm' => hx pins σ H1 s2 e' h' us I1 hw hm'⟩
end
end L2

/-! ### an error that leaves a def -/
namespace L2
open PySem PySem.Spec PyProof.Rows
/-- an error of the class at C, at a, is on its way through the frames of outer; H, s: ahead of the call; H', s': now. All but the frames and the error's own records lies in B, and stays -/
structure Fly (P : Program) (w : World) (outer : List Env) (H : Hp) (s : Shared) (a C : Addr) (H' : Hp) (s' : Shared) : Prop where
  os : s'.os = s.os
  bare : AllBare s'.gens
  way : ∃ (B : Heap) (t : Addr), (∀ b o, s.heap.get? b = some o → H b = none → b ∉ frs outer → B.get? b = some o) ∧ (∀ b o, s.heap.get? b = some o → b ∉ frs outer → ∃ o', B.get? b = some o') ∧ HOk P w H' B ∧ FlyX B outer a (.ref C) (.ref t) s'.heap
  slot : ∀ b o, s.heap.get? b = some o → b ∈ frs outer → ∃ sl, s'.heap.get? b = some { o with slots := sl }
  free : ∀ b o, s.heap.get? b = some o → H b = none → H' b = none
  tups : ∀ b xs, H b = some (.tup xs) → H' b = some (.tup xs)
  frzs : ∀ b o u, H b = some (.frz o u) → H' b = some (.frz o u)
  tbls : ∀ b ps, H b = some (.tbl ps) → ∃ more, H' b = some (.tbl (ps ++ more))
/-- how an own error lies behind a call: the wish is asked of its class and of the abstract heap -/
def CXE (P : Program) (w : World) : CXT := fun outer H s E e s' => ∃ (a C : Addr) (H' : Hp), e = .ref a ∧ Fly P w outer H s a C H' s' ∧ E e (some C) H'
section
variable {P : Program} {w : World} {K : PySem.W.Frag} {mg : Str → Option Value} {base : Heap} {N : List Str} {qual : Str} {scope : Scope} {f : Addr} {cd : Value} {A : Around} {outer : List Env} {s : Shared} {H : Hp} {E : XK} {C : Addr}
theorem raises_cx : RaisesX (cxOf (CXE P w) P w K mg base N qual scope f cd A outer s H E) C (fun H' => ∀ e, E e (some C) H') := by
  intro pins σ H' s2 e h' vs I hw hm
  have hfs : (cxOf (CXE P w) P w K mg base N qual scope f cd A outer s H E).fs = frs outer := rfl
  have hst : frs (cxOf (CXE P w) P w K mg base N qual scope f cd A outer s H E).stack = s.heap.objs.size :: frs outer := rfl
  have hbase : Un (frs outer) [] H H' s.heap s2.heap := I.base
  have hfr := I.stkFree
  have hfl := I.stack
  -- all but the frames
  have notin : ∀ b o, s.heap.get? b = some o → b ∉ frs outer → b ∉ frs (cxOf (CXE P w) P w K mg base N qual scope f cd A outer s H E).stack := fun b o q n z => by
    rw [hst] at z
    rcases List.mem_cons.mp z with z | z
    · exact absurd (Heap.lt_size q) (by rw [z]; exact Nat.lt_irrefl _)
    · exact n z
  have hok : HOk P w H' (PySem.W.hideAll s2.heap (frs (cxOf (CXE P w) P w K mg base N qual scope f cd A outer s H E).stack)) := fun b o q =>
    (I.hok b o q).stay (fun d u hd' r => PySem.W.hideAll_get _ r fun z => by
      have z' := hfr d z
      rcases hd' with e1 | e1
      · rw [e1, q] at z'; cases z'
      · rw [e1] at z'; cases z') (fun _ q => q) fun _ _ q => q
  have hin : ∀ env ∈ (cxOf (CXE P w) P w K mg base N qual scope f cd A outer s H E).stack, ∀ b, env.frame = some b → b ∈ frs (cxOf (CXE P w) P w K mg base N qual scope f cd A outer s H E).stack := fun env he b hb => List.mem_filterMap.mpr ⟨env, he, hb⟩
  refine leaves_madeX (base := PySem.W.hideAll s2.heap (frs (cxOf (CXE P w) P w K mg base N qual scope f cd A outer s H E).stack)) (h := s2.heap) I.ok.frames rfl (fun b o q => PySem.W.of_hideAll _ q) (PySem.W.funFrames_hide hfl hin) hm fun h2 t x1 x4 => ?_
  refine ⟨e, C, H', rfl, ⟨I.os, I.bare, ⟨_, t, fun b o q n z => PySem.W.hideAll_get _ (hbase.keep b o q n z (by simp)) (notin b o q z), fun b o q z => ?_, hok, x1⟩, fun b o q z => ?_, fun b o q n => hbase.free b o q n (by simp), hbase.tups, hbase.frzs, hbase.tbls⟩, hw _⟩
  · obtain ⟨o', r⟩ := hbase.there b o q (by simp)
    exact ⟨o', PySem.W.hideAll_get _ r (notin b o q z)⟩
  · have n0 : H b = none := I.ok.frf b z
    obtain ⟨sl, r⟩ := hbase.slot b o q n0 z (by simp)
    obtain ⟨_, o2, r2, nd⟩ := hfl.mem (show b ∈ List.filterMap _ _ by rw [show List.filterMap (fun e : Env => e.frame) (cxOf (CXE P w) P w K mg base N qual scope f cd A outer s H E).stack = s.heap.objs.size :: frs outer from hst]; exact List.mem_cons_of_mem _ z)
    rw [r] at r2
    cases r2
    obtain ⟨sl2, r3⟩ := x4 b _ (hm.keeps _ _ r) nd
    exact ⟨sl2, r3⟩
end
end L2
namespace L2
open PySem PySem.Spec PyProof.Rows
section
variable {P : Program} {w : World} {K : PySem.W.Frag} {mg : Str → Option Value} {base : Heap}
/-- THE RULE for a def that may raise an own error -/
theorem Fun.okE {x qual : Str} {st : Stmt} {f : Addr} {fd : FuncData} {N ps : List Str} {k : Nat} {sp : Sp} (F : Fun K x qual st f fd) (S : FnScope N ps (defScope st)) (len : ∀ vs H Q E, sp vs H Q E → vs.length = ps.length)
    (hbody : ∀ (cdv : Value) (A : Around) (outer : List Env) (s : Shared) (H : Hp) (vs : List V) (Q : VK) (E : XK), Room k (A.deeper (envOfC qual (defScope st) s.heap.objs.size f cdv)) → sp vs H Q E →
      ∃ t, PSs (cxOf (CXE P w) P w K mg base N qual (defScope st) f cdv A outer s H E) (defBody st) t ∧ t { nx := fun _ H' => Q .non H', rt := Q } (start N vs) H) : FnOk P w K mg base (CXE P w) (k + 1) f fd ps sp := by
  obtain ⟨oc, od, kV, doc, pm, an, cdv, ct, osl, rfl, lk, hcd⟩ := F.ex
  exact fn_of lk hcd S len fun A outer s H vs Q E hr hsp => hbody cdv A outer s H vs Q E hr hsp
end
end L2

/-! ### an error is caught by the name of an own class that it comes of -/
namespace L2
open PySem PySem.Spec PyProof.Rows
theorem excMatches_up {M : Model} {A : Around} {E : Value → Shared → Prop} {nm nm2 q q2 : Str} {C D N N2 : Addr} {bs bs2 bm bm2 : List Value} {hdct hdct2 : Bool} {sn sn2 : List Str} {sub sub2 : List Value} {ab ab2 : Bool} {col col2 : Option Bool} {dd dd2 : Option Addr} {k0 k1 k2 k3 k5 j0 j1 j2 j3 j5 : Option Value} {newId newId2 : String}
    {h : Heap} {g : Array GenState} {d : Drawn} {t : Nat} {os : OsState} {e : Addr} {oe : Obj} {Q : Bool → Shared → Prop}
    (hC : h.get? C = some (excClassObj nm q C N bs bm hdct sn sub ab col dd k0 k1 k2 k3 k5 newId)) (hD : h.get? D = some (excClassObj nm2 q2 D N2 bs2 bm2 hdct2 sn2 sub2 ab2 col2 dd2 j0 j1 j2 j3 j5 newId2)) (he : h.get? e = some oe) (hcls : oe.cls = .ref C)
    (hbase : bm2.contains (.type "BaseException") = true) (hup : (Value.ref C :: bm).contains (.ref D) = true) (hq : Q true ⟨h, g, d, t, os⟩) : wpAny M A (excMatches (.ref e) (.ref D)) Q E ⟨h, g, d, t, os⟩ := by
  have hB : (Value.ref D :: bm2).contains (.type "BaseException") = true := by rw [List.contains_cons, hbase, Bool.or_true]
  have f := tc_notTuple
  unfold excMatches
  repeat (first | (with_reducible refine wpAny_loadPart_at he ?_; rw [hcls]) | with_reducible refine wpAny_loadPart_at hD ?_ | (with_reducible refine wpAny_isSubtype_exc hD ?_; rw [hB]) | (with_reducible refine wpAny_isSubtype_exc hC ?_; rw [hup]) | wp_step)
  exact hq
end L2
namespace L2
open PySem PySem.Spec PyProof.Rows
section
variable {P : Program} {w : World} {outer : List Env} {H H' : Hp} {s s' : Shared} {a C : Addr}
theorem Fly.un (F : Fly P w outer H s a C H' s') : Un (frs outer) [] H H' s.heap s'.heap := by
  obtain ⟨B, t, w1, w2, hok, fly⟩ := F.way
  have st := fly.1.1
  refine ⟨fun b o q n z _ => st b o (w1 b o q n z), fun b o q n z _ => F.slot b o q z, fun b o q n _ => F.free b o q n, fun b o q _ => ?_, F.tups, F.frzs, F.tbls⟩
  by_cases z : b ∈ frs outer
  · obtain ⟨sl, r⟩ := F.slot b o q z
    exact ⟨_, r⟩
  · obtain ⟨o', r⟩ := w2 b o q z
    exact ⟨o', st b o' r⟩
theorem Fly.hok (F : Fly P w outer H s a C H' s') : HOk P w H' s'.heap := by
  obtain ⟨B, t, w1, w2, hok, fly⟩ := F.way
  exact hok.kept fly.1.1
/-- the body's state, at an error that came out of a call -/
theorem Fly.inv {X : Cx} {pins : List (Addr × Obj)} {σ : St} (I : Inv X pins σ H s) (F : Fly X.prog X.w X.stack H s a C H' s') : Inv X pins σ H' s' := by
  have un := F.un
  have hok := F.hok
  have bare := F.bare
  have os := F.os
  obtain ⟨hh, g, d, t, os'⟩ := s'
  obtain rfl : os' = s.os := os
  exact I.call (h' := hh) (g' := g) (d' := d) (t' := t) (ch := []) un hok bare (fun b z => absurd z (by simp))
theorem ObjOk.there {H : Hp} {h : Heap} {a : Addr} {o : HO} (x : ObjOk P w H h a o) : ∃ ob, h.get? a = some ob := by
  cases o with
  | lst xs => obtain ⟨_, _, _, _, e⟩ := x; exact ⟨_, e⟩
  | tup xs => obtain ⟨_, _, _, ob, e, _⟩ := x; exact ⟨_, e⟩
  | dK kvs => obtain ⟨_, _, _, _, ob, _, _, e, _⟩ := x; exact ⟨_, e⟩
  | dT kvs => obtain ⟨_, _, _, _, ob, _, _, e, _⟩ := x; exact ⟨_, e⟩
  | set S n => obtain ⟨ob, _, _, _, e, _⟩ := x; exact ⟨_, e⟩
  | ins C dx fs => obtain ⟨_, _, _, e, _⟩ := x; exact ⟨_, e⟩
  | own y => obtain ⟨_, e⟩ := x; exact ⟨_, e⟩
  | xd fs => obtain ⟨_, ⟨_, _, _, e, _⟩, _⟩ := x; exact ⟨_, e⟩
  | rng lo hi => obtain ⟨_, _, _, e⟩ := x; exact ⟨_, e⟩
  | frz ob u => obtain ⟨e, _⟩ := x; exact ⟨_, e⟩
  | tbl ps => exact ⟨_, (show h.get? a = some _ from x)⟩
  | met f y => exact ⟨_, (show h.get? a = some _ from x)⟩
  | ext φ => obtain ⟨_, ⟨_, e⟩, _⟩ := x; exact ⟨_, e⟩
/-- the error itself is none of the things that are told of -/
theorem Fly.new (F : Fly P w outer H s a C H' s') : H' a = none := by
  obtain ⟨B, t, w1, w2, hok, fly⟩ := F.way
  cases q : H' a with
  | none => rfl
  | some o =>
    obtain ⟨ob, e⟩ := ObjOk.there (hok a o q)
    rw [fly.1.2.1] at e
    cases e
/-- its heap changes, as it does where the error is looked at on its way -/
theorem Fly.on {h2 : Heap} (F : Fly P w outer H s a C H' s') (hw : ∀ B t, FlyX B outer a (.ref C) (.ref t) s'.heap → FlyX B outer a (.ref C) (.ref t) h2) (sm : s'.heap.UpToSlots h2) : Fly P w outer H s a C H' { s' with heap := h2 } := by
  obtain ⟨B, t, w1, w2, hok, fly⟩ := F.way
  refine ⟨F.os, F.bare, ⟨B, t, w1, w2, hok, hw B t fly⟩, fun b o q z => ?_, F.free, F.tups, F.frzs, F.tbls⟩
  obtain ⟨sl, r⟩ := F.slot b o q z
  obtain ⟨_, o2, r2, nd⟩ := fly.1.2.2.1.mem z
  rw [r] at r2
  cases r2
  obtain ⟨sl2, r3⟩ := sm b _ r nd
  exact ⟨sl2, r3⟩
end
end L2

/-! ### a def lets an error through -/
namespace L2
open PySem PySem.Spec PyProof.Rows
section
variable {P : Program} {w : World} {K : PySem.W.Frag} {mg : Str → Option Value} {base : Heap} {N : List Str} {qual : Str} {scope : Scope} {f : Addr} {cd : Value} {A : Around} {outer : List Env} {s : Shared} {H : Hp} {E E' : XK}
end
end L2

/-! ### names forgotten; an error that is told of -/
namespace L2
open PySem PySem.Spec PyProof.Rows
section
variable {X : Cx} {pins : List (Addr × Obj)} {σ : St} {H : Hp} {s : Shared}
/-- the names' values are forgotten: the frame's dict has changed -/
theorem Inv.forget {h' : Heap} {m' : Str → Option Value} {tk : Nat} (I : Inv X pins σ H s) (hn' : h'.Ns X.env.locals m') (hs : Heap.SameBut X.env.locals s.heap h') : Inv X pins (List.replicate X.N.length none) H { s with heap := h', toks := tk } := by
  have cne := I.cne
  have up : ∀ {b : Addr} {o : Obj}, X.s₀.heap.get? b = some o → b ≠ X.env.locals := fun e => Nat.ne_of_lt (Nat.lt_of_lt_of_le (Heap.lt_size e) I.ok.above)
  refine ⟨I.ok, I.os, I.bare, ⟨fun b o e n hb hx => ?_, fun b o e n hb hx => ?_, I.base.free, fun b o e hx => ?_, I.base.tups, I.base.frzs, I.base.tbls⟩, ⟨m', hn', fun j y v' e1 e2 e3 => ?_⟩, fun y c e => ?_, I.free, I.freeC, fun p hp => ?_, fun b ob e => ?_, by rw [List.length_replicate]⟩
  · exact (hs.2 b (up e)).trans (I.base.keep b o e n hb hx)
  · obtain ⟨sl, e1⟩ := I.base.slot b o e n hb hx
    exact ⟨sl, (hs.2 b (up e)).trans e1⟩
  · obtain ⟨o', e1⟩ := I.base.there b o e hx
    exact ⟨o', (hs.2 b (up e)).trans e1⟩
  · rw [List.getElem?_replicate] at e2
    split at e2 <;> cases e2
  · obtain ⟨w', z⟩ := I.cell y c e
    exact ⟨w', z.sameBut hs (cne y c e)⟩
  · obtain ⟨a, b, c, d⟩ := I.pin p hp
    exact ⟨(hs.2 _ c).trans a, b, c, d⟩
  · refine (I.hok b ob e).stay (fun c w' hc q => (hs.2 c ?_).trans q) (fun _ q => q) fun _ _ q => q
    rintro rfl
    rcases hc with hc | hc
    · rw [← hc, I.free] at e; cases e
    · rw [I.free] at hc; cases hc
end
/-- an error of the class at C, as a thing that is told of -/
def ErrO (a C : Addr) : HO := .ext fun h => ∃ oe vs, h.get? a = some oe ∧ oe.cls = .ref C ∧ oe.dict = none ∧ oe.data = .fields vs ∧ vs[2]? = some Value.none
section
variable {X : Cx} {pins : List (Addr × Obj)} {σ : St} {H H' : Hp} {s s' : Shared} {a C : Addr}
/-- the body's state at an error that came out of a call; the error is told of -/
theorem Fly.caught (I : Inv X pins σ H s) (F : Fly X.prog X.w X.stack H s a C H' s') : Inv X pins σ (upd H' a (ErrO a C)) s' := by
  have un := F.un
  have hok := F.hok
  have hnew := F.new
  obtain ⟨B, t, w1, w2, hokB, fly⟩ := F.way
  obtain ⟨oe, vs, he, hc, hd, _⟩ := fly.1.first
  obtain ⟨oe', vs', he2, hn2, hd2, hx2⟩ := fly.2
  obtain rfl := Option.some.inj (he.symm.trans he2)
  obtain rfl := Data.fields.inj (hd.symm.trans hd2)
  have olds : ∀ b o, s.heap.get? b = some o → b ≠ a := fun b o q z => by
    by_cases hf : b ∈ frs X.stack
    · obtain ⟨_, o2, r2, nd⟩ := fly.1.2.2.1.mem hf
      rw [z, he] at r2
      cases r2
      exact nd vs hd
    · obtain ⟨o', r⟩ := w2 b o q hf
      rw [z, fly.1.2.1] at r
      cases r
  have hoke : HOk X.prog X.w (upd H' a (ErrO a C)) s'.heap := fun b o q => by
    by_cases hb : b = a
    · subst hb
      rw [upd_same] at q
      cases q
      exact ⟨⟨oe, vs, he, hc, hn2, hd, hx2⟩, ⟨oe, he⟩, fun h1 h2 ⟨o1, v1, p1, p2, p3⟩ k => ⟨o1, v1, k _ p1, p2, p3⟩⟩
    · rw [upd_ne hb] at q
      exact (hok b o q).stay (fun c v _ r => r) (fun c r => by rw [upd_ne (ne_of_none r hnew)]; exact r) fun c xs r => by rw [upd_ne (ne_of_none r hnew)]; exact r
  have unE : Un (frs X.stack) [] H (upd H' a (ErrO a C)) s.heap s'.heap := ⟨un.keep, un.slot, fun b o q n z => by rw [upd_ne (olds b o q)]; exact un.free b o q n z, un.there, fun b xs q => by rw [upd_ne (ne_of_none (un.tups b xs q) hnew)]; exact un.tups b xs q, fun b o u q => by rw [upd_ne (ne_of_none (un.frzs b o u q) hnew)]; exact un.frzs b o u q, fun b ps q => by
    obtain ⟨m1, r⟩ := un.tbls b ps q
    exact ⟨m1, by rw [upd_ne (ne_of_none r hnew)]; exact r⟩⟩
  exact I.call' F.os unE hoke F.bare (fun b z => absurd z (by simp))
end
end L2

/-! ### except D as n: a suite that returns -/
namespace L2
open PySem PySem.Spec PyProof.Rows
/-- the context of an except suite: the error at a is handled; none leaves it -/
abbrev Cx.hand (X : Cx) (a : Addr) : Cx := { X with A := X.A.mark (some (.ref a)), calm := false, xe := fun _ _ => False }
section
variable {X : Cx} {pins : List (Addr × Obj)} {σ : St} {H H' : Hp} {s s' : Shared} {a C D : Addr}
theorem Inv.hand (I : Inv X pins σ H s) (a : Addr) : Inv (X.hand a) pins σ H s :=
  ⟨⟨I.ok.mod, I.ok.kind, I.ok.glob, I.ok.blt, I.ok.above, I.ok.inj, I.ok.has, I.ok.cab, (fun h => nomatch h), I.ok.frames, I.ok.stk, I.ok.exf, I.ok.bs, I.ok.bsz, I.ok.noex, I.ok.exfs, I.ok.funs, I.ok.frf⟩, I.os, I.bare, I.base, I.loc, I.cell, I.free, I.freeC, I.pin, I.hok, I.len⟩
theorem Inv.unhand (ok : X.Ok) (I : Inv (X.hand a) pins σ H s) : Inv X pins σ H s := ⟨ok, I.os, I.bare, I.base, I.loc, I.cell, I.free, I.freeC, I.pin, I.hok, I.len⟩
theorem up_of {K : PySem.W.Frag} {h : Heap} {nm qn : Str} {N : Addr} {bs bm : List Value} {hd : Bool} {sn : List Str} {sub : List Value} {ab : Bool} {col : Option Bool} {dd : Option Addr} {k0 k1 k2 k3 k5 : Option Value} {newId : String} (X : K.In h)
    (hC : h.get? C = some (excClassObj nm qn C N bs bm hd sn sub ab col dd k0 k1 k2 k3 k5 newId)) (u : PySem.W.mroIn K C (.ref D) = some true) : (Value.ref C :: bm).contains (.ref D) = true := by
  obtain ⟨cd, a, b⟩ := Option.bind_eq_some_iff.mp u
  unfold PySem.W.clsIn at a
  split at a
  · rename_i lk
    cases a
    cases (X _ _ lk).symm.trans hC
    split at b
    · cases b
    · exact Option.some.inj b
  · cases a
/-- the heap has changed as it does on an error's way -/
theorem Fly.at {outer : List Env} {P : Program} {w : World} {h2 B : Heap} {t : Addr} (F : Fly P w outer H s a C H' s') (w1 : ∀ b o, s.heap.get? b = some o → H b = none → b ∉ frs outer → B.get? b = some o) (w2 : ∀ b o, s.heap.get? b = some o → b ∉ frs outer → ∃ o', B.get? b = some o') (hok : HOk P w H' B)
    (f1 : FlyX B outer a (.ref C) (.ref t) s'.heap) (f2 : FlyX B outer a (.ref C) (.ref t) h2) (sm : s'.heap.UpToSlots h2) : Fly P w outer H s a C H' { s' with heap := h2 } := by
  refine ⟨F.os, F.bare, ⟨B, t, w1, w2, hok, f2⟩, fun b o q z => ?_, F.free, F.tups, F.frzs, F.tbls⟩
  obtain ⟨sl, r⟩ := F.slot b o q z
  obtain ⟨_, o2, r2, nd⟩ := f1.1.2.2.1.mem z
  rw [r] at r2
  cases r2
  obtain ⟨sl2, r3⟩ := sm b _ r nd
  exact ⟨sl2, r3⟩
theorem caught_as {E : Value → Shared → Prop} {D0 : Ends} {d n : Str} {i : Nat} {b0 : Stmt} {suite : List Stmt} {ts : TS} {np pos : Pos} {bmC bmD : List Value} {idC idD : String} {rest : List ExceptHandler}
    (hstk : X.stack = X.env :: X.outer) (hfrm : X.env.frame = some X.env.locals) (I : Inv X pins σ H s) (F : Fly X.prog X.w X.stack H s a C H' s') (hgD : Gl X d) (hmD : X.mg d = some (.ref D)) (qC : PySem.W.excIn X.K C bmC idC = true) (qD : PySem.W.excIn X.K D bmD idD = true)
    (hbD : bmD.contains (.type "BaseException") = true) (hup : PySem.W.mroIn X.K C (.ref D) = some true) (hN : X.N.Nodup) (hi : X.N[i]? = some n) (hloc : X.env.scope.names.lookup n = some .local) (hs : PSs (X.hand a) (b0 :: suite) ts)
    (ht : ts { nx := fun _ _ => False, rt := D0.rt } (σ.set i (some (.ref a))) (upd H' a (ErrO a C))) (hdb : (d == ("__debug__" : Str)) = false := by decide) :
    wpAny (model X.prog X.w) X.A (noteFrame (.ref a) X.env) (fun _ s2 => wpAny (model X.prog X.w) X.A (setFlight (.ref a) none) (fun _ s3 => wpAny (model X.prog X.w) X.A (handleBy (.ref a) X.env (.ExceptHandler (some (.Name d np)) (some n) (b0 :: suite) pos :: rest)) (SP X pins D0) E s3) E s2) E s' := by
  obtain ⟨B, t, w1, w2, hokB, fly⟩ := F.way
  have fly' := fly
  rw [hstk] at fly'
  refine looks_onX (by rw [I.ok.frames, hstk]) hfrm fly' fun h5 fly5 sm5 => ?_
  have fly5' := fly5
  rw [← hstk] at fly5'
  have F5 := F.at w1 w2 hokB fly fly5' sm5
  have I5 := F5.inv I
  obtain ⟨oe, vs, he, hc, hd, _⟩ := fly5.1.first
  obtain ⟨bm, N, nm, qn, bs, hdct, sn, sub, ab, col, dd, k0, k1, k2, k3, k5, mN, hC, _, _, TC⟩ := exc_obj I.mod.kin qC
  obtain ⟨bm2, N2, nm2, qn2, bs2, hdct2, sn2, sub2, ab2, col2, dd2, j0, j1, j2, j3, j5, mN2, hD, _, _, TD⟩ := exc_obj I.mod.kin qD
  refine wpAny_handleBy_cons (codeAny_handlers_test (ld_glob (X := X.hand a) (I5.hand a) hgD hmD ?_ hdb)) (by intro q; cases q)
  refine excMatches_up (h := h5) (g := s'.gens) (d := s'.drawn) (t := s'.toks) (os := s'.os) (I5.bk _ _ hC) (I5.bk _ _ hD) he hc (TD.hasType hbD) (up_of I.mod.kin hC hup) ?_
  refine codeAny_handlers_suite_as ?_
  refine lands_onX fly5 fun h6 fly6 sm6 => ?_
  have fly6' := fly6
  rw [← hstk] at fly6'
  have F6 := F.at w1 w2 hokB fly fly6' (sm5.trans sm6)
  have I6 := F6.caught I
  refine store_ok (X := X.hand a) (I6.hand a) hN hi (.inl hloc) (show RelV (.ref a) (.ref a) from rfl) (fun s7 I7 => ?_) (.inr hloc)
  refine wpAny_mono (hs pins s7 _ _ _ I7 ht) (fun f s8 h8 => ?_) fun _ _ z => False.elim z
  cases f with
  | ret u =>
    obtain ⟨v, σ', H2, I8, r, q⟩ := h8
    have J := I8.unhand I.ok
    obtain ⟨m, hn, _⟩ := id J.loc
    exact wpAny_nameGoes hloc hn (by rw [I.ok.kind]; rfl) fun h' m' hn' hs' => ⟨v, _, H2, J.forget hn' hs', r, q⟩
  | next => obtain ⟨_, _, _, q⟩ := h8; exact q.elim
  | brk => obtain ⟨_, _, _, q⟩ := h8; exact q.elim
  | cont => obtain ⟨_, _, _, q⟩ := h8; exact q.elim
end
end L2

/-! ### try: .. except D as n: a suite that returns -/
namespace L2
open PySem PySem.Spec PyProof.Rows
/-- the context of a try's body -/
abbrev Cx.trial (X : Cx) (pins : List (Addr × Obj)) (E : Value → Shared → Prop) : Cx := { X with pn := X.pn ++ pins, xe := E }
section
variable {X : Cx} {pins pins' : List (Addr × Obj)} {σ : St} {H : Hp} {s : Shared} {E : Value → Shared → Prop}
theorem Cx.Ok.untrial (ok : (X.trial pins E).Ok) : X.Ok := ⟨ok.mod, ok.kind, ok.glob, ok.blt, ok.above, ok.inj, ok.has, ok.cab, ok.hd, ok.frames, ok.stk, ok.exf, ok.bs, ok.bsz, ok.noex, ok.exfs, ok.funs, ok.frf⟩
theorem Inv.trial (I : Inv X pins σ H s) (E : Value → Shared → Prop) : Inv (X.trial pins E) [] σ H s :=
  ⟨⟨I.ok.mod, I.ok.kind, I.ok.glob, I.ok.blt, I.ok.above, I.ok.inj, I.ok.has, I.ok.cab, I.ok.hd, I.ok.frames, I.ok.stk, I.ok.exf, I.ok.bs, I.ok.bsz, I.ok.noex, I.ok.exfs, I.ok.funs, I.ok.frf⟩, I.os, I.bare, I.base, I.loc, I.cell, I.free, I.freeC, fun p hp => I.pin p (by simpa using hp), I.hok, I.len⟩
theorem Inv.untrial (I : Inv (X.trial pins E) pins' σ H s) : Inv X pins σ H s :=
  ⟨I.ok.untrial, I.os, I.bare, I.base, I.loc, I.cell, I.free, I.freeC, fun p hp => I.pin p (List.mem_append_left _ hp), I.hok, I.len⟩
/-- nothing is known of the names -/
theorem Inv.blank (I : Inv X pins σ H s) : Inv X pins (List.replicate X.N.length none) H s :=
  ⟨I.ok, I.os, I.bare, I.base, let ⟨m, hn, _⟩ := I.loc; ⟨m, hn, fun j y v e1 e2 e3 => by rw [List.getElem?_replicate] at e2; split at e2 <;> cases e2⟩, I.cell, I.free, I.freeC, I.pin, I.hok, by rw [List.length_replicate]⟩
end
/-- what is wanted of an error in a try's body: that the suite's reading holds, of an error of the class at C -/
def wishTry (X : Cx) (C : Addr) (i : Nat) (ts : Addr → TS) (R : VK) : XK := fun e Co H' => Co = some C ∧ ∀ a, e = .ref a → H' a = none → ts a { nx := fun _ _ => False, rt := R } ((List.replicate X.N.length none).set i (some (.ref a))) (upd H' a (ErrO a C))
section
variable {X : Cx} {C D : Addr}
theorem ps_try {d n : Str} {i : Nat} {b1 b0 : Stmt} {body suite : List Stmt} {tb : XK → TS} {ts : Addr → TS} {np hpos pos : Pos} {bmC bmD : List Value} {idC idD : String}
    (hstk : X.stack = X.env :: X.outer) (hfrm : X.env.frame = some X.env.locals) (hgD : Gl X d) (hmD : X.mg d = some (.ref D)) (qC : PySem.W.excIn X.K C bmC idC = true) (qD : PySem.W.excIn X.K D bmD idD = true)
    (hbD : bmD.contains (.type "BaseException") = true) (hup : PySem.W.mroIn X.K C (.ref D) = some true) (hN : X.N.Nodup) (hi : X.N[i]? = some n) (hloc : X.env.scope.names.lookup n = some .local) (hs : ∀ a, PSs (X.hand a) (b0 :: suite) (ts a))
    (hb : ∀ pins E Ew, Passes (CXE X.prog X.w) (X.trial pins E) Ew → PSs (X.trial pins E) (b1 :: body) (tb Ew)) (hdb : (d == ("__debug__" : Str)) = false := by decide) :
    PS X (.Try (b1 :: body) [.ExceptHandler (some (.Name d np)) (some n) (b0 :: suite) hpos] [] [] pos) (fun D0 σ H => tb (wishTry X C i ts D0.rt) D0 σ H) := by
  intro pins s σ H D0 I h
  refine wpAny_Try_except (wpAny_mono (hb pins (fun e s₁ => wpAny (model X.prog X.w) X.A (noteFrame e X.env) (fun _ s₂ => wpAny (model X.prog X.w) X.A (setFlight e none) (fun _ s₃ => wpAny (model X.prog X.w) X.A (handleBy e X.env [.ExceptHandler (some (.Name d np)) (some n) (b0 :: suite) hpos]) (SP X pins D0) X.xe s₃) X.xe s₂) X.xe s₁) _ ?_ [] s σ H D0 (I.trial _) h) (fun f s1 h1 => ?_) fun e s1 h1 => h1)
  · intro pins' σ' H1 s1 e s' I1 hx
    obtain ⟨a, C', H', rfl, F, hC', hw⟩ := hx
    cases hC'
    exact caught_as hstk hfrm I1.untrial.blank F hgD hmD qC qD hbD hup hN hi hloc (hs a) (hw a rfl F.new) hdb
  · cases f with
    | next =>
      obtain ⟨σ', H', J, q⟩ := h1
      exact wpAny_pure ⟨σ', H', J.untrial, q⟩
    | brk => obtain ⟨σ', H', J, q⟩ := h1; exact ⟨σ', H', J.untrial, q⟩
    | cont => obtain ⟨σ', H', J, q⟩ := h1; exact ⟨σ', H', J.untrial, q⟩
    | ret u => obtain ⟨v, σ', H', J, r, q⟩ := h1; exact ⟨v, σ', H', J.untrial, r, q⟩
end
end L2

/-! ### isinstance(error, C) of a caught error -/
namespace L2
open PySem PySem.Spec PyProof.Rows
/-- what the written part tells of an own class of errors -/
structure ErrTy (K : PySem.W.Frag) (C : Addr) : Prop where
  ga : PySem.W.findIn K (.ref C) "__getattribute__" = some (some (.builtin "BaseException.__getattribute__"))
  gh : PySem.W.findIn K (.ref C) "__getattr__" = some none
  mb : PySem.W.mroIn K C (.type "BaseException") = some true
  t : ClsTy K C
theorem ErrTy.c {K : PySem.W.Frag} {C : Addr} (t : ErrTy K C) : (PySem.W.clsIn K C).isSome = true := by
  have z := t.mb
  unfold PySem.W.mroIn at z
  cases e : PySem.W.clsIn K C with
  | none => rw [e] at z; cases z
  | some _ => rfl
theorem cls_none {K : PySem.W.Frag} {C : Addr} (t : ErrTy K C) : PySem.W.findObj K C none "__class__" = some (.bind (.builtin "getset_descriptor.__get__") (.builtin "object.__class__")) := by
  obtain ⟨cd, hc⟩ := Option.isSome_iff_exists.mp t.c
  unfold PySem.W.findObj
  rw [hc, Option.bind_some, t.t.a, Option.bind_some]
  simp [t.t.n, t.t.tk]
/-- error.__class__ -/
theorem err_cls {prog : Program} {w : World} {A : Around} {E : Value → Shared → Prop} {s : Shared} {K : PySem.W.Frag} {x C : Addr} {ox : Obj} {Q : Option Value → Shared → Prop} (t : ErrTy K C) (X : K.In s.heap) (I : PySem.W.InstAt s.heap x ox C none)
    (q : Q (some (.ref C)) { s with toks := s.toks + 1 }) : wpAny (model prog w) A (getAttr? (.ref x) "__class__") Q E s := by
  obtain ⟨hp, g, d, n, os⟩ := s
  have L0 := I.type (M := model prog w)
  have L1 := PySem.W.looks_findIn (M := model prog w) X t.ga
  have L2 := PySem.W.looks_findIn (M := model prog w) X t.gh
  have L3 := PySem.W.looks_find (M := model prog w) X I (cls_none t)
  have L4 := PySem.W.looks_mroIn (M := model prog w) X t.mb
  have fb := F.attr_ValueError.ga.bind (.ref x)
  have hk : builtinKind "BaseException.__getattribute__" = some .slot := by decide +kernel
  have hs : splitId "BaseException.__getattribute__" = some ("BaseException", "__getattribute__") := by decide +kernel
  have ha := F.args_bexc_ga (.ref x) (.str "__class__" n)
  unfold getAttr? getAttrBy? getAttrBy
  refine wpAny_bind (wpAny_mkText (wpAny_bind (wpAny_attempt (wpAny_holding (wpAny_bind (L0.at (wpAny_bind (L1.at ?_))))))))
  dsimp only
  rw [if_neg (by rw [show (Value.builtin "BaseException.__getattribute__" == Value.builtin "object.__getattribute__") = false from by decide +kernel, Bool.and_false]; exact Bool.false_ne_true)]
  unfold getAttrByItsOwn hookBefore
  refine wpAny_bind (L2.at ?_)
  refine wpAny_bind (wpAny_attempt (wpAny_holding ?_))
  unfold callGetattribute
  rw [if_neg (by decide +kernel)]
  unfold boundAndCalled
  refine wpAny_bind (wpAny_of_eq fb (wpAny_call (codeAny_call_builtin F.attr_ValueError.ga.plain F.entry_bexc_ga ?_)))
  have LI : PySem.W.Looks (model prog w) hp (isInstance (.ref x) (.type "BaseException")) true := L0.andThen L4
  simp only [checkBuiltinCall, hk, hs]
  show wpAny _ _ (isInstance (.ref x) (.type "BaseException") >>= _) _ _ _
  refine wpAny_bind (LI.at ?_)
  simp only [Bool.not_true, Bool.false_eq_true, if_false]
  refine wpAny_of_eq (a := ()) ha ?_
  unfold Builtin.«object.__getattribute__»
  refine wpAny_bind (wpAny_of_eq (a := (Value.ref x, [Value.str (Str.ofString "__class__") n])) rfl ?_)
  refine wpAny_bind (wpAny_of_eq (a := Str.ofString "__class__") rfl ?_)
  refine wpAny_bind (L0.at (wpAny_bind (L3.at ?_)))
  show wpAny _ _ (holding _ (call _ _) >>= _) _ _ _
  refine wpAny_bind (wpAny_holding (wpAny_call (PySem.W.class_get (s := ⟨hp, g, d, n + 1, os⟩) (ox := ox) (od := none) X I t.t.m ?_)))
  refine wpAny_pure ?_
  show wpAny _ _ (handedOut (.ref C)) _ _ _
  exact PySem.W.handed_on rfl (wpAny_pure q)
theorem kitx_err {K : PySem.W.Frag} {a C : Addr} (t : ErrTy K C) : PySem.W.KitX K (.ref a) (.ref C) (fun h => ∃ ox, PySem.W.InstAt h a ox C none) where
  ty := fun _ _ _ ⟨_, I⟩ => I.type
  it := fun M h X _ => by
    have z := t.c
    unfold PySem.W.clsIn at z
    split at z
    · rename_i ho
      intro A Q E s k q
      unfold isType loadHead
      exact wpAny_bind (wpAny_loadPart (k _ _ (X _ _ ho)) (wpAny_pure q))
    · cases z
  ne := fun h tp dd its n sl X htp => by
    have z := t.c
    refine Bool.eq_false_iff.mpr fun q => ?_
    obtain rfl : C = tp := Value.ref.inj (beq_iff_eq.mp q)
    unfold PySem.W.clsIn at z
    split at z
    · rename_i ho
      cases (X _ _ ho).symm.trans htp
    · cases z
  ca := fun X ⟨ox, I⟩ k => err_cls t X I k
/-- the asked class, as it is written -/
def askC (c : V) (v : Value) : Prop := (∃ n, c = .ty n ∧ v = .type n) ∨ ∃ D, c = .ref D ∧ v = .ref D
def rIsE (K : PySem.W.Frag) : List V → Hp → VK → Prop := fun xs H Q => ∃ a C c v b, xs = [.ref a, c] ∧ H a = some (ErrO a C) ∧ ErrTy K C ∧ askC c v ∧ PySem.W.kitOne K (.ref C) v = some b ∧ Q (.bl b) H
section
variable {X : Cx}
theorem call_isinstE : CallR X (.builtin "isinstance") (rIsE X.K) := by
  intro pins s σ H xs us Q I r h
  obtain ⟨a, C, c, v, b, rfl, he, t, ask, e, q⟩ := h
  obtain ⟨u, w, rfl, rx, rc⟩ := vals2 r
  cases (show u = Value.ref a from rx)
  have ew : w = v := by
    rcases ask with ⟨n, rfl, rfl⟩ | ⟨D, rfl, rfl⟩
    · exact rc
    · exact rc
  subst ew
  obtain ⟨⟨oe, vs, h1, h2, h3, h4, h5⟩, _, _⟩ := (show ObjOk X.prog X.w H s.heap a (ErrO a C) from I.hok a _ he)
  have ia : PySem.W.InstAt s.heap a oe C none := by
    obtain ⟨oc, od, odt, osl⟩ := oe
    dsimp only at h2 h3 h4
    subst h2 h3 h4
    exact ⟨h1, rfl, rfl, trivial⟩
  exact PySem.W.kia_one (kitx_err t) I.kIn ⟨oe, ia⟩ e (fun z => nomatch z) fun tk => ⟨.bl b, H, I.tok tk, rfl, q⟩
theorem call_isinstEK (K : PySem.W.Frag) (h : X.K = K := by rfl) : CallR X (.builtin "isinstance") (rIsE K) := by subst h; exact call_isinstE
end
end L2

/-! ### any(xs) where an error is handled -/
namespace L2
open PySem PySem.Spec PyProof.Rows
theorem entry_unchain : entryFor table "proto.unchain" = some Builtin.«proto.unchain» := entryFor_of_tree (by kernel_rfl)
section
variable {prog : Program} {w : World} {A : Around} {E : Value → Shared → Prop} {s : Shared}
/-- a new error is raised where the error at a, without a context, is handled -/
theorem raiseNew_h {α : Type} {a e : Addr} {ob oe : Obj} {vs ws : Array Value} {Q : α → Shared → Prop} (hh : A.handled = some (.ref a)) (hne : a ≠ e) (he : s.heap.get? e = some ob) (hd : ob.data = .fields ws) (hz : 2 < ws.size)
    (ha : s.heap.get? a = some oe) (hv : oe.data = .fields vs) (h2 : vs[2]? = some Value.none) (k : E (.ref e) { s with heap := s.heap.update e (Obj.mapFields (·.setIfInBounds 2 (.ref a))) }) : wpAny (model prog w) A (raiseNew (.ref e) : Sem α) Q E s := by
  unfold raiseNew
  refine wpAny_bind (wpAny_handled ?_)
  rw [hh]
  dsimp only
  rw [if_pos (show (Value.ref a != Value.ref e) = true from by simp [hne])]
  refine wpAny_bind (wpAny_holding (wpAny_runValue (codeAny_builtin entry_unchain ?_)))
  show wpAny _ _ (field (.ref a) 2 >>= _) _ _ s
  refine wpAny_bind (wpAny_field ha hv h2 ?_)
  rw [if_pos (by decide)]
  refine wpAny_bind (wpAny_pure (wpAny_pure ?_))
  show wpAny _ _ (setField (.ref e) 2 (.ref a) >>= _) _ _ s
  exact wpAny_bind (wpAny_setField he hd hz (wpAny_throw k))
/-- a list's walk ends where the error at a, without a context, is handled -/
theorem next_end_h {a it l : Addr} {i : Nat} {items : Array Value} {oe : Obj} {vs : Array Value} {Q : Option Value → Shared → Prop} (hh : A.handled = some (.ref a)) (hit : s.heap.IsListIter it l i) (hl : s.heap.IsList l items) (hx : items[i]? = none)
    (ha : s.heap.get? a = some oe) (he : oe.data = .fields vs) (h2 : vs[2]? = some Value.none) (hai : a ≠ it) (k : ∀ h', Heap.ExtBut it s.heap h' → Q none { s with heap := h' }) : wpAny (model prog w) A (pyNext (.ref it)) Q E s := by
  obtain ⟨o, ho, hc, hd⟩ := id hit
  obtain ⟨ol, hol, _, nl, hdl⟩ := hl
  unfold pyNext
  refine wpAny_bind (wpAny_attempt (wpAny_callSpecial?_slot (name := Str.ofString "__next__") hit.typeIs slot_listiter_next (wpAny_call_entry slot_listiter_next hit.typeIs entry_listiter_next ?_ (args_listiter_next _))))
  show wpAny _ _ (field (.ref it) 0 >>= _) _ _ s
  refine wpAny_bind (wpAny_field ho hd (x := .ref l) rfl ?_)
  show wpAny _ _ (if (Value.ref l == Value.none) = true then _ else _) _ _ s
  rw [if_neg (by exact Bool.false_ne_true)]
  show wpAny _ _ (field (.ref it) 1 >>= _) _ _ s
  refine wpAny_bind (wpAny_field ho hd (x := .int i 0) rfl ?_)
  show wpAny _ _ (seqItems? (.ref l) >>= _) _ _ s
  refine wpAny_bind (wpAny_seqItems hol hdl ?_)
  simp only [Int.toNat_natCast, hx]
  refine wpAny_bind (wpAny_rule (wpAny_bind (wpAny_setField ho hd (by simp) ?_)))
  refine wpAny_bind (m := newExc (.type "StopIteration") []) ?_
  unfold newExc newTuple
  refine wpAny_bind (wpAny_newObj_type ?_ (by size_fits))
  refine wpAny_bind (m := firstArgMember _ _) (wpAny_of_eq (a := Value.none) (by first | rfl | (simp only [firstArgMember]; rfl)) ?_)
  refine wpAny_newObj_type ?_ (by size_fits)
  have e1 : ∀ b o, b ≠ it → s.heap.get? b = some o → (((s.heap.update it (Obj.mapFields fun x => x.setIfInBounds 0 Value.none)).push { cls := .type "tuple", data := .seq #[] }).push { cls := .type "StopIteration", data := .fields (#[.ref (s.heap.update it (Obj.mapFields fun x => x.setIfInBounds 0 Value.none)).objs.size, .none, .none, .none, .bool false, .none] ++ ownMembersOf (.type "StopIteration") []) }).get? b = some o := fun b o n q =>
    Heap.get?_push_of_some _ (Heap.get?_push_of_some _ ((Heap.get?_update_other _ _ (Ne.symm n)).trans q))
  have lt := Heap.lt_size (Heap.get?_push_of_some (h := s.heap.update it (Obj.mapFields fun x => x.setIfInBounds 0 Value.none)) { cls := .type "tuple", data := .seq #[] } ((Heap.get?_update_other _ _ (Ne.symm hai)).trans ha))
  refine raiseNew_h (show A.in1.handled = some (.ref a) from hh) (Nat.ne_of_lt lt) (Heap.get?_push_size _ rfl) rfl (by simp [ownMembersOf]) (e1 a oe hai ha) he h2 ?_
  refine wpAny_bind (wpAny_isInstance (T := "StopIteration") (b := true) ⟨_, Heap.get?_update_self _ (Heap.get?_push_size _ rfl) rfl, rfl⟩ isSubtype_stop ?_)
  refine wpAny_pure (k _ fun b o n q => (Heap.get?_update_other _ _ fun z => ?_).trans (e1 b o n q))
  have l2 := Heap.lt_size (Heap.get?_push_of_some (h := s.heap.update it (Obj.mapFields fun x => x.setIfInBounds 0 Value.none)) { cls := .type "tuple", data := .seq #[] } ((Heap.get?_update_other _ _ (Ne.symm n)).trans q))
  exact Nat.lt_irrefl _ (z ▸ l2)
/-- a list's walk where the error at a, without a context, is handled -/
theorem walk_list_h {a I l : Addr} {oe : Obj} {vs : Array Value} (hh : A.handled = some (.ref a)) (hne : l ≠ I) (hai : a ≠ I) (hv : oe.data = .fields vs) (h2 : vs[2]? = some Value.none) (items : Array Value) :
    Walks prog w A I [I, l, a] [I] items.size (fun i v => items[i]? = some v) (fun i h => h.IsListIter I l i ∧ h.IsList l items ∧ h.get? a = some oe) where
  sub := fun b hb => by simp at hb; simp [hb]
  frame := fun _ _ _ st hk => ⟨st.1.at fun o e => hk I (by simp) o e, st.2.1.at fun o e => hk l (by simp) o e, hk a (by simp) oe st.2.2⟩
  item := fun i s Q E hi st hQ => wpAny_pyNext_list_item st.1 st.2.1 (x := items[i]) (by simp [hi]) fun h' it' hs =>
    hQ _ h' s.toks (by simp [hi]) ⟨it', st.2.1.extBut hs.extBut hne, hs.extBut a oe hai st.2.2⟩ fun b o hb e => hs.extBut b o (fun z => hb (by simp [z])) e
  done := fun s Q E st hQ => next_end_h hh st.1 st.2.1 (by simp) st.2.2 hv h2 hai fun h' he => hQ h' s.toks fun b o hb e => he b o (fun z => hb (by simp [z])) e
  self := fun _ _ _ _ st hQ => wpAny_pyIter_listiter st.1 hQ
end
section
variable {X : Cx}
def rAnyH (K : PySem.W.Frag) (a : Addr) : List V → Hp → VK → Prop := fun xs H Q => ∃ (p : Addr) (bs : List Bool) (C : Addr), xs = [.ref p] ∧ SqL K H p (bs.map V.bl) ∧ H a = some (ErrO a C) ∧ Q (.bl (bs.any id)) H
theorem call_anyH {a : Addr} (hh : X.A.handled = some (.ref a)) : CallR X (.builtin "any") (rAnyH X.K a) := by
  intro pins s σ H xs us Q I r h
  obtain ⟨p, bs, C, rfl, hq, he, q⟩ := h
  obtain ⟨u, rfl, rx⟩ := vals1 r
  cases rx
  obtain ⟨its, rv, pl, hz⟩ := I.list hq
  have hl := pl.isList
  have hlt : p < s.heap.objs.size := by obtain ⟨_, e, _⟩ := hl; exact Heap.lt_size e
  obtain ⟨⟨oe, vs, h1, h2, h3, h4, h5⟩, _, _⟩ := (show ObjOk X.prog X.w H s.heap a (ErrO a C) from I.hok a _ he)
  have hlen := rv.length
  rw [List.length_map] at hlen
  refine call_any_walk (wpAny_pyIter_list hl ?_)
  refine ⟨s.heap.objs.size, _, _, _, _, _, fun i => (bs[i]?).getD false, rfl, walk_list_h (A := X.A.in1) (oe := oe) (show X.A.handled = some (.ref a) from hh) (Nat.ne_of_lt hlt) (Nat.ne_of_lt (Heap.lt_size h1)) h4 h5 its.toArray, ⟨⟨_, Heap.get?_push_size _ rfl, rfl, rfl⟩, hl.push _, Heap.get?_push_of_some _ h1⟩, ?_, ?_⟩
  · intro i v s' Q' E' hP hQ
    have hP' : its[i]? = some v := by simpa using hP
    obtain ⟨b, e, rfl⟩ := vals_bl rv hP'
    dsimp only at hQ
    rw [e] at hQ
    exact wpAny_truthy_bool hQ
  · intro h' tk hk
    have I1 : Inv X pins σ H { s with heap := s.heap.push { cls := .type "list_iterator", data := .fields #[.ref p, .int 0 0] } } := I.kept (t' := s.toks) fun b o e => Heap.get?_push_of_some _ e
    obtain ⟨f0, f1, f2, f3, f4, f5⟩ := I.fpOk (b := s.heap.objs.size) (Nat.le_refl _) (I.hok.fresh (Nat.le_refl _))
    refine ⟨.bl (bs.any id), H, I1.turned (t' := tk) (it := s.heap.objs.size) (fun b o hb e => hk b o (by simpa using hb) e) f0 f1 f3 f4 f5, ?_, q⟩
    show Value.bool _ = Value.bool _
    rw [List.size_toArray, ← hlen, range_any]
theorem call_anyHK (K : PySem.W.Frag) {a : Addr} (hh : X.A.handled = some (.ref a)) (h : X.K = K := by rfl) : CallR X (.builtin "any") (rAnyH K a) := by subst h; exact call_anyH hh
end
end L2

namespace TC
/-! sets of columns as numbers -/
def Sb (a b : Nat) : Prop := a ||| b = b
instance (a b : Nat) : Decidable (Sb a b) := inferInstanceAs (Decidable (a ||| b = b))
theorem Sb.refl (a : Nat) : Sb a a := Nat.or_self a
theorem Sb.trans {a b c : Nat} (h : Sb a b) (k : Sb b c) : Sb a c := by
  unfold Sb at *
  rw [← k, ← Nat.or_assoc, h]
theorem Sb.left (a b : Nat) : Sb a (a ||| b) := by
  unfold Sb
  rw [← Nat.or_assoc, Nat.or_self]
theorem Sb.right (a b : Nat) : Sb b (a ||| b) := by
  unfold Sb
  rw [Nat.or_comm a b, ← Nat.or_assoc, Nat.or_self]
theorem Sb.le {a b : Nat} (h : Sb a b) : a ≤ b := by
  unfold Sb at h
  rw [← h]; exact Nat.left_le_or
theorem Sb.antisymm {a b : Nat} (h : Sb a b) (k : Sb b a) : a = b := Nat.le_antisymm h.le k.le
theorem Sb.or {a b c : Nat} (h : Sb a c) (k : Sb b c) : Sb (a ||| b) c := by
  unfold Sb at *
  rw [Nat.or_assoc, k, h]
theorem Sb.iff_bit {a b : Nat} : Sb a b ↔ ∀ i, a.testBit i = true → b.testBit i = true := by
  unfold Sb
  constructor
  · intro h i hi
    rw [← h, Nat.testBit_or, hi]; rfl
  · intro h
    apply Nat.eq_of_testBit_eq
    intro i
    rw [Nat.testBit_or]
    cases e : a.testBit i with
    | true => rw [h i e]; rfl
    | false => rfl
theorem sub_and {a b : Nat} : Sb a b ↔ b &&& a = a := by
  rw [Sb.iff_bit]
  constructor
  · intro h
    apply Nat.eq_of_testBit_eq
    intro i
    rw [Nat.testBit_and]
    cases e : a.testBit i with
    | true => rw [h i e]; rfl
    | false => rw [Bool.and_false]
  · intro h i hi
    rw [← h, Nat.testBit_and] at hi
    exact (Bool.and_eq_true _ _ ▸ hi).1

/-! one pass over the rules -/
def stp (s : Nat) (p : Nat × Nat) : Nat := if Sb p.1 s then s ||| p.2 else s
def pass (ps : List (Nat × Nat)) (s : Nat) : Nat := ps.foldl stp s
theorem stp_sub (s : Nat) (p : Nat × Nat) : Sb s (stp s p) := by
  unfold stp; split
  · exact Sb.left _ _
  · exact Sb.refl _
theorem pass_sub : ∀ (ps : List (Nat × Nat)) (s : Nat), Sb s (pass ps s)
  | [], s => Sb.refl s
  | p :: ps, s => (stp_sub s p).trans (pass_sub ps (stp s p))
theorem stp_lt {k s : Nat} {p : Nat × Nat} (hs : s < 2 ^ k) (hp : p.2 < 2 ^ k) : stp s p < 2 ^ k := by
  unfold stp; split
  · exact Nat.or_lt_two_pow hs hp
  · exact hs
theorem pass_lt {k : Nat} : ∀ {ps : List (Nat × Nat)} {s : Nat}, s < 2 ^ k → (∀ p ∈ ps, p.2 < 2 ^ k) → pass ps s < 2 ^ k
  | [], _, hs, _ => hs
  | p :: ps, s, hs, hp => pass_lt (ps := ps) (stp_lt hs (hp p List.mem_cons_self)) fun q hq => hp q (List.mem_cons_of_mem _ hq)
/-- a rule that has been used -/
def fired (s : Nat) (p : Nat × Nat) : Bool := decide (Sb p.1 s ∧ Sb p.2 s)
theorem fired_mono {s t : Nat} {p : Nat × Nat} (h : Sb s t) (f : fired s p = true) : fired t p = true := by
  unfold fired at *
  have := of_decide_eq_true f
  exact decide_eq_true ⟨this.1.trans h, this.2.trans h⟩
theorem pass_fires : ∀ (ps : List (Nat × Nat)) (s : Nat), pass ps s ≠ s → ∃ p ∈ ps, fired s p = false ∧ fired (pass ps s) p = true
  | [], s, h => absurd rfl h
  | p :: ps, s, h => by
    by_cases e : stp s p = s
    · have h2 : pass ps s ≠ s := by
        intro z; apply h; show pass ps (stp s p) = s; rw [e]; exact z
      obtain ⟨q, hq, f1, f2⟩ := pass_fires ps s h2
      refine ⟨q, List.mem_cons_of_mem _ hq, f1, ?_⟩
      show fired (pass ps (stp s p)) q = true
      rw [e]; exact f2
    · refine ⟨p, List.mem_cons_self, ?_, ?_⟩
      · unfold fired
        refine decide_eq_false ?_
        rintro ⟨a, b⟩
        apply e
        unfold stp; rw [if_pos a, Nat.or_comm]; exact b
      · refine fired_mono (pass_sub ps (stp s p)) ?_
        unfold fired
        unfold stp at e ⊢
        by_cases a : Sb p.1 s
        · rw [if_pos a] at e ⊢
          exact decide_eq_true ⟨a.trans (Sb.left _ _), Sb.right _ _⟩
        · rw [if_neg a] at e; exact absurd rfl e
theorem count_lt {α : Type} {f g : α → Bool} : ∀ (l : List α), (∀ x ∈ l, f x = true → g x = true) → (∃ x ∈ l, f x = false ∧ g x = true) → l.countP f < l.countP g
  | [], _, ⟨_, h, _⟩ => nomatch h
  | a :: l, hm, ⟨x, hx, hf, hg⟩ => by
    rw [List.countP_cons, List.countP_cons]
    have mono : l.countP f ≤ l.countP g := List.countP_mono_left fun y hy h => hm y (List.mem_cons_of_mem _ hy) h
    rcases List.mem_cons.mp hx with rfl | hx
    · rw [hf, hg]; simp; omega
    · have ih := count_lt l (fun y hy => hm y (List.mem_cons_of_mem _ hy)) ⟨x, hx, hf, hg⟩
      cases ha : f a with
      | true => rw [hm a List.mem_cons_self ha]; simp; omega
      | false => simp; omega
theorem pass_count {ps : List (Nat × Nat)} {s : Nat} (h : pass ps s ≠ s) : ps.countP (fired s) < ps.countP (fired (pass ps s)) :=
  count_lt ps (fun _ _ f => fired_mono (pass_sub ps s) f) (pass_fires ps s h)
def passN (ps : List (Nat × Nat)) : Nat → Nat → Nat
  | 0, s => s
  | n + 1, s => passN ps n (pass ps s)
theorem passN_succ (ps : List (Nat × Nat)) : ∀ (n s : Nat), passN ps (n + 1) s = pass ps (passN ps n s)
  | 0, _ => rfl
  | n + 1, s => by
    show passN ps (n + 1) (pass ps s) = pass ps (passN ps n (pass ps s))
    exact passN_succ ps n (pass ps s)
theorem passN_fix {ps : List (Nat × Nat)} {s : Nat} (h : pass ps s = s) : ∀ n, passN ps n s = s
  | 0 => rfl
  | n + 1 => by show passN ps n (pass ps s) = s; rw [h]; exact passN_fix h n
theorem passN_many (ps : List (Nat × Nat)) : ∀ (n s : Nat), pass ps (passN ps n s) ≠ passN ps n s → n < ps.countP (fired (passN ps (n + 1) s))
  | 0, s, h => Nat.lt_of_le_of_lt (Nat.zero_le _) (pass_count h)
  | n + 1, s, h => by
    have h0 : pass ps (passN ps n s) ≠ passN ps n s := by
      intro z
      apply h
      rw [passN_succ ps n s, z, z]
    have ih := passN_many ps n s h0
    have := pass_count h
    rw [passN_succ ps (n + 1) s]
    omega
/-- what a set tells: as many passes as there are rules -/
def cl (ps : List (Nat × Nat)) (s : Nat) : Nat := passN ps ps.length s
theorem cl_fix (ps : List (Nat × Nat)) (s : Nat) : pass ps (cl ps s) = cl ps s := by
  by_cases h : pass ps (cl ps s) = cl ps s
  · exact h
  · have h1 := passN_many ps ps.length s h
    have h2 : ps.countP (fired (passN ps (ps.length + 1) s)) ≤ ps.length := List.countP_le_length
    omega
theorem passN_add (ps : List (Nat × Nat)) : ∀ (a b s : Nat), passN ps (a + b) s = passN ps b (passN ps a s)
  | 0, b, s => by rw [Nat.zero_add]; rfl
  | a + 1, b, s => by
    rw [Nat.succ_add]
    exact passN_add ps a b (pass ps s)
theorem cl_of {ps : List (Nat × Nat)} {s : Nat} {j : Nat} (h : pass ps (passN ps j s) = passN ps j s) : passN ps j s = cl ps s := by
  unfold cl
  by_cases q : j ≤ ps.length
  · obtain ⟨b, e⟩ := Nat.exists_eq_add_of_le q
    rw [e, passN_add, passN_fix h]
  · obtain ⟨b, e⟩ := Nat.exists_eq_add_of_le (Nat.le_of_not_le q)
    rw [e, passN_add]
    exact passN_fix (cl_fix ps s) b
theorem passN_lt {k : Nat} {ps : List (Nat × Nat)} (hp : ∀ p ∈ ps, p.2 < 2 ^ k) : ∀ (n : Nat) {s : Nat}, s < 2 ^ k → passN ps n s < 2 ^ k
  | 0, _, hs => hs
  | n + 1, _, hs => passN_lt hp n (pass_lt hs hp)
theorem passN_sub (ps : List (Nat × Nat)) : ∀ (n s : Nat), Sb s (passN ps n s)
  | 0, s => Sb.refl s
  | n + 1, s => (pass_sub ps s).trans (passN_sub ps n (pass ps s))
end TC

namespace TC
theorem stp_mono {a b : Nat} (p : Nat × Nat) (h : Sb a b) : Sb (stp a p) (stp b p) := by
  unfold stp
  by_cases e : Sb p.1 a
  · rw [if_pos e, if_pos (e.trans h)]
    exact (h.trans (Sb.left _ _)).or (Sb.right _ _)
  · rw [if_neg e]
    exact h.trans (stp_sub b p)
theorem pass_mono : ∀ (ps : List (Nat × Nat)) {a b : Nat}, Sb a b → Sb (pass ps a) (pass ps b)
  | [], _, _, h => h
  | p :: ps, _, _, h => pass_mono ps (stp_mono p h)
theorem passN_mono (ps : List (Nat × Nat)) : ∀ (n : Nat) {a b : Nat}, Sb a b → Sb (passN ps n a) (passN ps n b)
  | 0, _, _, h => h
  | n + 1, _, _, h => passN_mono ps n (pass_mono ps h)
theorem cl_mono (ps : List (Nat × Nat)) {a b : Nat} (h : Sb a b) : Sb (cl ps a) (cl ps b) := passN_mono ps _ h
theorem cl_sub (ps : List (Nat × Nat)) (s : Nat) : Sb s (cl ps s) := passN_sub ps _ s
theorem cl_lt {k : Nat} {ps : List (Nat × Nat)} (hp : ∀ p ∈ ps, p.2 < 2 ^ k) {s : Nat} (hs : s < 2 ^ k) : cl ps s < 2 ^ k := passN_lt hp _ hs
theorem bit_lt {c s k : Nat} (hs : s < 2 ^ c) (h : s.testBit k = true) : k < c := by
  apply Decidable.byContradiction
  intro hn
  have : 2 ^ c ≤ 2 ^ k := Nat.pow_le_pow_right (by decide) (Nat.le_of_not_lt hn)
  rw [Nat.testBit_lt_two_pow (Nat.lt_of_lt_of_le hs this)] at h
  cases h
end TC

namespace TC
/-! closed sets, in general -/
def Cld (ps : List (Nat × Nat)) (X : Nat) : Prop := ∀ p ∈ ps, Sb p.1 X → Sb p.2 X
theorem stp_fix {X : Nat} {p : Nat × Nat} (h : Sb p.1 X → Sb p.2 X) : stp X p = X := by
  unfold stp
  by_cases e : Sb p.1 X
  · rw [if_pos e, Nat.or_comm]; exact h e
  · rw [if_neg e]
theorem pass_fix : ∀ {ps : List (Nat × Nat)} {X : Nat}, Cld ps X → pass ps X = X
  | [], _, _ => rfl
  | p :: ps, X, h => by
    show pass ps (stp X p) = X
    rw [stp_fix (h p List.mem_cons_self)]
    exact pass_fix fun q hq => h q (List.mem_cons_of_mem _ hq)
theorem fix_cld : ∀ {ps : List (Nat × Nat)} {X : Nat}, pass ps X = X → Cld ps X
  | [], _, _ => fun _ h => nomatch h
  | p :: ps, X, h => by
    have h' : pass ps (stp X p) = X := h
    have e : stp X p = X := Sb.antisymm (by have := pass_sub ps (stp X p); rwa [h'] at this) (stp_sub X p)
    rw [e] at h'
    intro q hq hs
    rcases List.mem_cons.mp hq with rfl | hq
    · unfold stp at e
      rw [if_pos hs] at e
      have := Sb.right X q.2
      rwa [e] at this
    · exact fix_cld h' q hq hs
theorem cl_cld (ps : List (Nat × Nat)) (s : Nat) : Cld ps (cl ps s) := fix_cld (cl_fix ps s)
theorem cl_of_cld {ps : List (Nat × Nat)} {X : Nat} (h : Cld ps X) : cl ps X = X := passN_fix (pass_fix h) _
theorem Sb.and {a b c : Nat} (h : Sb a b) (k : Sb a c) : Sb a (b &&& c) := Sb.iff_bit.mpr fun i hi => by
  rw [Nat.testBit_and, Sb.iff_bit.mp h i hi, Sb.iff_bit.mp k i hi]; rfl
theorem Sb.zero (a : Nat) : Sb 0 a := by unfold Sb; exact Nat.zero_or a
theorem Sb.lt {a b k : Nat} (h : Sb a b) (hb : b < 2 ^ k) : a < 2 ^ k := Nat.lt_of_le_of_lt h.le hb
/-! as many passes as columns do -/
end TC

namespace TC
/-! places of rules that lead somewhere -/
def leadN (ps : List (Nat × Nat)) : List Nat → Nat → Option Nat
  | [], k => some k
  | i :: is, k => match ps[i]? with
    | none => none
    | some p => if Sb p.1 k then leadN ps is (k ||| p.2) else none
theorem leadN_append (ps : List (Nat × Nat)) : ∀ (a b : List Nat) (k : Nat), leadN ps (a ++ b) k = (leadN ps a k).bind (leadN ps b)
  | [], b, k => rfl
  | i :: a, b, k => by
    show leadN ps (i :: (a ++ b)) k = _
    unfold leadN
    cases ps[i]? with
    | none => rfl
    | some p =>
      by_cases h : Sb p.1 k
      · simp only [if_pos h]; exact leadN_append ps a b _
      · simp only [if_neg h]; rfl
theorem leadN_take {ps : List (Nat × Nat)} {pl : List Nat} {i n k : Nat} (h : pl[i]? = some n) : leadN ps (pl.take (i + 1)) k = (leadN ps (pl.take i) k).bind (leadN ps [n]) := by
  rw [← leadN_append, List.take_add_one, h]; rfl
theorem leadN_none {ps : List (Nat × Nat)} {pl : List Nat} {i k : Nat} (h : leadN ps (pl.take i) k = none) : leadN ps pl k = none := by
  have : leadN ps (pl.take i ++ pl.drop i) k = none := by rw [leadN_append, h]; rfl
  rwa [List.take_append_drop] at this
theorem leadN_one_none {ps : List (Nat × Nat)} {n k : Nat} (h : ps[n]? = none) : leadN ps [n] k = none := by unfold leadN; rw [h]
theorem leadN_one_no {ps : List (Nat × Nat)} {n k : Nat} {p : Nat × Nat} (h : ps[n]? = some p) (hs : ¬ Sb p.1 k) : leadN ps [n] k = none := by unfold leadN; rw [h]; exact if_neg hs
theorem leadN_one {ps : List (Nat × Nat)} {n k : Nat} {p : Nat × Nat} (h : ps[n]? = some p) (hs : Sb p.1 k) : leadN ps [n] k = some (k ||| p.2) := by unfold leadN; rw [h]; exact if_pos hs
def leadB (ps : List (Nat × Nat)) (pl : List Nat) (l r : Nat) : Bool := match leadN ps pl l with
  | none => false
  | some k => decide (Sb r k)
theorem leadB_none {ps : List (Nat × Nat)} {pl : List Nat} {l r : Nat} (h : leadN ps pl l = none) : leadB ps pl l r = false := by unfold leadB; rw [h]
theorem leadB_some {ps : List (Nat × Nat)} {pl : List Nat} {l r k : Nat} (h : leadN ps pl l = some k) : leadB ps pl l r = decide (Sb r k) := by unfold leadB; rw [h]
theorem leadN_places {ps : List (Nat × Nat)} : ∀ {pl : List Nat} {l k : Nat}, leadN ps pl l = some k → ∀ i ∈ pl, i < ps.length
  | [], _, _, _ => fun _ h => nomatch h
  | i :: pl, l, k, h => by
    unfold leadN at h
    cases e : ps[i]? with
    | none => rw [e] at h; cases h
    | some p =>
      rw [e] at h
      simp only at h
      by_cases q : Sb p.1 l
      · rw [if_pos q] at h
        intro j hj
        rcases List.mem_cons.mp hj with rfl | hj
        · exact (List.getElem?_eq_some_iff.mp e).1
        · exact leadN_places h j hj
      · rw [if_neg q] at h; cases h
/-! a rule that brings more -/
def useful (k : Nat) (p : Nat × Nat) : Bool := decide (Sb p.1 k) && !decide (Sb p.2 k)
theorem first_true : ∀ (bs : List Bool), true ∈ bs → ∃ j : Nat, bs[j]? = some true ∧ ∀ m : Nat, m < j → bs[m]? = some false
  | [], h => nomatch h
  | true :: _, _ => ⟨0, rfl, fun m h => absurd h (Nat.not_lt_zero m)⟩
  | false :: bs, h => by
    obtain ⟨j, h1, h2⟩ := first_true bs (by simpa using h)
    refine ⟨j + 1, by simpa using h1, fun m hm => ?_⟩
    cases m with
    | zero => rfl
    | succ m => simpa using h2 m (by omega)
theorem useful_ex {ps : List (Nat × Nat)} {k r : Nat} (h : Sb r (cl ps k)) (hn : ¬ Sb r k) : true ∈ ps.map (useful k) := by
  by_cases e : ∃ p ∈ ps, useful k p = true
  · obtain ⟨p, hp, hu⟩ := e
    exact List.mem_map.mpr ⟨p, hp, hu⟩
  · exfalso
    apply hn
    have hc : Cld ps k := fun p hp hs => by
      by_cases q : Sb p.2 k
      · exact q
      · exact absurd ⟨p, hp, by unfold useful; rw [decide_eq_true hs, decide_eq_false q]; rfl⟩ e
    rwa [cl_of_cld hc] at h
theorem useful_iff {k : Nat} {p : Nat × Nat} (h : useful k p = true) : Sb p.1 k ∧ ¬ Sb p.2 k := by
  unfold useful at h
  rw [Bool.and_eq_true] at h
  exact ⟨of_decide_eq_true h.1, fun z => by have := h.2; rw [decide_eq_true z] at this; cases this⟩
theorem grows {k a : Nat} (h : ¬ Sb a k) : k < k ||| a := by
  rcases Nat.lt_or_eq_of_le (Nat.left_le_or (n := k) (m := a)) with q | q
  · exact q
  · exfalso; apply h; unfold Sb; rw [Nat.or_comm]; exact q.symm
end TC

namespace TC
/-! sheets and their steps -/
def rowOf (c s n : Nat) : List Nat := (List.range c).map fun j => if s.testBit j = true then 0 else n
theorem rowOf_len (c s n : Nat) : (rowOf c s n).length = c := by unfold rowOf; rw [List.length_map, List.length_range]
theorem rowOf_at {c s n j : Nat} (h : j < c) : (rowOf c s n).getD j 0 = if s.testBit j = true then 0 else n := by
  unfold rowOf
  simp [List.getD, List.getElem?_map, List.getElem?_range, h]
def low (a b v : Nat) : Nat := if v = a ∨ v = b then min a b else v
theorem low_le (a b v : Nat) : low a b v ≤ v := by
  unfold low
  split
  · rename_i h
    rcases h with rfl | rfl
    · exact Nat.min_le_left _ _
    · exact Nat.min_le_right _ _
  · exact Nat.le_refl _
def stepRow (c r : Nat) (f g row : List Nat) : List Nat := (List.range c).map fun j => if r.testBit j = true then low (f.getD j 0) (g.getD j 0) (row.getD j 0) else row.getD j 0
theorem stepRow_len (c r : Nat) (f g row : List Nat) : (stepRow c r f g row).length = c := by unfold stepRow; rw [List.length_map, List.length_range]
theorem stepRow_at {c r j : Nat} {f g row : List Nat} (h : j < c) : (stepRow c r f g row).getD j 0 = if r.testBit j = true then low (f.getD j 0) (g.getD j 0) (row.getD j 0) else row.getD j 0 := by
  unfold stepRow
  simp [List.getD, List.getElem?_map, List.getElem?_range, h]
theorem getD_out {row : List Nat} {j : Nat} (h : row.length ≤ j) : row.getD j 0 = 0 := by
  simp [List.getD, List.getElem?_eq_none h]
theorem stepRow_le {c r j : Nat} {f g row : List Nat} : (stepRow c r f g row).getD j 0 ≤ row.getD j 0 := by
  by_cases h : j < c
  · rw [stepRow_at h]
    split
    · exact low_le _ _ _
    · exact Nat.le_refl _
  · rw [getD_out (by rw [stepRow_len]; omega)]
    exact Nat.zero_le _
/-! alike in a set -/
def Lk (s : Nat) (x y : List Nat) : Prop := ∀ j, s.testBit j = true → x.getD j 0 = y.getD j 0
theorem Lk.or {a b : Nat} {x y : List Nat} (h : Lk a x y) (k : Lk b x y) : Lk (a ||| b) x y := fun j hj => by
  rw [Nat.testBit_or, Bool.or_eq_true] at hj
  rcases hj with e | e
  · exact h j e
  · exact k j e
theorem Lk.sub {a b : Nat} {x y : List Nat} (h : Lk b x y) (k : Sb a b) : Lk a x y := fun j hj => h j (Sb.iff_bit.mp k j hj)
theorem Lk.symm {a : Nat} {x y : List Nat} (h : Lk a x y) : Lk a y x := fun j hj => (h j hj).symm
theorem Lk.refl (a : Nat) (x : List Nat) : Lk a x x := fun _ _ => rfl
theorem Lk.trans {a : Nat} {x y z : List Nat} (h : Lk a x y) (k : Lk a y z) : Lk a x z := fun j hj => (h j hj).trans (k j hj)
/-! rows with 0 in a set -/
def Zer (s : Nat) (x : List Nat) : Prop := ∀ j, s.testBit j = true → x.getD j 0 = 0
theorem Zer.step {s c r : Nat} {f g x : List Nat} (h : Zer s x) : Zer s (stepRow c r f g x) := fun j hj => Nat.le_zero.mp (by have := h j hj; have := stepRow_le (c := c) (r := r) (j := j) (f := f) (g := g) (row := x); omega)
end TC

namespace K05
open PySem L2 TC
def top (i : Nat) : Stmt := PySem.Challenge.pw_tellscolumns_k05_whole_alike.main.body.getD i (.Pass ⟨0, 0, 0, 0⟩)
abbrev s_is_number : Stmt := top 13
abbrev s_is_list : Stmt := top 14
abbrev s_is_count : Stmt := top 15
abbrev s_all_columns : Stmt := top 16
abbrev s_is_set : Stmt := top 17
abbrev s_is_rule : Stmt := top 18
abbrev s_are_rules : Stmt := top 19
abbrev s_is_row : Stmt := top 20
abbrev s_is_table : Stmt := top 21
abbrev s_is_within : Stmt := top 22
abbrev s_cells : Stmt := top 23
abbrev s_keeps : Stmt := top 24
abbrev s_keeps_all : Stmt := top 25
abbrev s_row_of : Stmt := top 27
abbrev s_Steps_init : Stmt := inClass (top 33) 0
abbrev s_Rows_init : Stmt := inClass (top 34) 0
abbrev s_Alike_init : Stmt := inClass (top 35) 0
abbrev s_Alike_shows : Stmt := inClass (top 35) 1
abbrev s_Apart_init : Stmt := inClass (top 36) 0
abbrev s_Apart_shows : Stmt := inClass (top 36) 1
abbrev s_is_place : Stmt := top 39
abbrev s_lead : Stmt := top 40
abbrev s_all_lead : Stmt := top 41
abbrev s_break_alone : Stmt := top 42
abbrev s_Rules_init : Stmt := inClass (top 45) 0
abbrev s_Rules_rules : Stmt := inClass (top 45) 1
abbrev s_spread : Stmt := top 46
abbrev s_follows : Stmt := top 48
abbrev s_steps_to : Stmt := top 49
abbrev s_first_useful : Stmt := top 50
abbrev s_alike : Stmt := top 51
abbrev s_law_cell_at : Stmt := top 53
abbrev s_law_draw : Stmt := top 54
abbrev s_law_set : Stmt := top 55
abbrev s_law_pairs : Stmt := top 56
abbrev s_law_told : Stmt := top 57
abbrev s_law_like : Stmt := top 58
abbrev s_law_keeps : Stmt := top 59
abbrev s_law_numbers : Stmt := top 60
abbrev s_law_steps : Stmt := top 61
abbrev s_law_rows : Stmt := top 62
abbrev s_law_led : Stmt := top 63
abbrev s_law_right : Stmt := top 64
abbrev s_law_other : Stmt := top 65
abbrev s_law_unlike : Stmt := top 66
abbrev s_law : Stmt := top 67
theorem sc_is_number : FnScope ["value", "least", "most"] ["value", "least", "most"] (defScope s_is_number) := ⟨rfl, rfl, rfl, by decide +kernel, rfl, by decide +kernel, by decide +kernel⟩
theorem sc_is_list : FnScope ["value", "least", "most"] ["value", "least", "most"] (defScope s_is_list) := ⟨rfl, rfl, rfl, by decide +kernel, rfl, by decide +kernel, by decide +kernel⟩
theorem sc_is_count : FnScope ["columns"] ["columns"] (defScope s_is_count) := ⟨rfl, rfl, rfl, by decide +kernel, rfl, by decide +kernel, by decide +kernel⟩
theorem sc_all_columns : FnScope ["columns"] ["columns"] (defScope s_all_columns) := ⟨rfl, rfl, rfl, by decide +kernel, rfl, by decide +kernel, by decide +kernel⟩
theorem sc_is_set : FnScope ["value", "columns"] ["value", "columns"] (defScope s_is_set) := ⟨rfl, rfl, rfl, by decide +kernel, rfl, by decide +kernel, by decide +kernel⟩
theorem sc_is_rule : FnScope ["value", "columns"] ["value", "columns"] (defScope s_is_rule) := ⟨rfl, rfl, rfl, by decide +kernel, rfl, by decide +kernel, by decide +kernel⟩
theorem sc_are_rules : FnScope ["value", "columns"] ["value", "columns"] (defScope s_are_rules) := ⟨rfl, rfl, rfl, by decide +kernel, rfl, by decide +kernel, by decide +kernel⟩
theorem sc_is_row : FnScope ["value", "columns"] ["value", "columns"] (defScope s_is_row) := ⟨rfl, rfl, rfl, by decide +kernel, rfl, by decide +kernel, by decide +kernel⟩
theorem sc_is_table : FnScope ["value", "columns"] ["value", "columns"] (defScope s_is_table) := ⟨rfl, rfl, rfl, by decide +kernel, rfl, by decide +kernel, by decide +kernel⟩
theorem sc_is_within : FnScope ["some", "whole"] ["some", "whole"] (defScope s_is_within) := ⟨rfl, rfl, rfl, by decide +kernel, rfl, by decide +kernel, by decide +kernel⟩
theorem sc_cells : FnScope ["row", "some"] ["row", "some"] (defScope s_cells) := ⟨rfl, rfl, rfl, by decide +kernel, rfl, by decide +kernel, by decide +kernel⟩
theorem sc_keeps : FnScope ["table", "rule", "firsts", "row", "right"] ["table", "rule"] (defScope s_keeps) := ⟨rfl, rfl, rfl, by decide +kernel, rfl, by decide +kernel, by decide +kernel⟩
theorem sc_keeps_all : FnScope ["table", "pairs"] ["table", "pairs"] (defScope s_keeps_all) := ⟨rfl, rfl, rfl, by decide +kernel, rfl, by decide +kernel, by decide +kernel⟩
theorem sc_row_of : FnScope ["columns", "some", "number"] ["columns", "some", "number"] (defScope s_row_of) := ⟨rfl, rfl, rfl, by decide +kernel, rfl, by decide +kernel, by decide +kernel⟩
theorem sc_Steps_init : FnScope ["self", "places"] ["self", "places"] (defScope s_Steps_init) := ⟨rfl, rfl, rfl, by decide +kernel, rfl, by decide +kernel, by decide +kernel⟩
theorem sc_Rows_init : FnScope ["self", "one", "other"] ["self", "one", "other"] (defScope s_Rows_init) := ⟨rfl, rfl, rfl, by decide +kernel, rfl, by decide +kernel, by decide +kernel⟩
theorem sc_Alike_init : FnScope ["self", "there", "back"] ["self", "there", "back"] (defScope s_Alike_init) := ⟨rfl, rfl, rfl, by decide +kernel, rfl, by decide +kernel, by decide +kernel⟩
theorem sc_Alike_shows : FnScope ["self", "one", "other"] ["self", "one", "other"] (defScope s_Alike_shows) := ⟨rfl, rfl, rfl, by decide +kernel, rfl, by decide +kernel, by decide +kernel⟩
theorem sc_Apart_init : FnScope ["self", "side", "place", "one", "other"] ["self", "side", "place", "one", "other"] (defScope s_Apart_init) := ⟨rfl, rfl, rfl, by decide +kernel, rfl, by decide +kernel, by decide +kernel⟩
theorem sc_Apart_shows : FnScope ["self", "one", "other", "pairs", "kept"] ["self", "one", "other"] (defScope s_Apart_shows) := ⟨rfl, rfl, rfl, by decide +kernel, rfl, by decide +kernel, by decide +kernel⟩
theorem sc_is_place : FnScope ["value", "things"] ["value", "things"] (defScope s_is_place) := ⟨rfl, rfl, rfl, by decide +kernel, rfl, by decide +kernel, by decide +kernel⟩
theorem sc_lead : FnScope ["places", "rules", "left", "right", "pairs", "known", "place"] ["places", "rules", "left", "right"] (defScope s_lead) := ⟨rfl, rfl, rfl, by decide +kernel, rfl, by decide +kernel, by decide +kernel⟩
theorem sc_all_lead : FnScope ["lists", "rules", "others", "pairs"] ["lists", "rules", "others"] (defScope s_all_lead) := ⟨rfl, rfl, rfl, by decide +kernel, rfl, by decide +kernel, by decide +kernel⟩
theorem sc_break_alone : FnScope ["rows", "rules", "rule"] ["rows", "rules", "rule"] (defScope s_break_alone) := ⟨rfl, rfl, rfl, by decide +kernel, rfl, by decide +kernel, by decide +kernel⟩
theorem sc_Rules_init : FnScope ["self", "columns", "rules"] ["self", "columns", "rules"] (defScope s_Rules_init) := ⟨rfl, rfl, rfl, by decide +kernel, rfl, by decide +kernel, by decide +kernel⟩
theorem sc_Rules_rules : FnScope ["self"] ["self"] (defScope s_Rules_rules) := ⟨rfl, rfl, rfl, by decide +kernel, rfl, by decide +kernel, by decide +kernel⟩
theorem sc_spread : FnScope ["pairs", "some", "known", "before", "rule"] ["pairs", "some"] (defScope s_spread) := ⟨rfl, rfl, rfl, by decide +kernel, rfl, by decide +kernel, by decide +kernel⟩
theorem sc_follows : FnScope ["rules", "left", "right", "pairs", "known"] ["rules", "left", "right"] (defScope s_follows) := ⟨rfl, rfl, rfl, by decide +kernel, rfl, by decide +kernel, by decide +kernel⟩
theorem sc_steps_to : FnScope ["pairs", "left", "right", "known", "steps", "step"] ["pairs", "left", "right"] (defScope s_steps_to) := ⟨rfl, rfl, rfl, by decide +kernel, rfl, by decide +kernel, by decide +kernel⟩
theorem sc_first_useful : FnScope ["pairs", "known", "useful"] ["pairs", "known"] (defScope s_first_useful) := ⟨rfl, rfl, rfl, by decide +kernel, rfl, by decide +kernel, by decide +kernel⟩
theorem sc_alike : FnScope ["one", "other", "there", "back", "side", "answers", "place", "answer"] ["one", "other"] (defScope s_alike) := ⟨rfl, rfl, rfl, by decide +kernel, rfl, by decide +kernel, by decide +kernel⟩
theorem sc_law_cell_at : FnScope ["_law_script", "_law_k"] ["_law_script", "_law_k"] (defScope s_law_cell_at) := ⟨rfl, rfl, rfl, by decide +kernel, rfl, by decide +kernel, by decide +kernel⟩
theorem sc_law_draw : FnScope ["_law_cell", "_law_k", "_law_many", "_law_mixed"] ["_law_cell", "_law_k", "_law_many"] (defScope s_law_draw) := ⟨rfl, rfl, rfl, by decide +kernel, rfl, by decide +kernel, by decide +kernel⟩
theorem sc_law_set : FnScope ["_law_cell", "_law_columns", "_law_some", "_law_column"] ["_law_cell", "_law_columns"] (defScope s_law_set) := ⟨rfl, rfl, rfl, by decide +kernel, rfl, by decide +kernel, by decide +kernel⟩
theorem sc_law_pairs : FnScope ["_law_cell", "_law_columns", "_law_most", "_law_pairs_here", "_law_k", "_law_left", "_law_right_here"] ["_law_cell", "_law_columns", "_law_most"] (defScope s_law_pairs) := ⟨rfl, rfl, rfl, by decide +kernel, rfl, by decide +kernel, by decide +kernel⟩
theorem sc_law_told : FnScope ["_law_pairs_here", "_law_some", "_law_now", "_law_turn", "_law_left", "_law_right_here"] ["_law_pairs_here", "_law_some"] (defScope s_law_told) := ⟨rfl, rfl, rfl, by decide +kernel, rfl, by decide +kernel, by decide +kernel⟩
theorem sc_law_like : FnScope ["_law_one", "_law_other_here", "_law_some", "_law_column"] ["_law_one", "_law_other_here", "_law_some"] (defScope s_law_like) := ⟨rfl, rfl, rfl, by decide +kernel, rfl, by decide +kernel, by decide +kernel⟩
theorem sc_law_keeps : FnScope ["_law_table", "_law_rule", "_law_one", "_law_other_here"] ["_law_table", "_law_rule"] (defScope s_law_keeps) := ⟨rfl, rfl, rfl, by decide +kernel, rfl, by decide +kernel, by decide +kernel⟩
theorem sc_law_numbers : FnScope ["_law_found", "_law_most"] ["_law_found", "_law_most"] (defScope s_law_numbers) := ⟨rfl, rfl, rfl, by decide +kernel, rfl, by decide +kernel, by decide +kernel⟩
theorem sc_law_steps : FnScope ["_law_pairs_here", "_law_left", "_law_right_here", "_law_places", "_law_now", "_law_place"] ["_law_pairs_here", "_law_left", "_law_right_here", "_law_places"] (defScope s_law_steps) := ⟨rfl, rfl, rfl, by decide +kernel, rfl, by decide +kernel, by decide +kernel⟩
theorem sc_law_rows : FnScope ["_law_pairs_here", "_law_columns", "_law_left", "_law_right_here", "_law_one", "_law_other_here"] ["_law_pairs_here", "_law_columns", "_law_left", "_law_right_here", "_law_one", "_law_other_here"] (defScope s_law_rows) := ⟨rfl, rfl, rfl, by decide +kernel, rfl, by decide +kernel, by decide +kernel⟩
theorem sc_law_led : FnScope ["_law_pairs_here", "_law_others", "_law_lists"] ["_law_pairs_here", "_law_others", "_law_lists"] (defScope s_law_led) := ⟨rfl, rfl, rfl, by decide +kernel, rfl, by decide +kernel, by decide +kernel⟩
theorem sc_law_right : FnScope ["_law_pairs_here", "_law_others", "_law_columns", "_law_found", "_law_kinds", "_law_left", "_law_right_here"] ["_law_pairs_here", "_law_others", "_law_columns", "_law_found"] (defScope s_law_right) := ⟨rfl, rfl, rfl, by decide +kernel, rfl, by decide +kernel, by decide +kernel⟩
theorem sc_law_other : FnScope ["_law_pairs_here", "_law_columns", "_law_cell", "_law_kind", "_law_at", "_law_some"] ["_law_pairs_here", "_law_columns", "_law_cell"] (defScope s_law_other) := ⟨rfl, rfl, rfl, by decide +kernel, rfl, by decide +kernel, by decide +kernel⟩
theorem sc_law_unlike : FnScope ["_law_one", "_law_other_here", "error", "_law_others"] ["_law_one", "_law_other_here"] (defScope s_law_unlike) := ⟨rfl, rfl, rfl, by decide +kernel, rfl, by decide +kernel, by decide +kernel⟩
theorem sc_law : FnScope ["_law_script", "_law_columns", "_law_pairs_here", "_law_others", "_law_one", "_law_other_here", "_law_again", "_law_found"] ["_law_script"] (defScope s_law) := ⟨rfl, rfl, rfl, by decide +kernel, rfl, by decide +kernel, by decide +kernel⟩
theorem bt_ValueError : bootBuiltins "ValueError" = some (.type "ValueError") := by decide +kernel
theorem bt_all : bootBuiltins "all" = some (.builtin "all") := by decide +kernel
theorem bt_any : bootBuiltins "any" = some (.builtin "any") := by decide +kernel
theorem bt_bool : bootBuiltins "bool" = some (.type "bool") := by decide +kernel
theorem bt_enumerate : bootBuiltins "enumerate" = some (.type "enumerate") := by decide +kernel
theorem bt_int : bootBuiltins "int" = some (.type "int") := by decide +kernel
theorem bt_isinstance : bootBuiltins "isinstance" = some (.builtin "isinstance") := by decide +kernel
theorem bt_len : bootBuiltins "len" = some (.builtin "len") := by decide +kernel
theorem bt_list : bootBuiltins "list" = some (.type "list") := by decide +kernel
theorem bt_tuple : bootBuiltins "tuple" = some (.type "tuple") := by decide +kernel
theorem bt_zip : bootBuiltins "zip" = some (.type "zip") := by decide +kernel
structure Adr where
  f_is_number : Addr
  d_is_number : FuncData
  f_is_list : Addr
  d_is_list : FuncData
  f_is_count : Addr
  d_is_count : FuncData
  f_all_columns : Addr
  d_all_columns : FuncData
  f_is_set : Addr
  d_is_set : FuncData
  f_is_rule : Addr
  d_is_rule : FuncData
  f_are_rules : Addr
  d_are_rules : FuncData
  f_is_row : Addr
  d_is_row : FuncData
  f_is_table : Addr
  d_is_table : FuncData
  f_is_within : Addr
  d_is_within : FuncData
  f_cells : Addr
  d_cells : FuncData
  f_keeps : Addr
  d_keeps : FuncData
  f_keeps_all : Addr
  d_keeps_all : FuncData
  f_row_of : Addr
  d_row_of : FuncData
  f_Steps_init : Addr
  d_Steps_init : FuncData
  f_Rows_init : Addr
  d_Rows_init : FuncData
  f_Alike_init : Addr
  d_Alike_init : FuncData
  f_Alike_shows : Addr
  d_Alike_shows : FuncData
  f_Apart_init : Addr
  d_Apart_init : FuncData
  f_Apart_shows : Addr
  d_Apart_shows : FuncData
  f_is_place : Addr
  d_is_place : FuncData
  f_lead : Addr
  d_lead : FuncData
  f_all_lead : Addr
  d_all_lead : FuncData
  f_break_alone : Addr
  d_break_alone : FuncData
  f_Rules_init : Addr
  d_Rules_init : FuncData
  f_Rules_rules : Addr
  d_Rules_rules : FuncData
  f_spread : Addr
  d_spread : FuncData
  f_follows : Addr
  d_follows : FuncData
  f_steps_to : Addr
  d_steps_to : FuncData
  f_first_useful : Addr
  d_first_useful : FuncData
  f_alike : Addr
  d_alike : FuncData
  f_law_cell_at : Addr
  d_law_cell_at : FuncData
  f_law_draw : Addr
  d_law_draw : FuncData
  f_law_set : Addr
  d_law_set : FuncData
  f_law_pairs : Addr
  d_law_pairs : FuncData
  f_law_told : Addr
  d_law_told : FuncData
  f_law_like : Addr
  d_law_like : FuncData
  f_law_keeps : Addr
  d_law_keeps : FuncData
  f_law_numbers : Addr
  d_law_numbers : FuncData
  f_law_steps : Addr
  d_law_steps : FuncData
  f_law_rows : Addr
  d_law_rows : FuncData
  f_law_led : Addr
  d_law_led : FuncData
  f_law_right : Addr
  d_law_right : FuncData
  f_law_other : Addr
  d_law_other : FuncData
  f_law_unlike : Addr
  d_law_unlike : FuncData
  f_law : Addr
  d_law : FuncData
  c_Steps : Addr
  c_Rows : Addr
  c_Alike : Addr
  c_Apart : Addr
  c_Rules : Addr
  c_Back : Addr
  c_Lost : Addr
  c_Answer : Addr
  c_BadRules : Addr
  c_BadSet : Addr
  c_BadParts : Addr
  c_Unlike : Addr
  c_BadTable : Addr
  c_BadText : Addr
  c_TellError : Addr
structure Txt (K : PySem.W.Frag) (mg : Str → Option Value) (A : Adr) : Prop where
  F_is_number : Fun K "is_number" "is_number" s_is_number A.f_is_number A.d_is_number
  b_is_number : Binds K A.d_is_number ["value", "least", "most"] []
  m_is_number : mg "is_number" = some (.ref A.f_is_number)
  F_is_list : Fun K "is_list" "is_list" s_is_list A.f_is_list A.d_is_list
  b_is_list : Binds K A.d_is_list ["value", "least", "most"] []
  m_is_list : mg "is_list" = some (.ref A.f_is_list)
  F_is_count : Fun K "is_count" "is_count" s_is_count A.f_is_count A.d_is_count
  b_is_count : Binds K A.d_is_count ["columns"] []
  m_is_count : mg "is_count" = some (.ref A.f_is_count)
  F_all_columns : Fun K "all_columns" "all_columns" s_all_columns A.f_all_columns A.d_all_columns
  b_all_columns : Binds K A.d_all_columns ["columns"] []
  m_all_columns : mg "all_columns" = some (.ref A.f_all_columns)
  F_is_set : Fun K "is_set" "is_set" s_is_set A.f_is_set A.d_is_set
  b_is_set : Binds K A.d_is_set ["value", "columns"] []
  m_is_set : mg "is_set" = some (.ref A.f_is_set)
  F_is_rule : Fun K "is_rule" "is_rule" s_is_rule A.f_is_rule A.d_is_rule
  b_is_rule : Binds K A.d_is_rule ["value", "columns"] []
  m_is_rule : mg "is_rule" = some (.ref A.f_is_rule)
  F_are_rules : Fun K "are_rules" "are_rules" s_are_rules A.f_are_rules A.d_are_rules
  b_are_rules : Binds K A.d_are_rules ["value", "columns"] []
  m_are_rules : mg "are_rules" = some (.ref A.f_are_rules)
  F_is_row : Fun K "is_row" "is_row" s_is_row A.f_is_row A.d_is_row
  b_is_row : Binds K A.d_is_row ["value", "columns"] []
  m_is_row : mg "is_row" = some (.ref A.f_is_row)
  F_is_table : Fun K "is_table" "is_table" s_is_table A.f_is_table A.d_is_table
  b_is_table : Binds K A.d_is_table ["value", "columns"] []
  m_is_table : mg "is_table" = some (.ref A.f_is_table)
  F_is_within : Fun K "is_within" "is_within" s_is_within A.f_is_within A.d_is_within
  b_is_within : Binds K A.d_is_within ["some", "whole"] []
  m_is_within : mg "is_within" = some (.ref A.f_is_within)
  F_cells : Fun K "cells" "cells" s_cells A.f_cells A.d_cells
  b_cells : Binds K A.d_cells ["row", "some"] []
  m_cells : mg "cells" = some (.ref A.f_cells)
  F_keeps : Fun K "keeps" "keeps" s_keeps A.f_keeps A.d_keeps
  b_keeps : Binds K A.d_keeps ["table", "rule"] []
  m_keeps : mg "keeps" = some (.ref A.f_keeps)
  F_keeps_all : Fun K "keeps_all" "keeps_all" s_keeps_all A.f_keeps_all A.d_keeps_all
  b_keeps_all : Binds K A.d_keeps_all ["table", "pairs"] []
  m_keeps_all : mg "keeps_all" = some (.ref A.f_keeps_all)
  F_row_of : Fun K "row_of" "row_of" s_row_of A.f_row_of A.d_row_of
  b_row_of : Binds K A.d_row_of ["columns", "some", "number"] []
  m_row_of : mg "row_of" = some (.ref A.f_row_of)
  F_Steps_init : Fun K "__init__" "Steps.__init__" s_Steps_init A.f_Steps_init A.d_Steps_init
  b_Steps_init : Binds K A.d_Steps_init ["self", "places"] []
  mk_Steps : Mk K A.c_Steps A.f_Steps_init
  F_Rows_init : Fun K "__init__" "Rows.__init__" s_Rows_init A.f_Rows_init A.d_Rows_init
  b_Rows_init : Binds K A.d_Rows_init ["self", "one", "other"] []
  mk_Rows : Mk K A.c_Rows A.f_Rows_init
  F_Alike_init : Fun K "__init__" "Alike.__init__" s_Alike_init A.f_Alike_init A.d_Alike_init
  b_Alike_init : Binds K A.d_Alike_init ["self", "there", "back"] []
  mk_Alike : Mk K A.c_Alike A.f_Alike_init
  F_Alike_shows : Fun K "shows" "Alike.shows" s_Alike_shows A.f_Alike_shows A.d_Alike_shows
  b_Alike_shows : Binds K A.d_Alike_shows ["self", "one", "other"] []
  mt_Alike_shows : Meth K A.c_Alike "shows" A.f_Alike_shows
  F_Apart_init : Fun K "__init__" "Apart.__init__" s_Apart_init A.f_Apart_init A.d_Apart_init
  b_Apart_init : Binds K A.d_Apart_init ["self", "side", "place", "one", "other"] []
  mk_Apart : Mk K A.c_Apart A.f_Apart_init
  F_Apart_shows : Fun K "shows" "Apart.shows" s_Apart_shows A.f_Apart_shows A.d_Apart_shows
  b_Apart_shows : Binds K A.d_Apart_shows ["self", "one", "other"] []
  mt_Apart_shows : Meth K A.c_Apart "shows" A.f_Apart_shows
  F_is_place : Fun K "is_place" "is_place" s_is_place A.f_is_place A.d_is_place
  b_is_place : Binds K A.d_is_place ["value", "things"] []
  m_is_place : mg "is_place" = some (.ref A.f_is_place)
  F_lead : Fun K "lead" "lead" s_lead A.f_lead A.d_lead
  b_lead : Binds K A.d_lead ["places", "rules", "left", "right"] []
  m_lead : mg "lead" = some (.ref A.f_lead)
  F_all_lead : Fun K "all_lead" "all_lead" s_all_lead A.f_all_lead A.d_all_lead
  b_all_lead : Binds K A.d_all_lead ["lists", "rules", "others"] []
  m_all_lead : mg "all_lead" = some (.ref A.f_all_lead)
  F_break_alone : Fun K "break_alone" "break_alone" s_break_alone A.f_break_alone A.d_break_alone
  b_break_alone : Binds K A.d_break_alone ["rows", "rules", "rule"] []
  m_break_alone : mg "break_alone" = some (.ref A.f_break_alone)
  F_Rules_init : Fun K "__init__" "Rules.__init__" s_Rules_init A.f_Rules_init A.d_Rules_init
  b_Rules_init : Binds K A.d_Rules_init ["self", "columns", "rules"] []
  mk_Rules : Mk K A.c_Rules A.f_Rules_init
  F_Rules_rules : Fun K "rules" "Rules.rules" s_Rules_rules A.f_Rules_rules A.d_Rules_rules
  b_Rules_rules : Binds K A.d_Rules_rules ["self"] []
  mt_Rules_rules : Meth K A.c_Rules "rules" A.f_Rules_rules
  F_spread : Fun K "spread" "spread" s_spread A.f_spread A.d_spread
  b_spread : Binds K A.d_spread ["pairs", "some"] []
  m_spread : mg "spread" = some (.ref A.f_spread)
  F_follows : Fun K "follows" "follows" s_follows A.f_follows A.d_follows
  b_follows : Binds K A.d_follows ["rules", "left", "right"] []
  m_follows : mg "follows" = some (.ref A.f_follows)
  F_steps_to : Fun K "steps_to" "steps_to" s_steps_to A.f_steps_to A.d_steps_to
  b_steps_to : Binds K A.d_steps_to ["pairs", "left", "right"] []
  m_steps_to : mg "steps_to" = some (.ref A.f_steps_to)
  F_first_useful : Fun K "first_useful" "first_useful" s_first_useful A.f_first_useful A.d_first_useful
  b_first_useful : Binds K A.d_first_useful ["pairs", "known"] []
  m_first_useful : mg "first_useful" = some (.ref A.f_first_useful)
  F_alike : Fun K "alike" "alike" s_alike A.f_alike A.d_alike
  b_alike : Binds K A.d_alike ["one", "other"] []
  m_alike : mg "alike" = some (.ref A.f_alike)
  F_law_cell_at : Fun K "_law_cell_at" "_law_cell_at" s_law_cell_at A.f_law_cell_at A.d_law_cell_at
  b_law_cell_at : Binds K A.d_law_cell_at ["_law_script", "_law_k"] []
  m_law_cell_at : mg "_law_cell_at" = some (.ref A.f_law_cell_at)
  F_law_draw : Fun K "_law_draw" "_law_draw" s_law_draw A.f_law_draw A.d_law_draw
  b_law_draw : Binds K A.d_law_draw ["_law_cell", "_law_k", "_law_many"] []
  m_law_draw : mg "_law_draw" = some (.ref A.f_law_draw)
  F_law_set : Fun K "_law_set" "_law_set" s_law_set A.f_law_set A.d_law_set
  b_law_set : Binds K A.d_law_set ["_law_cell", "_law_columns"] []
  m_law_set : mg "_law_set" = some (.ref A.f_law_set)
  F_law_pairs : Fun K "_law_pairs" "_law_pairs" s_law_pairs A.f_law_pairs A.d_law_pairs
  b_law_pairs : Binds K A.d_law_pairs ["_law_cell", "_law_columns", "_law_most"] []
  m_law_pairs : mg "_law_pairs" = some (.ref A.f_law_pairs)
  F_law_told : Fun K "_law_told" "_law_told" s_law_told A.f_law_told A.d_law_told
  b_law_told : Binds K A.d_law_told ["_law_pairs_here", "_law_some"] []
  m_law_told : mg "_law_told" = some (.ref A.f_law_told)
  F_law_like : Fun K "_law_like" "_law_like" s_law_like A.f_law_like A.d_law_like
  b_law_like : Binds K A.d_law_like ["_law_one", "_law_other_here", "_law_some"] []
  m_law_like : mg "_law_like" = some (.ref A.f_law_like)
  F_law_keeps : Fun K "_law_keeps" "_law_keeps" s_law_keeps A.f_law_keeps A.d_law_keeps
  b_law_keeps : Binds K A.d_law_keeps ["_law_table", "_law_rule"] []
  m_law_keeps : mg "_law_keeps" = some (.ref A.f_law_keeps)
  F_law_numbers : Fun K "_law_numbers" "_law_numbers" s_law_numbers A.f_law_numbers A.d_law_numbers
  b_law_numbers : Binds K A.d_law_numbers ["_law_found", "_law_most"] []
  m_law_numbers : mg "_law_numbers" = some (.ref A.f_law_numbers)
  F_law_steps : Fun K "_law_steps" "_law_steps" s_law_steps A.f_law_steps A.d_law_steps
  b_law_steps : Binds K A.d_law_steps ["_law_pairs_here", "_law_left", "_law_right_here", "_law_places"] []
  m_law_steps : mg "_law_steps" = some (.ref A.f_law_steps)
  F_law_rows : Fun K "_law_rows" "_law_rows" s_law_rows A.f_law_rows A.d_law_rows
  b_law_rows : Binds K A.d_law_rows ["_law_pairs_here", "_law_columns", "_law_left", "_law_right_here", "_law_one", "_law_other_here"] []
  m_law_rows : mg "_law_rows" = some (.ref A.f_law_rows)
  F_law_led : Fun K "_law_led" "_law_led" s_law_led A.f_law_led A.d_law_led
  b_law_led : Binds K A.d_law_led ["_law_pairs_here", "_law_others", "_law_lists"] []
  m_law_led : mg "_law_led" = some (.ref A.f_law_led)
  F_law_right : Fun K "_law_right" "_law_right" s_law_right A.f_law_right A.d_law_right
  b_law_right : Binds K A.d_law_right ["_law_pairs_here", "_law_others", "_law_columns", "_law_found"] []
  m_law_right : mg "_law_right" = some (.ref A.f_law_right)
  F_law_other : Fun K "_law_other" "_law_other" s_law_other A.f_law_other A.d_law_other
  b_law_other : Binds K A.d_law_other ["_law_pairs_here", "_law_columns", "_law_cell"] []
  m_law_other : mg "_law_other" = some (.ref A.f_law_other)
  F_law_unlike : Fun K "_law_unlike" "_law_unlike" s_law_unlike A.f_law_unlike A.d_law_unlike
  b_law_unlike : Binds K A.d_law_unlike ["_law_one", "_law_other_here"] []
  m_law_unlike : mg "_law_unlike" = some (.ref A.f_law_unlike)
  F_law : Fun K "law" "law" s_law A.f_law A.d_law
  b_law : Binds K A.d_law ["_law_script"] []
  m_law : mg "law" = some (.ref A.f_law)
  cl_Steps : Cls K A.c_Steps
  m_Steps : mg "Steps" = some (.ref A.c_Steps)
  na_Steps_places : NoAttr K A.c_Steps "places"
  cl_Rows : Cls K A.c_Rows
  m_Rows : mg "Rows" = some (.ref A.c_Rows)
  na_Rows_one : NoAttr K A.c_Rows "one"
  na_Rows_other : NoAttr K A.c_Rows "other"
  cl_Alike : Cls K A.c_Alike
  m_Alike : mg "Alike" = some (.ref A.c_Alike)
  na_Alike_there : NoAttr K A.c_Alike "there"
  na_Alike_back : NoAttr K A.c_Alike "back"
  cl_Apart : Cls K A.c_Apart
  m_Apart : mg "Apart" = some (.ref A.c_Apart)
  na_Apart_side : NoAttr K A.c_Apart "side"
  na_Apart_place : NoAttr K A.c_Apart "place"
  na_Apart_one : NoAttr K A.c_Apart "one"
  na_Apart_other : NoAttr K A.c_Apart "other"
  cl_Rules : Cls K A.c_Rules
  m_Rules : mg "Rules" = some (.ref A.c_Rules)
  na_Rules_columns : NoAttr K A.c_Rules "columns"
  na_Rules_pairs : NoAttr K A.c_Rules "pairs"
  m_Back : mg "Back" = some (.ref A.c_Back)
  m_Lost : mg "Lost" = some (.ref A.c_Lost)
  m_Answer : mg "Answer" = some (.ref A.c_Answer)
  m_BadRules : mg "BadRules" = some (.ref A.c_BadRules)
  m_BadSet : mg "BadSet" = some (.ref A.c_BadSet)
  m_BadParts : mg "BadParts" = some (.ref A.c_BadParts)
  m_Unlike : mg "Unlike" = some (.ref A.c_Unlike)
  m_BadTable : mg "BadTable" = some (.ref A.c_BadTable)
  m_BadText : mg "BadText" = some (.ref A.c_BadText)
  m_TellError : mg "TellError" = some (.ref A.c_TellError)
  ty_Steps : ClsTy K A.c_Steps
  ki_Steps_Rows : PySem.W.kitOne K (.ref A.c_Steps) (.ref A.c_Rows) = some false
  ki_Steps_Alike : PySem.W.kitOne K (.ref A.c_Steps) (.ref A.c_Alike) = some false
  ki_Steps_Steps : PySem.W.kitOne K (.ref A.c_Steps) (.ref A.c_Steps) = some true
  ki_Steps_Back : PySem.W.kitOne K (.ref A.c_Steps) (.ref A.c_Back) = some false
  ki_Steps_Lost : PySem.W.kitOne K (.ref A.c_Steps) (.ref A.c_Lost) = some false
  ki_Steps_Answer : PySem.W.kitOne K (.ref A.c_Steps) (.ref A.c_Answer) = some true
  ki_Steps_Apart : PySem.W.kitOne K (.ref A.c_Steps) (.ref A.c_Apart) = some false
  ki_Steps_BadRules : PySem.W.kitOne K (.ref A.c_Steps) (.ref A.c_BadRules) = some false
  ki_Steps_BadSet : PySem.W.kitOne K (.ref A.c_Steps) (.ref A.c_BadSet) = some false
  ki_Steps_BadParts : PySem.W.kitOne K (.ref A.c_Steps) (.ref A.c_BadParts) = some false
  ki_Steps_Unlike : PySem.W.kitOne K (.ref A.c_Steps) (.ref A.c_Unlike) = some false
  ki_Steps_BadTable : PySem.W.kitOne K (.ref A.c_Steps) (.ref A.c_BadTable) = some false
  ki_Steps_BadText : PySem.W.kitOne K (.ref A.c_Steps) (.ref A.c_BadText) = some false
  ty_Rows : ClsTy K A.c_Rows
  ki_Rows_Rows : PySem.W.kitOne K (.ref A.c_Rows) (.ref A.c_Rows) = some true
  ki_Rows_Alike : PySem.W.kitOne K (.ref A.c_Rows) (.ref A.c_Alike) = some false
  ki_Rows_Steps : PySem.W.kitOne K (.ref A.c_Rows) (.ref A.c_Steps) = some false
  ki_Rows_Back : PySem.W.kitOne K (.ref A.c_Rows) (.ref A.c_Back) = some false
  ki_Rows_Lost : PySem.W.kitOne K (.ref A.c_Rows) (.ref A.c_Lost) = some false
  ki_Rows_Answer : PySem.W.kitOne K (.ref A.c_Rows) (.ref A.c_Answer) = some true
  ki_Rows_Apart : PySem.W.kitOne K (.ref A.c_Rows) (.ref A.c_Apart) = some false
  ki_Rows_BadRules : PySem.W.kitOne K (.ref A.c_Rows) (.ref A.c_BadRules) = some false
  ki_Rows_BadSet : PySem.W.kitOne K (.ref A.c_Rows) (.ref A.c_BadSet) = some false
  ki_Rows_BadParts : PySem.W.kitOne K (.ref A.c_Rows) (.ref A.c_BadParts) = some false
  ki_Rows_Unlike : PySem.W.kitOne K (.ref A.c_Rows) (.ref A.c_Unlike) = some false
  ki_Rows_BadTable : PySem.W.kitOne K (.ref A.c_Rows) (.ref A.c_BadTable) = some false
  ki_Rows_BadText : PySem.W.kitOne K (.ref A.c_Rows) (.ref A.c_BadText) = some false
  ty_Alike : ClsTy K A.c_Alike
  ki_Alike_Rows : PySem.W.kitOne K (.ref A.c_Alike) (.ref A.c_Rows) = some false
  ki_Alike_Alike : PySem.W.kitOne K (.ref A.c_Alike) (.ref A.c_Alike) = some true
  ki_Alike_Steps : PySem.W.kitOne K (.ref A.c_Alike) (.ref A.c_Steps) = some false
  ki_Alike_Back : PySem.W.kitOne K (.ref A.c_Alike) (.ref A.c_Back) = some false
  ki_Alike_Lost : PySem.W.kitOne K (.ref A.c_Alike) (.ref A.c_Lost) = some false
  ki_Alike_Answer : PySem.W.kitOne K (.ref A.c_Alike) (.ref A.c_Answer) = some true
  ki_Alike_Apart : PySem.W.kitOne K (.ref A.c_Alike) (.ref A.c_Apart) = some false
  ki_Alike_BadRules : PySem.W.kitOne K (.ref A.c_Alike) (.ref A.c_BadRules) = some false
  ki_Alike_BadSet : PySem.W.kitOne K (.ref A.c_Alike) (.ref A.c_BadSet) = some false
  ki_Alike_BadParts : PySem.W.kitOne K (.ref A.c_Alike) (.ref A.c_BadParts) = some false
  ki_Alike_Unlike : PySem.W.kitOne K (.ref A.c_Alike) (.ref A.c_Unlike) = some false
  ki_Alike_BadTable : PySem.W.kitOne K (.ref A.c_Alike) (.ref A.c_BadTable) = some false
  ki_Alike_BadText : PySem.W.kitOne K (.ref A.c_Alike) (.ref A.c_BadText) = some false
  ty_Apart : ClsTy K A.c_Apart
  ki_Apart_Rows : PySem.W.kitOne K (.ref A.c_Apart) (.ref A.c_Rows) = some false
  ki_Apart_Alike : PySem.W.kitOne K (.ref A.c_Apart) (.ref A.c_Alike) = some false
  ki_Apart_Steps : PySem.W.kitOne K (.ref A.c_Apart) (.ref A.c_Steps) = some false
  ki_Apart_Back : PySem.W.kitOne K (.ref A.c_Apart) (.ref A.c_Back) = some false
  ki_Apart_Lost : PySem.W.kitOne K (.ref A.c_Apart) (.ref A.c_Lost) = some false
  ki_Apart_Answer : PySem.W.kitOne K (.ref A.c_Apart) (.ref A.c_Answer) = some true
  ki_Apart_Apart : PySem.W.kitOne K (.ref A.c_Apart) (.ref A.c_Apart) = some true
  ki_Apart_BadRules : PySem.W.kitOne K (.ref A.c_Apart) (.ref A.c_BadRules) = some false
  ki_Apart_BadSet : PySem.W.kitOne K (.ref A.c_Apart) (.ref A.c_BadSet) = some false
  ki_Apart_BadParts : PySem.W.kitOne K (.ref A.c_Apart) (.ref A.c_BadParts) = some false
  ki_Apart_Unlike : PySem.W.kitOne K (.ref A.c_Apart) (.ref A.c_Unlike) = some false
  ki_Apart_BadTable : PySem.W.kitOne K (.ref A.c_Apart) (.ref A.c_BadTable) = some false
  ki_Apart_BadText : PySem.W.kitOne K (.ref A.c_Apart) (.ref A.c_BadText) = some false
  ty_Unlike : ClsTy K A.c_Unlike
  ki_Unlike_Rows : PySem.W.kitOne K (.ref A.c_Unlike) (.ref A.c_Rows) = some false
  ki_Unlike_Alike : PySem.W.kitOne K (.ref A.c_Unlike) (.ref A.c_Alike) = some false
  ki_Unlike_Steps : PySem.W.kitOne K (.ref A.c_Unlike) (.ref A.c_Steps) = some false
  ki_Unlike_Back : PySem.W.kitOne K (.ref A.c_Unlike) (.ref A.c_Back) = some false
  ki_Unlike_Lost : PySem.W.kitOne K (.ref A.c_Unlike) (.ref A.c_Lost) = some false
  ki_Unlike_Answer : PySem.W.kitOne K (.ref A.c_Unlike) (.ref A.c_Answer) = some false
  ki_Unlike_Apart : PySem.W.kitOne K (.ref A.c_Unlike) (.ref A.c_Apart) = some false
  ki_Unlike_BadRules : PySem.W.kitOne K (.ref A.c_Unlike) (.ref A.c_BadRules) = some false
  ki_Unlike_BadSet : PySem.W.kitOne K (.ref A.c_Unlike) (.ref A.c_BadSet) = some false
  ki_Unlike_BadParts : PySem.W.kitOne K (.ref A.c_Unlike) (.ref A.c_BadParts) = some false
  ki_Unlike_Unlike : PySem.W.kitOne K (.ref A.c_Unlike) (.ref A.c_Unlike) = some true
  ki_Unlike_BadTable : PySem.W.kitOne K (.ref A.c_Unlike) (.ref A.c_BadTable) = some false
  ki_Unlike_BadText : PySem.W.kitOne K (.ref A.c_Unlike) (.ref A.c_BadText) = some false
  xi_Unlike : PySem.W.excIn K A.c_Unlike [.type "ValueError", .type "Exception", .type "BaseException", .type "object"] "ValueError.__new__" = true
  et_Unlike : ErrTy K A.c_Unlike
  kv_Unlike : PySem.W.kitOne K (.ref A.c_Unlike) (.type "ValueError") = some true
  xi_TellError : PySem.W.excIn K A.c_TellError [.type "ValueError", .type "Exception", .type "BaseException", .type "object"] "ValueError.__new__" = true
  up_Unlike_TellError : PySem.W.mroIn K A.c_Unlike (.ref A.c_TellError) = some true
  z_ValueError : mg "ValueError" = none
  z_all : mg "all" = none
  z_any : mg "any" = none
  z_bool : mg "bool" = none
  z_enumerate : mg "enumerate" = none
  z_int : mg "int" = none
  z_isinstance : mg "isinstance" = none
  z_len : mg "len" = none
  z_list : mg "list" = none
  z_range : mg "range" = none
  z_tuple : mg "tuple" = none
  z_zip : mg "zip" = none
  g_MOST_COLUMNS : ∃ t, mg "MOST_COLUMNS" = some (.int 6 t)
  g_MOST_RULES : ∃ t, mg "MOST_RULES" = some (.int 64 t)
  g_MOST_ROWS : ∃ t, mg "MOST_ROWS" = some (.int 64 t)
  g_MOST_NUMBER : ∃ t, mg "MOST_NUMBER" = some (.int 99 t)
/-! ### the data -/
def Tps (H : Hp) : List Addr → List (Nat × Nat) → Prop
  | [], [] => True
  | t :: ts, p :: ps => H t = some (.tup [.int (p.1 : Nat), .int (p.2 : Nat)]) ∧ Tps H ts ps
  | _, _ => False
theorem Tps.same {H H' : Hp} (e : Same H H') : ∀ {ts : List Addr} {ps : List (Nat × Nat)}, Tps H ts ps → Tps H' ts ps
  | [], [], _ => trivial
  | _ :: _, _ :: _, ⟨h, t⟩ => ⟨e _ _ h, Tps.same e t⟩
  | [], _ :: _, h => h.elim
  | _ :: _, [], h => h.elim
theorem Tps.len {H : Hp} : ∀ {ts : List Addr} {ps : List (Nat × Nat)}, Tps H ts ps → ts.length = ps.length
  | [], [], _ => rfl
  | _ :: _, _ :: _, ⟨_, t⟩ => congrArg (· + 1) (Tps.len t)
  | [], _ :: _, h => h.elim
  | _ :: _, [], h => h.elim
theorem Tps.get {H : Hp} : ∀ {ts : List Addr} {ps : List (Nat × Nat)} {i : Nat} {v : V}, Tps H ts ps → (ts.map V.ref)[i]? = some v → ∃ t p, v = .ref t ∧ ps[i]? = some p ∧ H t = some (.tup [.int (p.1 : Nat), .int (p.2 : Nat)])
  | [], [], i, v, _, h => by simp at h
  | t :: _, p :: _, 0, v, ⟨h, _⟩, e => ⟨t, p, by simpa using e.symm, by simp, h⟩
  | _ :: _, _ :: _, i + 1, v, ⟨_, t⟩, e => by
    obtain ⟨a, b, h1, h2, h3⟩ := Tps.get (i := i) t (by simpa using e)
    exact ⟨a, b, h1, by simpa using h2, h3⟩
  | [], _ :: _, _, _, h, _ => h.elim
  | _ :: _, [], _, _, h, _ => h.elim
theorem Tps.snoc {H : Hp} {t : Addr} {p : Nat × Nat} (e : H t = some (.tup [.int (p.1 : Nat), .int (p.2 : Nat)])) : ∀ {ts : List Addr} {ps : List (Nat × Nat)}, Tps H ts ps → Tps H (ts ++ [t]) (ps ++ [p])
  | [], [], _ => ⟨e, trivial⟩
  | _ :: _, _ :: _, ⟨h, r⟩ => ⟨h, Tps.snoc e r⟩
  | [], _ :: _, h => h.elim
  | _ :: _, [], h => h.elim
theorem Tps.upd {H : Hp} {a : Addr} {xs : List V} {o : HO} (ha : H a = some (.lst xs)) : ∀ {ts : List Addr} {ps : List (Nat × Nat)}, Tps H ts ps → Tps (upd H a o) ts ps
  | [], [], _ => trivial
  | _ :: _, _ :: _, ⟨h, t⟩ => ⟨by rw [upd_ne (ne_of h ha (by intro z; cases z))]; exact h, Tps.upd ha t⟩
  | [], _ :: _, h => h.elim
  | _ :: _, [], h => h.elim
/-- a list of rules stands at l -/
def PrsAt (H : Hp) (l : Addr) (ps : List (Nat × Nat)) : Prop := ∃ ts : List Addr, H l = some (.lst (ts.map V.ref)) ∧ Tps H ts ps
theorem PrsAt.same {H H' : Hp} (e : Same H H') {l : Addr} {ps : List (Nat × Nat)} : PrsAt H l ps → PrsAt H' l ps := fun ⟨ts, h, t⟩ => ⟨ts, e _ _ h, t.same e⟩
theorem PrsAt.upd {H : Hp} {a l : Addr} {xs : List V} {o : HO} {ps : List (Nat × Nat)} (ha : H a = some (.lst xs)) (hn : l ≠ a) : PrsAt H l ps → PrsAt (upd H a o) l ps := fun ⟨ts, h, t⟩ => ⟨ts, by rw [upd_ne hn]; exact h, t.upd ha⟩
theorem Same.up {H H' : Hp} {a : Addr} {o : HO} (e : Same H H') (h : H a = none) : Same H (upd H' a o) := fun b u q => by
  rw [upd_ne (ne_of_none q h)]; exact e b u q
theorem Same.new {H : Hp} {a : Addr} {o : HO} (h : H a = none) : Same H (upd H a o) := Same.up (Same.refl H) h
def flds (c : Nat) (l : Addr) : List (Str × V) := putF "pairs" (.ref l) (putF "columns" (.int (c : Nat)) [])
theorem kc : ¬ (("columns" : Str) = "pairs") := by decide +kernel
theorem flds_columns (c : Nat) (l : Addr) : (flds c l).lookup ("columns" : Str) = some (.int (c : Nat)) := by
  unfold flds; rw [lookup_putF, if_neg kc, lookup_putF, if_pos rfl]
theorem flds_pairs (c : Nat) (l : Addr) : (flds c l).lookup ("pairs" : Str) = some (.ref l) := by
  unfold flds; rw [lookup_putF, if_pos rfl]
theorem flds_no (c : Nat) (l : Addr) {m : Str} (h1 : ¬ m = "pairs") (h2 : ¬ m = "columns") : (flds c l).lookup m = none := by
  unfold flds; rw [lookup_putF, if_neg h1, lookup_putF, if_neg h2]; rfl
/-- Rules of c columns and the rules ps stand at p, their list at l -/
def RulesAt (C : Addr) (H : Hp) (p l : Addr) (c : Nat) (ps : List (Nat × Nat)) : Prop := (∃ dx, H p = some (.ins C dx (flds c l))) ∧ PrsAt H l ps
theorem RulesAt.same {C : Addr} {H H' : Hp} (e : Same H H') {p l : Addr} {c : Nat} {ps : List (Nat × Nat)} : RulesAt C H p l c ps → RulesAt C H' p l c ps := fun ⟨⟨dx, h⟩, t⟩ => ⟨⟨dx, e _ _ h⟩, t.same e⟩
theorem RulesAt.upd {C : Addr} {H : Hp} {a : Addr} {xs : List V} {o : HO} {p l : Addr} {c : Nat} {ps : List (Nat × Nat)} (ha : H a = some (.lst xs)) (hn : l ≠ a) : RulesAt C H p l c ps → RulesAt C (upd H a o) p l c ps := fun ⟨⟨dx, h⟩, t⟩ =>
  ⟨⟨dx, by rw [upd_ne (ne_of h ha (by intro z; cases z))]; exact h⟩, t.upd ha hn⟩
/-- rules of c columns -/
def Good (c : Nat) (ps : List (Nat × Nat)) : Prop := 1 ≤ c ∧ c ≤ 6 ∧ ps.length ≤ 64 ∧ ∀ p ∈ ps, p.1 < 2 ^ c ∧ p.2 < 2 ^ c

/-! ### numbers -/
theorem in_set {a c : Nat} (h : a < 2 ^ c) : (decide ((0 : Int) ≤ (a : Int)) && decide ((a : Int) ≤ ((2 ^ c : Nat) : Int) - 1)) = true := by
  generalize 2 ^ c = N at h ⊢
  rw [Bool.and_eq_true]
  exact ⟨decide_eq_true (by omega), decide_eq_true (by omega)⟩
theorem or_nat (a b : Nat) : Builtin.bitOr (a : Int) (b : Int) = ((a ||| b : Nat) : Int) := by
  have h1 : ¬ (0 ≤ Builtin.bitNot (a : Int)) := by unfold Builtin.bitNot; omega
  have h2 : ¬ (0 ≤ Builtin.bitNot (b : Int)) := by unfold Builtin.bitNot; omega
  have e : ∀ z : Int, Builtin.bitNot (Builtin.bitNot z) = z := fun z => by unfold Builtin.bitNot; omega
  have e2 : Builtin.bitAnd (Builtin.bitNot (a : Int)) (Builtin.bitNot (b : Int)) = Builtin.bitNot (((Builtin.bitNot (Builtin.bitNot (a : Int))).toNat ||| (Builtin.bitNot (Builtin.bitNot (b : Int))).toNat : Nat) : Int) := by
    simp [Builtin.bitAnd, h1, h2]
  unfold Builtin.bitOr
  rw [e2, e, e, e, Int.toNat_natCast, Int.toNat_natCast]
theorem and_nat (a b : Nat) : Builtin.bitAnd (a : Int) (b : Int) = ((a &&& b : Nat) : Int) := by
  rw [PyProof.Rows.bitAnd_pp (Int.natCast_nonneg a) (Int.natCast_nonneg b)]; rfl
theorem shl_nat (c : Nat) : (1 : Int) * 2 ^ ((c : Int)).toNat = ((2 ^ c : Nat) : Int) := by
  rw [Int.one_mul, Int.toNat_natCast]; norm_cast

def sp_is_number : Sp := fun vs H Q _ => ∃ v a b : Int, vs = [.int v, .int a, .int b] ∧ Q (.bl (decide (a ≤ v) && decide (v ≤ b))) H
def sp_is_list : Sp := fun vs H Q _ => ∃ (p : Addr) (xs : List V) (a b : Int), vs = [.ref p, .int a, .int b] ∧ H p = some (.lst xs) ∧ Q (.bl (decide (a ≤ (xs.length : Int)) && decide ((xs.length : Int) ≤ b))) H
def sp_is_count : Sp := fun vs H Q _ => ∃ v : Int, vs = [.int v] ∧ Q (.bl (decide (1 ≤ v) && decide (v ≤ 6))) H
def sp_all_columns : Sp := fun vs H Q _ => ∃ c : Nat, vs = [.int (c : Nat)] ∧ c ≤ 6 ∧ Q (.int (((2 ^ c : Nat) : Int) - 1)) H
def sp_is_set : Sp := fun vs H Q _ => ∃ (v : Int) (c : Nat), vs = [.int v, .int (c : Nat)] ∧ c ≤ 6 ∧ Q (.bl (decide (0 ≤ v) && decide (v ≤ ((2 ^ c : Nat) : Int) - 1))) H
def sp_is_rule : Sp := fun vs H Q _ => ∃ (t : Addr) (a b c : Nat), vs = [.ref t, .int (c : Nat)] ∧ H t = some (.tup [.int (a : Nat), .int (b : Nat)]) ∧ c ≤ 6 ∧ a < 2 ^ c ∧ b < 2 ^ c ∧ Q (.bl true) H
def sp_are_rules : Sp := fun vs H Q _ => ∃ (l : Addr) (c : Nat) (ps : List (Nat × Nat)), vs = [.ref l, .int (c : Nat)] ∧ PrsAt H l ps ∧ Good c ps ∧ ∀ H', Same H H' → Q (.bl true) H'
def sp_Rules_init (C : Addr) : Sp := fun vs H Q _ => ∃ (p dx l : Addr) (c : Nat) (ps : List (Nat × Nat)), vs = [.ref p, .int (c : Nat), .ref l] ∧ H p = some (.ins C dx []) ∧ PrsAt H l ps ∧ Good c ps ∧
  ∀ (m : Addr) (H' : Hp), H m = none → RulesAt C H' p m c ps → (∀ b o, H b = some o → b ≠ p → H' b = some o) → Q .non H'
def sp_Rules_rules (C : Addr) : Sp := fun vs H Q _ => ∃ (p m : Addr) (c : Nat) (ps : List (Nat × Nat)), vs = [.ref p] ∧ RulesAt C H p m c ps ∧ ∀ (l : Addr) (ts : List Addr), H l = none → Tps H ts ps → Q (.ref l) (upd H l (.lst (ts.map V.ref)))
section
variable {P : Program} {w : World} {K : PySem.W.Frag} {mg : Str → Option Value} {base : Heap} {A : Adr}
theorem kit_int_bool : PySem.W.kitOne K (.type "int") (.type "bool") = some false := by kernel_rfl
theorem kit_int_int : PySem.W.kitOne K (.type "int") (.type "int") = some true := by kernel_rfl
theorem kit_list_list : PySem.W.kitOne K (.type "list") (.type "list") = some true := by kernel_rfl
theorem kit_tuple_tuple : PySem.W.kitOne K (.type "tuple") (.type "tuple") = some true := by kernel_rfl
theorem ok_is_number (T : Txt K mg A) : FnOk P w K mg base CX0 1 A.f_is_number A.d_is_number ["value", "least", "most"] sp_is_number := by
  refine T.F_is_number.ok sc_is_number (fun vs H Q E h => ?_) (fun cdv A' outer s H vs Q E hr h => ?_)
  · obtain ⟨v, a, b, rfl, _⟩ := h; rfl
  · obtain ⟨v, a, b, rfl, k⟩ := h
    refine ⟨_, (pss_cons (ps_if (pt_val (pe_callB (call_isinstK K) rfl T.z_isinstance bt_isinstance (pa_cons (pv 0) (pa_cons (pe_bltn (v := .ty "bool") rfl T.z_bool bt_bool rfl) pa_nil)))) (pss_one (ps_ret pe_bl)) pss_nil)
      (pss_one (ps_ret (pe_and (pe_callB (call_isinstK K) rfl T.z_isinstance bt_isinstance (pa_cons (pv 0) (pa_cons (pe_bltn (v := .ty "int") rfl T.z_int bt_int rfl) pa_nil))) (pe_one (pe_chain op_le op_le (pv 1) (pv 0) (pv 2))))))), ?_⟩
    refine ⟨_, rfl, _, _, _, false, rfl, .int v, kit_int_bool, false, rfl, iteF ?_⟩
    refine ⟨_, rfl, _, _, _, true, rfl, .int v, kit_int_int, true, rfl, iteT ?_⟩
    refine ⟨_, rfl, _, rfl, a, v, rfl, rfl, _, rfl, ?_⟩
    refine ite2 (fun e => ?_) (fun e => ?_)
    · refine ⟨_, rfl, v, b, rfl, rfl, ?_⟩
      rw [e, Bool.true_and] at k
      exact k
    · have e' : decide (a ≤ v) = false := by simpa using e
      rw [e', Bool.false_and] at k
      exact k
theorem ok_is_list (T : Txt K mg A) : FnOk P w K mg base CX0 1 A.f_is_list A.d_is_list ["value", "least", "most"] sp_is_list := by
  refine T.F_is_list.ok sc_is_list (fun vs H Q E h => ?_) (fun cdv A' outer s H vs Q E hr h => ?_)
  · obtain ⟨p, xs, a, b, rfl, _⟩ := h; rfl
  · obtain ⟨p, xs, a, b, rfl, hp, k⟩ := h
    refine ⟨_, (pss_one (ps_ret (pe_and (pe_callB (call_isinstK K) rfl T.z_isinstance bt_isinstance (pa_cons (pv 0) (pa_cons (pe_bltn (v := .ty "list") rfl T.z_list bt_list rfl) pa_nil))) (pe_one (pe_chain op_le op_le (pv 1) (pe_callB (call_lenK K) rfl T.z_len bt_len (pa_cons (pv 0) pa_nil)) (pv 2)))))), ?_⟩
    refine ⟨_, rfl, _, _, _, true, rfl, .lst hp, kit_list_list, true, rfl, iteT ?_⟩
    refine ⟨_, rfl, _, rfl, p, xs, rfl, .inl (SqL.of hp), a, _, rfl, rfl, _, rfl, ?_⟩
    refine ite2 (fun e => ?_) (fun e => ?_)
    · refine ⟨_, rfl, _, b, rfl, rfl, ?_⟩
      rw [e, Bool.true_and] at k
      exact k
    · have e' : decide (a ≤ (xs.length : Int)) = false := by simpa using e
      rw [e', Bool.false_and] at k
      exact k
theorem ok_is_count (T : Txt K mg A) : FnOk P w K mg base CX0 3 A.f_is_count A.d_is_count ["columns"] sp_is_count := by
  have G_is_number := ok_is_number (P := P) (w := w) (base := base) T
  refine T.F_is_count.ok sc_is_count (fun vs H Q E h => ?_) (fun cdv A' outer s H vs Q E hr h => ?_)
  · obtain ⟨v, rfl, _⟩ := h; rfl
  · obtain ⟨v, rfl, k⟩ := h
    refine ⟨_, (pss_one (ps_ret (pe_call G_is_number (hr.mono (by decide)) rfl T.m_is_number T.F_is_number.kp T.b_is_number .nil pass0 (pa_cons (pv 0) (pa_cons pe_int (pa_cons (pe_glob (v := .int 6) rfl T.g_MOST_COLUMNS.choose_spec ⟨_, rfl⟩) pa_nil)))))), ?_⟩
    exact ⟨_, rfl, v, 1, 6, rfl, k⟩
theorem ok_all_columns (T : Txt K mg A) : FnOk P w K mg base CX0 1 A.f_all_columns A.d_all_columns ["columns"] sp_all_columns := by
  refine T.F_all_columns.ok sc_all_columns (fun vs H Q E h => ?_) (fun cdv A' outer s H vs Q E hr h => ?_)
  · obtain ⟨v, rfl, _⟩ := h; rfl
  · obtain ⟨c, rfl, hc, k⟩ := h
    refine ⟨_, (pss_one (ps_ret (pe_op op_sub (pe_op op_shl pe_int (pv 0)) pe_int))), ?_⟩
    refine ⟨_, rfl, 1, (c : Int), rfl, rfl, ⟨Int.natCast_nonneg c, by omega, by decide⟩, _, 1, rfl, rfl, ?_⟩
    rw [shl_nat]
    exact k
theorem ok_is_set (T : Txt K mg A) : FnOk P w K mg base CX0 3 A.f_is_set A.d_is_set ["value", "columns"] sp_is_set := by
  have G_is_number := ok_is_number (P := P) (w := w) (base := base) T
  have G_all_columns := ok_all_columns (P := P) (w := w) (base := base) T
  refine T.F_is_set.ok sc_is_set (fun vs H Q E h => ?_) (fun cdv A' outer s H vs Q E hr h => ?_)
  · obtain ⟨v, c, rfl, _⟩ := h; rfl
  · obtain ⟨v, c, rfl, hc, k⟩ := h
    refine ⟨_, (pss_one (ps_ret (pe_call G_is_number (hr.mono (by decide)) rfl T.m_is_number T.F_is_number.kp T.b_is_number .nil pass0 (pa_cons (pv 0) (pa_cons pe_int (pa_cons (pe_call G_all_columns (hr.mono (by decide)) rfl T.m_all_columns T.F_all_columns.kp T.b_all_columns .nil pass0 (pa_cons (pv 1) pa_nil)) pa_nil)))))), ?_⟩
    exact ⟨_, rfl, _, rfl, c, rfl, hc, v, 0, _, rfl, k⟩
theorem ok_is_rule (T : Txt K mg A) : FnOk P w K mg base CX0 5 A.f_is_rule A.d_is_rule ["value", "columns"] sp_is_rule := by
  have G_is_set := ok_is_set (P := P) (w := w) (base := base) T
  refine T.F_is_rule.ok sc_is_rule (fun vs H Q E h => ?_) (fun cdv A' outer s H vs Q E hr h => ?_)
  · obtain ⟨t, a, b, c, rfl, _⟩ := h; rfl
  · obtain ⟨t, a, b, c, rfl, ht, hc, ha, hb, k⟩ := h
    refine ⟨_, (pss_cons (ps_if (PW.pt (pw_or (pt_not (pt_val (pe_callB (call_isinstK K) rfl T.z_isinstance bt_isinstance (pa_cons (pv 0) (pa_cons (pe_bltn (v := .ty "tuple") rfl T.z_tuple bt_tuple rfl) pa_nil))))) (pw_or1 (pt_cmpR op_ne (pe_callB (call_lenK K) rfl T.z_len bt_len (pa_cons (pv 0) pa_nil)) pe_int (nomark _))))) (pss_one (ps_ret pe_bl)) pss_nil)
      (pss_one (ps_ret (pe_and (pe_call G_is_set (hr.mono (by decide)) rfl T.m_is_set T.F_is_set.kp T.b_is_set .nil pass0 (pa_cons (pe_ix (ix_tupK K) (pv 0) pe_int (fun _ _ => rfl)) (pa_cons (pv 1) pa_nil))) (pe_one (pe_call G_is_set (hr.mono (by decide)) rfl T.m_is_set T.F_is_set.kp T.b_is_set .nil pass0 (pa_cons (pe_ix (ix_tupK K) (pv 0) pe_int (fun _ _ => rfl)) (pa_cons (pv 1) pa_nil)))))))), ?_⟩
    refine ⟨_, rfl, _, _, _, true, rfl, .tup ht, kit_tuple_tuple, true, rfl, iteF ?_⟩
    refine ⟨_, rfl, t, _, rfl, .inr (SqT.of ht), rfl, _, rfl, iteF ?_⟩
    refine ⟨_, rfl, t, _, 0, _, rfl, rfl, SqT.of ht, rfl, _, rfl, a, c, rfl, hc, _, rfl, ?_⟩
    have e1 := in_set ha
    have e2 := in_set hb
    rw [e1]
    refine iteT ⟨_, rfl, t, _, 1, _, rfl, rfl, SqT.of ht, rfl, _, rfl, b, c, rfl, hc, ?_⟩
    rw [e2]
    exact k
theorem ok_are_rules (T : Txt K mg A) : FnOk P w K mg base CX0 7 A.f_are_rules A.d_are_rules ["value", "columns"] sp_are_rules := by
  have G_is_list := ok_is_list (P := P) (w := w) (base := base) T
  have G_is_rule := ok_is_rule (P := P) (w := w) (base := base) T
  refine T.F_are_rules.ok sc_are_rules (fun vs H Q E h => ?_) (fun cdv A' outer s H vs Q E hr h => ?_)
  · obtain ⟨l, c, ps, rfl, _⟩ := h; rfl
  · obtain ⟨l, c, ps, rfl, ⟨ts, hl, htp⟩, ⟨hc1, hc6, hlen, hps⟩, k⟩ := h
    refine ⟨_, (pss_cons (ps_if (pt_not (pt_val (pe_call G_is_list (hr.mono (by decide)) rfl T.m_is_list T.F_is_list.kp T.b_is_list .nil pass0 (pa_cons (pv 0) (pa_cons pe_int (pa_cons (pe_glob (v := .int 64) rfl T.g_MOST_RULES.choose_spec ⟨_, rfl⟩) pa_nil)))))) (pss_one (ps_ret pe_bl)) pss_nil)
      (pss_one (ps_ret (pe_callB (call_allK K rfl) rfl T.z_all bt_all (pa_cons (pe_comp ["value", "columns"] (defScope s_are_rules) ["rule", "columns"] [none, some 1] ⟨rfl, by decide +kernel, by decide +kernel, by decide +kernel, by decide +kernel, by decide +kernel⟩ rfl (pi_listK K (pv 0)) (fun _ _ _ _ _ => (pg_name (i := 0) (by show List.Nodup (["rule", "columns"] : List Str); decide +kernel) rfl (Or.inl rfl) (Or.inr rfl))) (fun _ _ _ _ _ => pts_nil) (fun _ _ _ _ _ => (pe_call G_is_rule (hr.mono (by decide)) rfl T.m_is_rule T.F_is_rule.kp T.b_is_rule .nil pass0 (pa_cons (pv 0) (pa_cons (pv 1) pa_nil))))) pa_nil))))), ?_⟩
    refine ⟨_, rfl, l, ts.map V.ref, 0, 64, rfl, hl, _, rfl, ?_⟩
    have hln : (ts.map V.ref).length = ps.length := by rw [List.length_map]; exact htp.len
    have e : (decide ((0 : Int) ≤ ((ts.map V.ref).length : Int)) && decide (((ts.map V.ref).length : Int) ≤ 64)) = true := by
      rw [hln]; simp; omega
    rw [e]
    refine iteF ?_
    refine ⟨_, rfl, l, rfl, ⟨_, SqL.of hl⟩, fun D hD => comp_list (xs := ts.map V.ref) (fun i ys H' => Same H H' ∧ ys = List.replicate i (.bl true) ∧ i ≤ ps.length) ⟨Same.new hD, rfl, Nat.zero_le _⟩ (fun i ys H' _ ⟨e, _⟩ => SqL.of (e _ _ hl)) ?_ ?_⟩
    · rintro i x ys H' hx ⟨se, rfl, hi⟩ hDl
      obtain ⟨t, p, rfl, hp, ht⟩ := (htp.same se).get hx
      have hi' : i < ps.length := (List.getElem?_eq_some_iff.mp hp).1
      have hb := hps p (List.mem_of_getElem? hp)
      refine yes_mk ?_
      refine ⟨_, rfl, _, rfl, t, p.1, p.2, c, rfl, ht, hc6, hb.1, hb.2, CE1.mk hDl (small1000 (by rw [List.length_replicate]; omega)) ⟨Same.up se hD, ?_, hi'⟩⟩
      rw [List.replicate_succ']
    · rintro ys H' ⟨se, rfl, _⟩ hDl
      refine ⟨D, List.replicate _ true, rfl, SqL.of (by rw [List.map_replicate]; exact hDl), ?_⟩
      have e2 : (List.replicate (ts.map V.ref).length true).all id = true := by simp
      rw [e2]
      exact k H' se
theorem ok_Rules_init (T : Txt K mg A) : FnOk P w K mg base CX0 9 A.f_Rules_init A.d_Rules_init ["self", "columns", "rules"] (sp_Rules_init A.c_Rules) := by
  have G_is_count := ok_is_count (P := P) (w := w) (base := base) T
  have G_are_rules := ok_are_rules (P := P) (w := w) (base := base) T
  refine T.F_Rules_init.ok sc_Rules_init (fun vs H Q E h => ?_) (fun cdv A' outer s H vs Q E hr h => ?_)
  · obtain ⟨p, dx, l, c, ps, rfl, _⟩ := h; rfl
  · obtain ⟨p, dx, l, c, ps, rfl, hp, hP, hG, k⟩ := h
    obtain ⟨hc1, hc6, hlen, hps⟩ := id hG
    refine ⟨_, (pss_cons (ps_if (pt_not (pt_val (pe_call G_is_count (hr.mono (by decide)) rfl T.m_is_count T.F_is_count.kp T.b_is_count .nil pass0 (pa_cons (pv 1) pa_nil)))) (pss_one ps_never) pss_nil)
      (pss_cons (ps_if (pt_not (pt_val (pe_call G_are_rules (hr.mono (by decide)) rfl T.m_are_rules T.F_are_rules.kp T.b_are_rules .nil pass0 (pa_cons (pv 2) (pa_cons (pv 1) pa_nil))))) (pss_one ps_never) pss_nil)
      (pss_cons (ps_fldK K (pv 0) (pv 1))
      (pss_one (ps_fldK K (pv 0) (pe_comp ["self", "columns", "rules"] (defScope s_Rules_init) ["rule"] [none] ⟨rfl, by decide +kernel, by decide +kernel, by decide +kernel, by decide +kernel, by decide +kernel⟩ rfl (pi_listK K (pv 2)) (fun _ _ _ _ _ => (pg_name (i := 0) (by show List.Nodup (["rule"] : List Str); decide +kernel) rfl (Or.inl rfl) (Or.inr rfl))) (fun _ _ _ _ _ => pts_nil) (fun _ _ _ _ _ => (pe_tup (pa_cons (pe_ix (ix_tupK K) (pv 0) pe_int (fun _ _ => rfl)) (pa_cons (pe_ix (ix_tupK K) (pv 0) pe_int (fun _ _ => rfl)) pa_nil)))))))))), ?_⟩
    refine ⟨_, rfl, c, rfl, _, rfl, ?_⟩
    have e : (decide ((1 : Int) ≤ (c : Int)) && decide ((c : Int) ≤ 6)) = true := by simp; omega
    rw [e]
    refine iteF ?_
    refine ⟨_, rfl, _, rfl, l, c, ps, rfl, hP, hG, fun H1 s1 => ⟨_, rfl, iteF ?_⟩⟩
    obtain ⟨ts, hl, htp⟩ := hP.same s1
    have hp1 := s1 _ _ hp
    have npl : l ≠ p := ne_of hl hp1 (by intro z; cases z)
    refine ⟨_, rfl, _, rfl, p, A.c_Rules, dx, [], rfl, hp1, T.cl_Rules, T.na_Rules_columns, by show 0 < 1000; decide, ?_⟩
    -- self.pairs = [(rule[0], rule[1]) for rule in rules]
    have hl2 : (upd H1 p (.ins A.c_Rules dx (putF "columns" (.int (c : Nat)) []))) l = some (.lst (ts.map V.ref)) := by rw [upd_ne npl]; exact hl
    have hln : (ts.map V.ref).length = ps.length := by rw [List.length_map]; exact htp.len
    have htp2 : Tps (upd H1 p (.ins A.c_Rules dx (putF "columns" (.int (c : Nat)) []))) ts ps := by
      have : ∀ {ts : List Addr} {ps : List (Nat × Nat)}, Tps H1 ts ps → Tps (upd H1 p (.ins A.c_Rules dx (putF "columns" (.int (c : Nat)) []))) ts ps := by
        intro ts
        induction ts with
        | nil => intro ps h; cases ps with
          | nil => exact h
          | cons _ _ => exact h
        | cons t ts ih => intro ps h; cases ps with
          | nil => exact h
          | cons q ps => exact ⟨by rw [upd_ne (ne_of h.1 hp1 (by intro z; cases z))]; exact h.1, ih h.2⟩
      exact this htp
    refine ⟨_, rfl, l, rfl, ⟨_, SqL.of hl2⟩, fun D hD => comp_list (xs := ts.map V.ref) (fun i ys H' => Same (upd H1 p (.ins A.c_Rules dx (putF "columns" (.int (c : Nat)) []))) H' ∧ i ≤ ps.length ∧ ∃ qs : List Addr, ys = qs.map V.ref ∧ Tps H' qs (ps.take i)) ⟨Same.new hD, Nat.zero_le _, [], rfl, trivial⟩ (fun i ys H' _ ⟨e, _⟩ => SqL.of (e _ _ hl2)) ?_ ?_⟩
    · rintro i x ys H' hx ⟨se, hi, qs, rfl, hq⟩ hDl
      obtain ⟨t, q, rfl, hqe, ht⟩ := (htp2.same se).get hx
      have hi' : i < ps.length := (List.getElem?_eq_some_iff.mp hqe).1
      have hql : qs.length = i := by rw [hq.len, List.length_take]; omega
      refine yes_mk ?_
      refine ⟨_, rfl, t, _, 0, _, rfl, rfl, SqT.of ht, rfl, _, rfl, t, _, 1, _, rfl, rfl, SqT.of ht, rfl, by show 2 ≤ sizeLine; decide, fun n hn => ?_⟩
      have nD : D ≠ n := ne_of_none hDl hn
      have hDl2 : (upd H' n (.tup [.int (q.1 : Nat), .int (q.2 : Nat)])) D = some (.lst (qs.map V.ref)) := by rw [upd_ne nD]; exact hDl
      refine CE1.mk hDl2 (small1000 (by rw [List.length_map]; omega)) ⟨Same.up (Same.up se (se.free hn)) hD, hi', qs ++ [n], by rw [List.map_append]; rfl, ?_⟩
      have et : ps.take (i + 1) = ps.take i ++ [q] := by rw [List.take_succ, hqe]; rfl
      rw [et]
      exact Tps.snoc (by rw [upd_ne nD.symm, upd_same]) ((hq.same (Same.new hn)).upd hDl2)
    · rintro ys H' ⟨se, hi, qs, rfl, hq⟩ hDl
      rw [hln, List.take_length] at hq
      have hp3 := se p _ upd_same
      have nDp : D ≠ p := ne_of hDl hp3 (by intro z; cases z)
      refine ⟨_, rfl, p, A.c_Rules, dx, _, rfl, hp3, T.cl_Rules, T.na_Rules_pairs, by show 1 < 1000; decide, ?_⟩
      have hq2 : Tps (upd H' p (.ins A.c_Rules dx (flds c D))) qs ps := by
        have : ∀ {ts : List Addr} {ps : List (Nat × Nat)}, Tps H' ts ps → Tps (upd H' p (.ins A.c_Rules dx (flds c D))) ts ps := by
          intro ts
          induction ts with
          | nil => intro ps h; cases ps with
            | nil => exact h
            | cons _ _ => exact h
          | cons t ts ih => intro ps h; cases ps with
            | nil => exact h
            | cons q ps => exact ⟨by rw [upd_ne (ne_of h.1 hp3 (by intro z; cases z))]; exact h.1, ih h.2⟩
        exact this hq
      refine k D _ ?_ ⟨⟨dx, upd_same⟩, qs, by rw [upd_ne nDp]; exact hDl, hq2⟩ fun b o hb hbp => ?_
      · rw [upd_ne nDp] at hD
        exact s1.free hD
      · rw [upd_ne hbp]
        refine se _ _ ?_
        rw [upd_ne hbp]
        exact s1 _ _ hb
theorem ok_Rules_rules (T : Txt K mg A) : FnOk P w K mg base CX0 1 A.f_Rules_rules A.d_Rules_rules ["self"] (sp_Rules_rules A.c_Rules) := by
  refine T.F_Rules_rules.ok sc_Rules_rules (fun vs H Q E h => ?_) (fun cdv A' outer s H vs Q E hr h => ?_)
  · obtain ⟨p, m, c, ps, rfl, _⟩ := h; rfl
  · obtain ⟨p, m, c, ps, rfl, ⟨⟨dx, hp⟩, ts, hm, htp⟩, k⟩ := h
    refine ⟨_, (pss_one (ps_ret (pe_callTy (call_listK K) rfl T.z_list bt_list (pa_cons (pe_fldK K (pv 0)) pa_nil)))), ?_⟩
    exact ⟨_, rfl, p, A.c_Rules, dx, _, _, rfl, hp, T.cl_Rules, T.na_Rules_pairs, flds_pairs _ _, m, _, rfl, .inl (SqL.of hm), fun l hl => k l ts hl htp⟩
end
def nums (ns : List Nat) : List V := ns.map fun n => V.int (n : Nat)
def ltB (m : Nat) (ns : List Nat) : Bool := ns.all fun n => decide (n < m)
def sp_numbers : Sp := fun vs H Q _ => ∃ (l : Addr) (ns : List Nat) (m : Nat), vs = [.ref l, .int (m : Nat)] ∧ H l = some (.lst (nums ns)) ∧ ns.length ≤ 900 ∧ ∀ H', Same H H' → Q (.bl (ltB m ns)) H'
section
variable {P : Program} {w : World} {K : PySem.W.Frag} {mg : Str → Option Value} {base : Heap} {A : Adr}
theorem ok_law_numbers (T : Txt K mg A) : FnOk P w K mg base CX0 1 A.f_law_numbers A.d_law_numbers ["_law_found", "_law_most"] sp_numbers := by
  refine T.F_law_numbers.ok sc_law_numbers (fun vs H Q E h => ?_) (fun cdv A' outer s H vs Q E hr h => ?_)
  · obtain ⟨l, ns, m, rfl, _⟩ := h; rfl
  · obtain ⟨l, ns, m, rfl, hl, hlen, k⟩ := h
    refine ⟨_, (pss_cons (ps_if (pt_not (pt_val (pe_callB (call_isinstK K) rfl T.z_isinstance bt_isinstance (pa_cons (pv 0) (pa_cons (pe_bltn (v := .ty "list") rfl T.z_list bt_list rfl) pa_nil))))) (pss_one (ps_ret pe_bl)) pss_nil)
      (pss_one (ps_ret (pe_callB (call_allK K rfl) rfl T.z_all bt_all (pa_cons (pe_comp ["_law_found", "_law_most"] (defScope s_law_numbers) ["_law_one", "_law_most"] [none, some 1] ⟨rfl, by decide +kernel, by decide +kernel, by decide +kernel, by decide +kernel, by decide +kernel⟩ rfl (pi_listK K (pv 0)) (fun _ _ _ _ _ => (pg_name (i := 0) (by show List.Nodup (["_law_one", "_law_most"] : List Str); decide +kernel) rfl (Or.inl rfl) (Or.inr rfl))) (fun _ _ _ _ _ => pts_nil) (fun _ _ _ _ _ => (pe_and (pe_callB (call_isinstK K) rfl T.z_isinstance bt_isinstance (pa_cons (pv 0) (pa_cons (pe_bltn (v := .ty "int") rfl T.z_int bt_int rfl) pa_nil))) (pe_and (pe_not (pe_callB (call_isinstK K) rfl T.z_isinstance bt_isinstance (pa_cons (pv 0) (pa_cons (pe_bltn (v := .ty "bool") rfl T.z_bool bt_bool rfl) pa_nil)))) (pe_one (pe_chain op_le op_lt pe_int (pv 0) (pv 1))))))) pa_nil))))), ?_⟩
    refine ⟨_, rfl, _, _, _, true, rfl, .lst hl, kit_list_list, true, rfl, iteF ?_⟩
    refine ⟨_, rfl, l, rfl, ⟨_, SqL.of hl⟩, fun D hD => comp_list (xs := nums ns) (fun i ys H' => Same H H' ∧ ys = ((ns.take i).map fun n => decide (n < m)).map V.bl) ⟨Same.new hD, rfl⟩ (fun i ys H' _ ⟨e, _⟩ => SqL.of (e _ _ hl)) ?_ ?_⟩
    · rintro i x ys H' hx ⟨se, rfl⟩ hDl
      have hi : i < ns.length := by
        have := (List.getElem?_eq_some_iff.mp hx).1
        unfold nums at this
        rwa [List.length_map] at this
      have hxe : x = .int ((ns[i] : Nat) : Int) := by
        unfold nums at hx
        rw [List.getElem?_map, List.getElem?_eq_getElem hi] at hx
        exact (Option.some.inj hx).symm
      subst hxe
      refine yes_mk ?_
      refine ⟨_, rfl, _, _, _, true, rfl, .int _, kit_int_int, true, rfl, iteT ?_⟩
      refine ⟨_, rfl, _, _, _, false, rfl, .int _, kit_int_bool, false, rfl, true, rfl, iteT ?_⟩
      refine ⟨_, rfl, 0, _, rfl, rfl, _, rfl, ?_⟩
      have e1 : decide ((0 : Int) ≤ ((ns[i] : Nat) : Int)) = true := decide_eq_true (Int.natCast_nonneg _)
      rw [e1]
      refine iteT ⟨_, rfl, _, _, rfl, rfl, ?_⟩
      have e2 : decide (((ns[i] : Nat) : Int) < ((m : Nat) : Int)) = decide (ns[i] < m) := decide_eq_decide.mpr (by omega)
      show CE1 _ D _ (i + 1) _ (V.bl (decide (((ns[i] : Nat) : Int) < ((m : Nat) : Int)))) H'
      rw [e2]
      refine CE1.mk hDl (small1000 (by rw [List.length_map, List.length_map, List.length_take]; omega)) ⟨Same.up se hD, ?_⟩
      rw [List.take_add_one, List.getElem?_eq_getElem hi, List.map_append, List.map_append]; rfl
    · rintro ys H' ⟨se, rfl⟩ hDl
      have hnl : (nums ns).length = ns.length := by unfold nums; rw [List.length_map]
      rw [hnl, List.take_length] at hDl
      refine ⟨D, _, rfl, SqL.of hDl, ?_⟩
      have e2 : (ns.map fun n => decide (n < m)).all id = ltB m ns := by rw [List.all_map]; rfl
      rw [e2]
      exact k H' se
end
/-! ### the law -/
def pairD (p : Nat × Nat) : PyData := .tuple [.int (p.1 : Nat), .int (p.2 : Nat)]
theorem tps_dt {H : Hp} : ∀ {ts : List Addr} {ps : List (Nat × Nat)}, Tps H ts ps → Dts H (ts.map V.ref) (ps.map pairD)
  | [], [], _ => .nil
  | _ :: _, _ :: _, ⟨h, t⟩ => .cons (.tup h (.cons (.int _) (.cons (.int _) .nil))) (tps_dt t)
  | [], _ :: _, h => h.elim
  | _ :: _, [], h => h.elim
theorem prs_dt {H : Hp} {l : Addr} {ps : List (Nat × Nat)} : PrsAt H l ps → Dt H (.ref l) (.list (ps.map pairD)) := fun ⟨_, h, t⟩ => .lst h (tps_dt t)
theorem lay_pairs : ∀ ps : List (Nat × Nat), PyData.canLayAll0 (ps.map pairD) = true
  | [] => rfl
  | _ :: ps => by
    show (PyData.canLay0 (pairD _) && PyData.canLayAll0 (ps.map pairD)) = true
    rw [lay_pairs ps]; rfl
theorem depth_pairs : ∀ ps : List (Nat × Nat), PyData.depthAll (ps.map pairD) ≤ 1
  | [] => Nat.zero_le _
  | _ :: ps => Nat.max_le.mpr ⟨by show 1 ≤ 1; decide, depth_pairs ps⟩
theorem nums_dt {H : Hp} : ∀ (ns : List Nat), Dts H (nums ns) (ns.map fun n => PyData.int (n : Nat))
  | [] => .nil
  | _ :: ns => .cons (.int _) (nums_dt ns)
theorem lay_nums : ∀ ns : List Nat, PyData.canLayAll0 (ns.map fun n => PyData.int (n : Nat)) = true
  | [] => rfl
  | _ :: ns => by
    show (PyData.canLay0 (.int _) && PyData.canLayAll0 (ns.map fun n => PyData.int (n : Nat))) = true
    rw [lay_nums ns]; rfl
theorem depth_nums : ∀ ns : List Nat, PyData.depthAll (ns.map fun n => PyData.int (n : Nat)) ≤ 1
  | [] => Nat.zero_le _
  | _ :: ns => Nat.max_le.mpr ⟨Nat.zero_le _, depth_nums ns⟩
theorem menu (x : Int) : ∃ c : Nat, 1 ≤ c ∧ c ≤ 6 ∧ atI [V.int 3, V.int 4, V.int 2, V.int 5, V.int 3, V.int 4, V.int 1, V.int 6] (x % 8) = some (.int (c : Nat)) := by
  have h : x % 8 = 0 ∨ x % 8 = 1 ∨ x % 8 = 2 ∨ x % 8 = 3 ∨ x % 8 = 4 ∨ x % 8 = 5 ∨ x % 8 = 6 ∨ x % 8 = 7 := by omega
  rcases h with h | h | h | h | h | h | h | h <;> rw [h]
  · exact ⟨3, by decide, by decide, rfl⟩
  · exact ⟨4, by decide, by decide, rfl⟩
  · exact ⟨2, by decide, by decide, rfl⟩
  · exact ⟨5, by decide, by decide, rfl⟩
  · exact ⟨3, by decide, by decide, rfl⟩
  · exact ⟨4, by decide, by decide, rfl⟩
  · exact ⟨1, by decide, by decide, rfl⟩
  · exact ⟨6, by decide, by decide, rfl⟩
theorem and64 : ∀ a, a < 64 → ∀ i, i < 6 → ((a &&& 2 ^ i) != 0) = a.testBit i := by decide +kernel
theorem and_bit {a i : Nat} (ha : a < 64) (hi : i < 6) : (Builtin.bitAnd (a : Int) ((1 : Int) * 2 ^ ((i : Int)).toNat) != 0) = a.testBit i := by
  rw [shl_nat, and_nat, ← and64 a ha i hi]
  generalize a &&& 2 ^ i = z
  cases z with
  | zero => rfl
  | succ n => rfl
theorem nums_snoc (ns : List Nat) (n : Nat) : nums (ns ++ [n]) = nums ns ++ [.int (n : Nat)] := by unfold nums; rw [List.map_append]; rfl
theorem nums_len (ns : List Nat) : (nums ns).length = ns.length := by unfold nums; rw [List.length_map]
theorem nums_at {ns : List Nat} {i : Nat} {x : V} (h : (nums ns)[i]? = some x) : ∃ n, ns[i]? = some n ∧ x = .int (n : Nat) := by
  unfold nums at h
  rw [List.getElem?_map] at h
  cases e : ns[i]? with
  | none => rw [e] at h; cases h
  | some n => rw [e] at h; exact ⟨n, rfl, (Option.some.inj h).symm⟩
theorem nums_inj : ∀ {a b : List Nat}, nums a = nums b → a = b
  | [], [], _ => rfl
  | [], _ :: _, h => by cases h
  | _ :: _, [], h => by cases h
  | x :: a, y :: b, h => by
    have h' : V.int (x : Nat) :: nums a = V.int (y : Nat) :: nums b := h
    injection h' with h1 h2
    injection h1 with h1
    rw [nums_inj h2, Int.ofNat.inj h1]
theorem eqv_numsD : ∀ a b : List Nat, PyData.eqvAll (a.map fun n => PyData.int (n : Nat)) (b.map fun n => PyData.int (n : Nat)) = decide (a = b)
  | [], [] => rfl
  | [], _ :: _ => by simp [PyData.eqvAll]
  | _ :: _, [] => by simp [PyData.eqvAll]
  | x :: a, y :: b => by
    show (((x : Int) == (y : Int)) && PyData.eqvAll (a.map fun n => PyData.int (n : Nat)) (b.map fun n => PyData.int (n : Nat))) = _
    rw [eqv_numsD a b]
    by_cases h : x = y
    · subst h; simp
    · have h1 : ((x : Int) == (y : Int)) = false := by
        rw [beq_eq_false_iff_ne]; omega
      rw [h1]; simp [h]
theorem getD_at {r : List Nat} {j : Nat} (h : j < r.length) : r[j]? = some (r.getD j 0) := by simp [List.getD, h]
theorem take_mem {α : Type} {rs : List α} {i : Nat} {r a : α} (h : rs[i]? = some r) : a ∈ rs.take (i + 1) ↔ a ∈ rs.take i ∨ a = r := by
  rw [List.take_succ, h, List.mem_append]; simp
/-- rows stand at ts -/
def Rws (H : Hp) : List Addr → List (List Nat) → Prop
  | [], [] => True
  | t :: ts, r :: rs => H t = some (.lst (nums r)) ∧ Rws H ts rs
  | _, _ => False
theorem Rws.same {H H' : Hp} (e : Same H H') : ∀ {ts : List Addr} {rs : List (List Nat)}, Rws H ts rs → Rws H' ts rs
  | [], [], _ => trivial
  | _ :: _, _ :: _, ⟨h, t⟩ => ⟨e _ _ h, Rws.same e t⟩
  | [], _ :: _, h => h.elim
  | _ :: _, [], h => h.elim
theorem Rws.len {H : Hp} : ∀ {ts : List Addr} {rs : List (List Nat)}, Rws H ts rs → ts.length = rs.length
  | [], [], _ => rfl
  | _ :: _, _ :: _, ⟨_, t⟩ => congrArg (· + 1) (Rws.len t)
  | [], _ :: _, h => h.elim
  | _ :: _, [], h => h.elim
theorem Rws.get {H : Hp} : ∀ {ts : List Addr} {rs : List (List Nat)} {i : Nat} {v : V}, Rws H ts rs → (ts.map V.ref)[i]? = some v → ∃ t r, v = .ref t ∧ rs[i]? = some r ∧ H t = some (.lst (nums r))
  | [], [], i, v, _, h => by simp at h
  | t :: _, r :: _, 0, v, ⟨h, _⟩, e => ⟨t, r, by simpa using e.symm, by simp, h⟩
  | _ :: _, _ :: _, i + 1, v, ⟨_, t⟩, e => by
    obtain ⟨a, b, h1, h2, h3⟩ := Rws.get (i := i) t (by simpa using e)
    exact ⟨a, b, h1, by simpa using h2, h3⟩
  | [], _ :: _, _, _, h, _ => h.elim
  | _ :: _, [], _, _, h, _ => h.elim
theorem Rws.snoc {H : Hp} {t : Addr} {r : List Nat} (e : H t = some (.lst (nums r))) : ∀ {ts : List Addr} {rs : List (List Nat)}, Rws H ts rs → Rws H (ts ++ [t]) (rs ++ [r])
  | [], [], _ => ⟨e, trivial⟩
  | _ :: _, _ :: _, ⟨h, t⟩ => ⟨h, Rws.snoc e t⟩
  | [], _ :: _, h => h.elim
  | _ :: _, [], h => h.elim
def TblAt (H : Hp) (l : Addr) (rs : List (List Nat)) : Prop := ∃ ts : List Addr, H l = some (.lst (ts.map V.ref)) ∧ Rws H ts rs
theorem TblAt.same {H H' : Hp} (e : Same H H') {l : Addr} {rs : List (List Nat)} : TblAt H l rs → TblAt H' l rs := fun ⟨ts, h, t⟩ => ⟨ts, e _ _ h, t.same e⟩
/-- a table of c columns -/
def GoodT (c : Nat) (rs : List (List Nat)) : Prop := rs.length ≤ 64 ∧ ∀ r ∈ rs, r.length = c ∧ ∀ n ∈ r, n ≤ 99
/-- what a row has in a set of columns -/
def cellsI (r : List Nat) (s i : Nat) : List Nat := ((List.range i).filter fun j => s.testBit j).map fun j => r.getD j 0
def cellsN (r : List Nat) (s : Nat) : List Nat := cellsI r s r.length
theorem cellsI_succ (r : List Nat) (s i : Nat) : cellsI r s (i + 1) = cellsI r s i ++ (if s.testBit i = true then [r.getD i 0] else []) := by
  unfold cellsI
  rw [List.range_succ, List.filter_append, List.map_append]
  congr 1
  by_cases h : s.testBit i = true
  · rw [if_pos h, List.filter_cons, if_pos h]; rfl
  · rw [if_neg h, List.filter_cons, if_neg h]; rfl
theorem cellsI_len (r : List Nat) (s i : Nat) : (cellsI r s i).length ≤ i := by
  unfold cellsI
  rw [List.length_map]
  exact Nat.le_trans (List.length_filter_le _ _) (by rw [List.length_range]; exact Nat.le_refl _)
/-- whether a table keeps a rule -/
def Keeps (rs : List (List Nat)) (p : Nat × Nat) : Prop := ∀ a ∈ rs, ∀ b ∈ rs, cellsN a p.1 = cellsN b p.1 → cellsN a p.2 = cellsN b p.2
instance (rs : List (List Nat)) (p : Nat × Nat) : Decidable (Keeps rs p) := by unfold Keeps; infer_instance
/-! ### rows and tables, good or not -/
def rowB (c : Nat) (r : List Nat) : Bool := decide (r.length = c) && r.all fun n => decide (n ≤ 99)
def tabB (c : Nat) (rs : List (List Nat)) : Bool := decide (rs.length ≤ 64) && rs.all (rowB c)
theorem tabB_good {c : Nat} {rs : List (List Nat)} (h : tabB c rs = true) : GoodT c rs := by
  unfold tabB at h
  rw [Bool.and_eq_true] at h
  refine ⟨of_decide_eq_true h.1, fun r hr => ?_⟩
  have h2 := List.all_eq_true.mp h.2 r hr
  unfold rowB at h2
  rw [Bool.and_eq_true] at h2
  exact ⟨of_decide_eq_true h2.1, fun n hn => of_decide_eq_true (List.all_eq_true.mp h2.2 n hn)⟩
def bls (bs : List Bool) : List V := bs.map V.bl
theorem bls_len (bs : List Bool) : (bls bs).length = bs.length := by unfold bls; rw [List.length_map]
theorem bls_snoc (bs : List Bool) (b : Bool) : bls (bs ++ [b]) = bls bs ++ [.bl b] := by unfold bls; rw [List.map_append]; rfl
theorem map_take {α β : Type} (f : α → β) {xs : List α} {i : Nat} {x : α} (h : xs[i]? = some x) : (xs.take (i + 1)).map f = (xs.take i).map f ++ [f x] := by
  rw [List.take_add_one, h, List.map_append]; rfl
theorem all_map {α : Type} (f : α → Bool) (xs : List α) : (xs.map f).all id = xs.all f := by
  rw [List.all_map]; rfl
def sp_is_row : Sp := fun vs H Q _ => ∃ (l : Addr) (c : Nat) (r : List Nat), vs = [.ref l, .int (c : Nat)] ∧ c ≤ 6 ∧ H l = some (.lst (nums r)) ∧ ∀ H', Same H H' → Q (.bl (rowB c r)) H'
def sp_is_table : Sp := fun vs H Q _ => ∃ (l : Addr) (c : Nat) (rs : List (List Nat)), vs = [.ref l, .int (c : Nat)] ∧ c ≤ 6 ∧ TblAt H l rs ∧ ∀ H', Same H H' → Q (.bl (tabB c rs)) H'
section
variable {P : Program} {w : World} {K : PySem.W.Frag} {mg : Str → Option Value} {base : Heap} {A : Adr}
theorem ok_is_row (T : Txt K mg A) : FnOk P w K mg base CX0 3 A.f_is_row A.d_is_row ["value", "columns"] sp_is_row := by
  have G_is_list := ok_is_list (P := P) (w := w) (base := base) T
  have G_is_number := ok_is_number (P := P) (w := w) (base := base) T
  refine T.F_is_row.ok sc_is_row (fun vs H Q E h => ?_) (fun cdv A' outer s H vs Q E hr h => ?_)
  · obtain ⟨l, c, r, rfl, _⟩ := h; rfl
  · obtain ⟨l, c, r, rfl, hc, hl, k⟩ := h
    refine ⟨_, (pss_cons (ps_if (pt_not (pt_val (pe_call G_is_list (hr.mono (by decide)) rfl T.m_is_list T.F_is_list.kp T.b_is_list .nil pass0 (pa_cons (pv 0) (pa_cons (pv 1) (pa_cons (pv 1) pa_nil)))))) (pss_one (ps_ret pe_bl)) pss_nil)
      (pss_one (ps_ret (pe_callB (call_allK K rfl) rfl T.z_all bt_all (pa_cons (pe_comp ["value", "columns"] (defScope s_is_row) ["number"] [none] ⟨rfl, by decide +kernel, by decide +kernel, by decide +kernel, by decide +kernel, by decide +kernel⟩ rfl (pi_listK K (pv 0)) (fun _ _ _ _ _ => (pg_name (i := 0) (by show List.Nodup (["number"] : List Str); decide +kernel) rfl (Or.inl rfl) (Or.inr rfl))) (fun _ _ _ _ _ => pts_nil) (fun _ _ _ _ _ => (pe_call G_is_number (hr.mono (by decide)) rfl T.m_is_number T.F_is_number.kp T.b_is_number .nil pass0 (pa_cons (pv 0) (pa_cons pe_int (pa_cons (pe_glob (v := .int 99) rfl T.g_MOST_NUMBER.choose_spec ⟨_, rfl⟩) pa_nil)))))) pa_nil))))), ?_⟩
    refine ⟨_, rfl, _, rfl, _, rfl, l, nums r, (c : Int), (c : Int), rfl, hl, _, rfl, ?_⟩
    by_cases hlen : r.length = c
    · have e : (decide ((c : Int) ≤ ((nums r).length : Int)) && decide (((nums r).length : Int) ≤ (c : Int))) = true := by
        rw [nums_len, hlen]; simp
      rw [e]
      refine iteF ?_
      refine ⟨_, rfl, l, rfl, ⟨_, SqL.of hl⟩, fun D hD => comp_list (xs := nums r) (fun i ys H' => Same H H' ∧ ys = bls ((r.take i).map fun n => decide (n ≤ 99)) ∧ i ≤ r.length) ⟨Same.new hD, rfl, Nat.zero_le _⟩ (fun i ys H' _ ⟨e, _⟩ => SqL.of (e _ _ hl)) ?_ ?_⟩
      · rintro i x ys H' hx ⟨se, rfl, hi⟩ hDl
        obtain ⟨n, hn, rfl⟩ := nums_at hx
        have hi' : i < r.length := (List.getElem?_eq_some_iff.mp hn).1
        refine yes_mk ?_
        refine ⟨_, rfl, (n : Int), 0, 99, rfl, ?_⟩
        have e2 : (decide ((0 : Int) ≤ (n : Int)) && decide ((n : Int) ≤ 99)) = decide (n ≤ 99) := by
          rw [decide_eq_true (Int.natCast_nonneg n), Bool.true_and]
          exact decide_eq_decide.mpr (by omega)
        rw [e2]
        refine CE1.mk hDl (small1000 (by rw [bls_len, List.length_map, List.length_take]; omega)) ⟨Same.up se hD, ?_, hi'⟩
        rw [map_take _ hn, bls_snoc]
      · rintro ys H' ⟨se, rfl, _⟩ hDl
        rw [nums_len, List.take_length] at hDl
        refine ⟨D, _, rfl, SqL.of hDl, ?_⟩
        have z := k H' se
        unfold rowB at z
        rw [decide_eq_true hlen, Bool.true_and] at z
        rw [all_map]
        exact z
    · have e : (decide ((c : Int) ≤ ((nums r).length : Int)) && decide (((nums r).length : Int) ≤ (c : Int))) = false := by
        rw [nums_len, Bool.and_eq_false_iff]
        by_cases q : c ≤ r.length
        · exact .inr (decide_eq_false (by omega))
        · exact .inl (decide_eq_false (by omega))
      rw [e]
      refine iteT ?_
      have z := k H (Same.refl _)
      unfold rowB at z
      rw [decide_eq_false hlen, Bool.false_and] at z
      exact z
theorem ok_is_table (T : Txt K mg A) : FnOk P w K mg base CX0 5 A.f_is_table A.d_is_table ["value", "columns"] sp_is_table := by
  have G_is_list := ok_is_list (P := P) (w := w) (base := base) T
  have G_is_row := ok_is_row (P := P) (w := w) (base := base) T
  refine T.F_is_table.ok sc_is_table (fun vs H Q E h => ?_) (fun cdv A' outer s H vs Q E hr h => ?_)
  · obtain ⟨l, c, rs, rfl, _⟩ := h; rfl
  · obtain ⟨l, c, rs, rfl, hc, ⟨ts, hl, htp⟩, k⟩ := h
    refine ⟨_, (pss_cons (ps_if (pt_not (pt_val (pe_call G_is_list (hr.mono (by decide)) rfl T.m_is_list T.F_is_list.kp T.b_is_list .nil pass0 (pa_cons (pv 0) (pa_cons pe_int (pa_cons (pe_glob (v := .int 64) rfl T.g_MOST_ROWS.choose_spec ⟨_, rfl⟩) pa_nil)))))) (pss_one (ps_ret pe_bl)) pss_nil)
      (pss_one (ps_ret (pe_callB (call_allK K rfl) rfl T.z_all bt_all (pa_cons (pe_comp ["value", "columns"] (defScope s_is_table) ["row", "columns"] [none, some 1] ⟨rfl, by decide +kernel, by decide +kernel, by decide +kernel, by decide +kernel, by decide +kernel⟩ rfl (pi_listK K (pv 0)) (fun _ _ _ _ _ => (pg_name (i := 0) (by show List.Nodup (["row", "columns"] : List Str); decide +kernel) rfl (Or.inl rfl) (Or.inr rfl))) (fun _ _ _ _ _ => pts_nil) (fun _ _ _ _ _ => (pe_call G_is_row (hr.mono (by decide)) rfl T.m_is_row T.F_is_row.kp T.b_is_row .nil pass0 (pa_cons (pv 0) (pa_cons (pv 1) pa_nil))))) pa_nil))))), ?_⟩
    have hln : (ts.map V.ref).length = rs.length := by rw [List.length_map]; exact htp.len
    refine ⟨_, rfl, l, ts.map V.ref, 0, 64, rfl, hl, _, rfl, ?_⟩
    by_cases hlen : rs.length ≤ 64
    · have e : (decide ((0 : Int) ≤ ((ts.map V.ref).length : Int)) && decide (((ts.map V.ref).length : Int) ≤ 64)) = true := by
        rw [hln]; simp; omega
      rw [e]
      refine iteF ?_
      refine ⟨_, rfl, l, rfl, ⟨_, SqL.of hl⟩, fun D hD => comp_list (xs := ts.map V.ref) (fun i ys H' => Same H H' ∧ ys = bls ((rs.take i).map (rowB c)) ∧ i ≤ rs.length) ⟨Same.new hD, rfl, Nat.zero_le _⟩ (fun i ys H' _ ⟨e, _⟩ => SqL.of (e _ _ hl)) ?_ ?_⟩
      · rintro i x ys H' hx ⟨se, rfl, hi⟩ hDl
        obtain ⟨t, r, rfl, hp, ht⟩ := (htp.same se).get hx
        have hi' : i < rs.length := (List.getElem?_eq_some_iff.mp hp).1
        refine yes_mk ?_
        refine ⟨_, rfl, _, rfl, t, c, r, rfl, hc, ht, fun H2 s2 => ?_⟩
        refine CE1.mk (s2 _ _ hDl) (small1000 (by rw [bls_len, List.length_map, List.length_take]; omega)) ⟨Same.up (se.trans s2) hD, ?_, hi'⟩
        rw [map_take _ hp, bls_snoc]
      · rintro ys H' ⟨se, rfl, _⟩ hDl
        rw [hln, List.take_length] at hDl
        refine ⟨D, _, rfl, SqL.of hDl, ?_⟩
        have z := k H' se
        unfold tabB at z
        rw [decide_eq_true hlen, Bool.true_and] at z
        rw [all_map]
        exact z
    · have e : (decide ((0 : Int) ≤ ((ts.map V.ref).length : Int)) && decide (((ts.map V.ref).length : Int) ≤ 64)) = false := by
        rw [hln, Bool.and_eq_false_iff]
        exact .inr (decide_eq_false (by omega))
      rw [e]
      refine iteT ?_
      have z := k H (Same.refl _)
      unfold tabB at z
      rw [decide_eq_false hlen, Bool.false_and] at z
      exact z
end
end K05

namespace K05
open PySem L2 TC
def sp_is_within : Sp := fun vs H Q _ => ∃ a b : Nat, vs = [.int (a : Nat), .int (b : Nat)] ∧ Q (.bl (decide (Sb a b))) H
def sp_spread : Sp := fun vs H Q _ => ∃ (l : Addr) (s : Nat) (ps : List (Nat × Nat)), vs = [.ref l, .int (s : Nat)] ∧ PrsAt H l ps ∧ s < 64 ∧ (∀ p ∈ ps, p.2 < 64) ∧ Q (.int (cl ps s : Nat)) H
section
variable {P : Program} {w : World} {K : PySem.W.Frag} {mg : Str → Option Value} {base : Heap} {A : Adr}
theorem ok_is_within (T : Txt K mg A) : FnOk P w K mg base CX0 1 A.f_is_within A.d_is_within ["some", "whole"] sp_is_within := by
  refine T.F_is_within.ok sc_is_within (fun vs H Q E h => ?_) (fun cdv A' outer s H vs Q E hr h => ?_)
  · obtain ⟨a, b, rfl, _⟩ := h; rfl
  · obtain ⟨a, b, rfl, k⟩ := h
    refine ⟨_, (pss_one (ps_ret (pe_cmpR op_eq (pe_op op_or (pv 0) (pv 1)) (pv 1) (nomark _)))), ?_⟩
    refine ⟨_, rfl, _, rfl, (a : Int), (b : Int), rfl, rfl, _, rfl, rfl, ?_⟩
    have e : decide (V.int (Builtin.bitOr (a : Int) (b : Int)) = V.int (b : Int)) = decide (Sb a b) := by
      rw [or_nat]
      by_cases h : Sb a b
      · have h' : a ||| b = b := h
        rw [decide_eq_true h, h']; simp
      · rw [decide_eq_false h]
        refine decide_eq_false fun z => h ?_
        injection z with z
        show a ||| b = b
        omega
    rw [e]
    exact k
/-- the measure of spread's while -/
def mu : St → Hp → Nat := fun σ _ => match σ with
  | [_, _, some (.int kn), some bf, _] => 2 * (64 - kn.toNat) + (if bf = .int kn then 0 else 1)
  | _ => 0
theorem pass_take {ps : List (Nat × Nat)} {i : Nat} {p : Nat × Nat} (h : ps[i]? = some p) (s : Nat) : pass (ps.take (i + 1)) s = stp (pass (ps.take i) s) p := by
  rw [List.take_succ, h]
  unfold pass
  rw [List.foldl_append]; rfl
theorem ok_spread (T : Txt K mg A) : FnOk P w K mg base CX0 3 A.f_spread A.d_spread ["pairs", "some"] sp_spread := by
  have G_is_within := ok_is_within (P := P) (w := w) (base := base) T
  refine T.F_spread.ok sc_spread (fun vs H Q E h => ?_) (fun cdv A' outer s H vs Q E hr h => ?_)
  · obtain ⟨l, s, ps, rfl, _⟩ := h; rfl
  · obtain ⟨l, s, ps, rfl, ⟨ts, hl, htp⟩, hs, hps, k⟩ := h
    have hln : (ts.map V.ref).length = ps.length := by rw [List.length_map]; exact htp.len
    refine ⟨_, (pss_cons (ps_set (i := 2) sc_spread.nd rfl (Or.inl rfl) (pv 1))
      (pss_cons (ps_set (i := 3) sc_spread.nd rfl (Or.inl rfl) pe_non)
      (pss_cons (ps_while PassesOwn.never (pt_cmpR op_ne (pv 2) (pv 3) (nomark _)) (pss_cons (ps_set (i := 3) sc_spread.nd rfl (Or.inl rfl) (pv 2))
      (pss_one (ps_for PassesOwn.never rfl (pi_listK K (pv 0)) (pg_name (i := 4) sc_spread.nd rfl (Or.inl rfl))
      (pss_one (ps_if (pt_val (pe_call G_is_within (hr.mono (by decide)) rfl T.m_is_within T.F_is_within.kp T.b_is_within .nil pass0 (pa_cons (pe_ix (ix_tupK K) (pv 4) pe_int (fun _ _ => rfl)) (pa_cons (pv 2) pa_nil)))) (pss_one (ps_set (i := 2) sc_spread.nd rfl (Or.inl rfl) (pe_op op_or (pv 2) (pe_ix (ix_tupK K) (pv 4) pe_int (fun _ _ => rfl))))) pss_nil))))))
      (pss_one (ps_ret (pv 2)))))), ?_⟩
    refine ⟨_, rfl, ?_⟩
    refine while_by (fun σ H' => H' = H ∧ ∃ (j : Nat) (bf : V) (rl : Option V), σ = [some (.ref l), some (.int (s : Nat)), some (.int (passN ps j s : Nat)), some bf, rl] ∧ (bf = .non ∨ ∃ i, j = i + 1 ∧ bf = .int (passN ps i s : Nat))) mu ⟨rfl, 0, .non, none, rfl, .inl rfl⟩ ?_ (fun σ H Q Q' hq ⟨v, e, v', e', hs, k, ek, q⟩ => ⟨v, e, v', e', hs, k, ek, hq _ _ q⟩)
    rintro σ H' ⟨rfl, j, bf, rl, rfl, hbf⟩
    refine ⟨_, rfl, _, rfl, (by rcases hbf with rfl | ⟨i, _, rfl⟩ <;> rfl), _, rfl, ?_⟩
    by_cases hb : V.int (passN ps j s : Nat) = bf
    · refine iteNS hb ?_
      refine ⟨_, rfl, ?_⟩
      rcases hbf with rfl | ⟨i, rfl, rfl⟩
      · cases hb
      · have e1 : passN ps (i + 1) s = passN ps i s := by injection hb with hb; omega
        have e2 : pass ps (passN ps i s) = passN ps i s := by rw [← passN_succ]; exact e1
        rw [e1, cl_of e2]
        exact k
    · have e1 : (!decide (V.int (passN ps j s : Nat) = bf)) = true := by rw [decide_eq_false hb]; rfl
      rw [e1]
      refine iteT ?_
      have hsub : ∀ p ∈ ps, p.2 < 2 ^ 6 := fun p hp => hps p hp
      have hkn : passN ps j s < 64 := passN_lt (k := 6) hsub j hs
      refine ⟨_, rfl, _, rfl, l, rfl, ⟨_, SqL.of hl⟩, for_list (K := K) (a := l) (xs := ts.map V.ref) (fun i σ' H'' => H'' = H' ∧ ∃ rl : Option V, σ' = [some (.ref l), some (.int (s : Nat)), some (.int (pass (ps.take i) (passN ps j s) : Nat)), some (.int (passN ps j s : Nat)), rl])
        ⟨rfl, rl, rfl⟩ (fun i σ' H'' _ ⟨e, _⟩ => by subst e; exact SqL.of hl) ?_ ?_⟩
      · rintro i x σ' H'' hx ⟨rfl, rl', rfl⟩
        obtain ⟨t, p, rfl, hp, ht⟩ := htp.get hx
        refine ⟨_, rfl, t, _, 0, _, rfl, rfl, SqT.of ht, rfl, _, rfl, p.1, pass (ps.take i) (passN ps j s), rfl, _, rfl, ?_⟩
        refine ite2 (fun e => ?_) (fun e => ?_)
        · refine ⟨_, rfl, _, rfl, t, _, 1, _, rfl, rfl, SqT.of ht, rfl, _, _, rfl, rfl, ?_⟩
          refine ⟨rfl, some (.ref t), ?_⟩
          rw [pass_take hp]
          unfold stp
          rw [if_pos (of_decide_eq_true e), ← or_nat]
          rfl
        · refine ⟨rfl, some (.ref t), ?_⟩
          rw [pass_take hp]
          unfold stp
          rw [if_neg (fun z => e (decide_eq_true z))]
          rfl
      · rintro σ' H'' ⟨rfl, rl', rfl⟩
        rw [hln, List.take_length]
        refine ⟨⟨rfl, j + 1, .int (passN ps j s : Nat), rl', by rw [passN_succ], .inr ⟨j, rfl, rfl⟩⟩, ?_⟩
        have hsb : Sb (passN ps j s) (pass ps (passN ps j s)) := pass_sub ps _
        have hlt : pass ps (passN ps j s) < 64 := pass_lt (k := 6) hkn hsub
        have hle := hsb.le
        have hne : ¬ bf = V.int (passN ps j s : Nat) := fun z => hb z.symm
        show 2 * (64 - ((pass ps (passN ps j s) : Nat) : Int).toNat) + (if V.int (passN ps j s : Nat) = V.int (pass ps (passN ps j s) : Nat) then 0 else 1) < 2 * (64 - ((passN ps j s : Nat) : Int).toNat) + (if bf = V.int (passN ps j s : Nat) then 0 else 1)
        rw [if_neg hne, Int.toNat_natCast, Int.toNat_natCast]
        by_cases hq : pass ps (passN ps j s) = passN ps j s
        · rw [hq, if_pos rfl]; omega
        · rw [if_neg (fun z => hq (by injection z with z; omega))]; omega
end
def sp_law_told : Sp := fun vs H Q _ => ∃ (l : Addr) (s : Nat) (ps : List (Nat × Nat)), vs = [.ref l, .int (s : Nat)] ∧ PrsAt H l ps ∧ Q (.int (cl ps s : Nat)) H
section
variable {P : Program} {w : World} {K : PySem.W.Frag} {mg : Str → Option Value} {base : Heap} {A : Adr}
theorem ok_law_told (T : Txt K mg A) : FnOk P w K mg base CX0 1 A.f_law_told A.d_law_told ["_law_pairs_here", "_law_some"] sp_law_told := by
  refine T.F_law_told.ok sc_law_told (fun vs H Q E h => ?_) (fun cdv A' outer s H vs Q E hr h => ?_)
  · obtain ⟨l, s, ps, rfl, _⟩ := h; rfl
  · obtain ⟨l, s, ps, rfl, ⟨ts, hl, htp⟩, k⟩ := h
    have hln : (ts.map V.ref).length = ps.length := by rw [List.length_map]; exact htp.len
    refine ⟨_, (pss_cons (ps_set (i := 2) sc_law_told.nd rfl (Or.inl rfl) (pv 1))
      (pss_cons (ps_for PassesOwn.never rfl (pi_listK K (pv 0)) (pg_name (i := 3) sc_law_told.nd rfl (Or.inl rfl))
      (pss_one (ps_for PassesOwn.never rfl (pi_listK K (pv 0)) (pg_tupK K (n := 2) rfl (pgs_cons (pg_name (i := 4) sc_law_told.nd rfl (Or.inl rfl)) (pgs_cons (pg_name (i := 5) sc_law_told.nd rfl (Or.inl rfl)) pgs_nil)))
      (pss_one (ps_if (pt_cmpR op_eq (pe_op op_and (pv 2) (pv 4)) (pv 4) (nomark _)) (pss_one (ps_set (i := 2) sc_law_told.nd rfl (Or.inl rfl) (pe_op op_or (pv 2) (pv 5)))) pss_nil)))))
      (pss_one (ps_ret (pv 2))))), ?_⟩
    refine ⟨_, rfl, _, rfl, l, rfl, ⟨_, SqL.of hl⟩, for_list (K := K) (a := l) (xs := ts.map V.ref) (fun i σ' H' => H' = H ∧ ∃ tv lv rv : Option V, σ' = [some (.ref l), some (.int (s : Nat)), some (.int (passN ps i s : Nat)), tv, lv, rv])
      ⟨rfl, none, none, none, rfl⟩ (fun i σ' H' _ ⟨e, _⟩ => by subst e; exact SqL.of hl) ?_ ?_⟩
    · rintro i x σ' H' hx ⟨rfl, tv, lv, rv, rfl⟩
      refine ⟨_, rfl, l, rfl, ⟨_, SqL.of hl⟩, for_list (K := K) (a := l) (xs := ts.map V.ref) (fun j σ' H'' => H'' = H' ∧ ∃ tv lv rv : Option V, σ' = [some (.ref l), some (.int (s : Nat)), some (.int (pass (ps.take j) (passN ps i s) : Nat)), tv, lv, rv])
        ⟨rfl, _, _, _, rfl⟩ (fun i σ' H'' _ ⟨e, _⟩ => by subst e; exact SqL.of hl) ?_ ?_⟩
      · rintro j y σ' H'' hy ⟨rfl, tv', lv', rv', rfl⟩
        obtain ⟨t, p, rfl, hp, ht⟩ := htp.get hy
        refine ⟨t, _, rfl, SqT.of ht, rfl, _, _, rfl, _, _, rfl, rfl, ?_⟩
        refine ⟨_, rfl, _, rfl, _, _, rfl, rfl, _, rfl, rfl, _, rfl, ?_⟩
        have e0 : decide (V.int (Builtin.bitAnd ((pass (ps.take j) (passN ps i s) : Nat) : Int) ((p.1 : Nat) : Int)) = V.int ((p.1 : Nat) : Int)) = decide (Sb p.1 (pass (ps.take j) (passN ps i s))) := by
          rw [and_nat]
          by_cases h : Sb p.1 (pass (ps.take j) (passN ps i s))
          · rw [decide_eq_true h, sub_and.mp h]; simp
          · rw [decide_eq_false h]
            refine decide_eq_false fun z => h (sub_and.mpr ?_)
            injection z with z
            omega
        rw [e0]
        refine ite2 (fun e => ?_) (fun e => ?_)
        · refine ⟨_, rfl, _, rfl, _, _, rfl, rfl, ?_⟩
          refine ⟨rfl, tv', some (.int (p.1 : Nat)), some (.int (p.2 : Nat)), ?_⟩
          rw [pass_take hp]
          unfold stp
          rw [if_pos (of_decide_eq_true e), ← or_nat]
          rfl
        · refine ⟨rfl, tv', some (.int (p.1 : Nat)), some (.int (p.2 : Nat)), ?_⟩
          rw [pass_take hp]
          unfold stp
          rw [if_neg (fun z => e (decide_eq_true z))]
          rfl
      · rintro σ' H'' ⟨rfl, tv', lv', rv', rfl⟩
        rw [hln, List.take_length]
        exact ⟨rfl, tv', lv', rv', by rw [passN_succ]⟩
    · rintro σ' H' ⟨rfl, tv, lv, rv, rfl⟩
      refine ⟨_, rfl, ?_⟩
      rw [hln]
      exact k
end
def sp_cells : Sp := fun vs H Q _ => ∃ (l : Addr) (r : List Nat) (s : Nat), vs = [.ref l, .int (s : Nat)] ∧ H l = some (.lst (nums r)) ∧ r.length ≤ 6 ∧ s < 64 ∧ ∀ (t : Addr) (H' : Hp), H t = none → Same H H' → H' t = some (.tup (nums (cellsN r s))) → Q (.ref t) H'
section
variable {P : Program} {w : World} {K : PySem.W.Frag} {mg : Str → Option Value} {base : Heap} {A : Adr}
theorem ok_cells (T : Txt K mg A) : FnOk P w K mg base CX0 1 A.f_cells A.d_cells ["row", "some"] sp_cells := by
  refine T.F_cells.ok sc_cells (fun vs H Q E h => ?_) (fun cdv A' outer s H vs Q E hr h => ?_)
  · obtain ⟨l, r, s, rfl, _⟩ := h; rfl
  · obtain ⟨l, r, s, rfl, hl, hr6, hs, k⟩ := h
    refine ⟨_, (pss_one (ps_ret (pe_callTy (call_tupleK K) rfl T.z_tuple bt_tuple (pa_cons (pe_comp ["row", "some"] (defScope s_cells) ["column", "number", "some"] [none, none, some 1] ⟨rfl, by decide +kernel, by decide +kernel, by decide +kernel, by decide +kernel, by decide +kernel⟩ rfl (pi_enumK K rfl T.z_enumerate bt_enumerate (pa_cons (pv 0) pa_nil)) (fun _ _ _ _ _ => pg_tupK K (n := 2) rfl (pgs_cons (pg_name (i := 0) (by show List.Nodup (["column", "number", "some"] : List Str); decide +kernel) rfl (Or.inl rfl) (Or.inr rfl)) (pgs_cons (pg_name (i := 1) (by show List.Nodup (["column", "number", "some"] : List Str); decide +kernel) rfl (Or.inl rfl) (Or.inr rfl)) pgs_nil))) (fun _ _ _ _ _ => pts_one (pt_truthK K (pe_op op_and (pv 2) (pe_op op_shl pe_int (pv 0))))) (fun _ _ _ _ _ => (pv 1))) pa_nil)))), ?_⟩
    refine ⟨_, rfl, l, nums r, rfl, hl, fun D hD => comp_enum (xs := nums r) (fun i ys H' => Same H H' ∧ i ≤ r.length ∧ ys = nums (cellsI r s i)) ⟨Same.new hD, Nat.zero_le _, rfl⟩ (fun i ys H' _ ⟨e, _⟩ => e _ _ hl) ?_ ?_⟩
    · rintro i x ys H' p hx ⟨se, hi, rfl⟩ hDl hp
      obtain ⟨n, hn, rfl⟩ := nums_at hx
      have hi' : i < r.length := (List.getElem?_eq_some_iff.mp hn).1
      have hll : (nums (cellsI r s i)).length ≤ 64 := by
        rw [nums_len]
        exact Nat.le_trans (cellsI_len r s i) (by omega)
      have hDl2 : (upd H' p (.tup [.int (i : Nat), .int (n : Nat)])) D = some (.lst (nums (cellsI r s i))) := by rw [upd_ne (ne_of_none hDl hp)]; exact hDl
      have hg : r.getD i 0 = n := by simp [List.getD, hn]
      refine ⟨_, rfl, _, rfl, 1, (i : Int), rfl, rfl, ⟨Int.natCast_nonneg i, by omega, by decide⟩, _, _, rfl, rfl, _, rfl, ?_⟩
      rw [and_bit hs (by omega)]
      refine ite2 (fun e => ?_) (fun e => ?_)
      · refine ⟨_, rfl, CE2.mk hDl2 (small1000 (by omega)) ⟨Same.up (Same.up se (se.free hp)) hD, hi', ?_⟩⟩
        rw [cellsI_succ, if_pos e, nums_snoc, hg]
      · refine CN2.mk hDl2 ⟨Same.up se (se.free hp), hi', ?_⟩
        rw [cellsI_succ, if_neg e, List.append_nil]
    · rintro ys H' ⟨se, _, rfl⟩ hDl
      rw [nums_len] at hDl
      refine ⟨D, _, rfl, .inl ⟨SqL.of hDl, fun t ht => ?_⟩⟩
      exact k t _ (se.free ht) (Same.up se (se.free ht)) upd_same
end
def keyN (ns : List Nat) : List Key := ns.map fun (n : Nat) => (Sum.inl ((n : Nat) : Int) : Key)
theorem keyN_map : ∀ ns : List Nat, (keyN ns).map kV = nums ns
  | [] => rfl
  | n :: ns => by
    show kV (Sum.inl ((n : Nat) : Int)) :: (keyN ns).map kV = V.int (n : Nat) :: nums ns
    rw [keyN_map ns]; rfl
theorem keyN_inj {a b : List Nat} (h : keyN a = keyN b) : a = b := nums_inj (by rw [← keyN_map, ← keyN_map, h])
def tupD (ns : List Nat) : PyData := .tuple (ns.map fun n => PyData.int (n : Nat))
theorem tupD_dt {H : Hp} {t : Addr} {ns : List Nat} (h : H t = some (.tup (nums ns))) : Dt H (.ref t) (tupD ns) := .tup h (nums_dt ns)
theorem tupD_lay (ns : List Nat) : (tupD ns).canLay0 = true := lay_nums ns
theorem tupD_depth (ns : List Nat) : (tupD ns).depth ≤ 60 := by
  show PyData.depthAll _ + 1 ≤ 60
  have := depth_nums ns
  omega
theorem tupD_eqv (a b : List Nat) : PyData.eqv (tupD a) (tupD b) = decide (a = b) := eqv_numsD a b
def sp_keeps : Sp := fun vs H Q _ => ∃ (l t : Addr) (rs : List (List Nat)) (p : Nat × Nat), vs = [.ref l, .ref t] ∧ TblAt H l rs ∧ rs.length ≤ 64 ∧ (∀ r ∈ rs, r.length ≤ 6) ∧ H t = some (.tup [.int (p.1 : Nat), .int (p.2 : Nat)]) ∧ p.1 < 64 ∧ p.2 < 64 ∧ ∀ H', Same H H' → Q (.bl (decide (Keeps rs p))) H'
section
variable {P : Program} {w : World} {K : PySem.W.Frag} {mg : Str → Option Value} {base : Heap} {A : Adr}
theorem ok_keeps (T : Txt K mg A) : FnOk P w K mg base CX0 3 A.f_keeps A.d_keeps ["table", "rule"] sp_keeps := by
  have G_cells := ok_cells (P := P) (w := w) (base := base) T
  refine T.F_keeps.ok sc_keeps (fun vs H Q E h => ?_) (fun cdv A' outer s H vs Q E hr h => ?_)
  · obtain ⟨l, t, rs, p, rfl, _⟩ := h; rfl
  · obtain ⟨l, t, rs, p, rfl, ⟨ts, hl, htp⟩, hlen, hr6, ht, hp1, hp2, k⟩ := h
    refine ⟨_, (pss_cons (ps_set (i := 2) sc_keeps.nd rfl (Or.inl rfl) pe_dnewT)
      (pss_cons (ps_for PassesOwn.never rfl (pi_listK K (pv 0)) (pg_name (i := 3) sc_keeps.nd rfl (Or.inl rfl))
      (pss_cons (ps_set (i := 4) sc_keeps.nd rfl (Or.inl rfl) (pe_call G_cells (hr.mono (by decide)) rfl T.m_cells T.F_cells.kp T.b_cells .nil pass0 (pa_cons (pv 3) (pa_cons (pe_ix (ix_tupK K) (pv 1) pe_int (fun _ _ => rfl)) pa_nil))))
      (pss_one (ps_if (pt_cmpR (op_neD hr.units) (pe_dsetdef (hu_of hr) (pv 2) (pe_call G_cells (hr.mono (by decide)) rfl T.m_cells T.F_cells.kp T.b_cells .nil pass0 (pa_cons (pv 3) (pa_cons (pe_ix (ix_tupK K) (pv 1) pe_int (fun _ _ => rfl)) pa_nil))) (pv 4) ⟨rfl, rfl, rfl, rfl⟩) (pv 4) (nomark _)) (pss_one (ps_ret pe_bl)) pss_nil))))
      (pss_one (ps_ret pe_bl)))), ?_⟩
    refine fun D hD => ?_
    have hln : (ts.map V.ref).length = rs.length := by rw [List.length_map]; exact htp.len
    refine ⟨_, rfl, l, rfl, ⟨_, SqL.of (Same.new hD _ _ hl)⟩, for_list (K := K) (a := l) (xs := ts.map V.ref) (fun i σ' H' => Same H H' ∧ (∃ rv gv, σ' = [some (.ref l), some (.ref t), some (.ref D), rv, gv]) ∧ ∃ kvs, H' D = some (.dT kvs) ∧ kvs.length ≤ i ∧
        (∀ r ∈ rs.take i, ∃ v, valV kvs (keyN (cellsN r p.1)) = some (.ref v) ∧ H' v = some (.tup (nums (cellsN r p.2)))) ∧
        (∀ q v, valV kvs q = some v → ∃ r ∈ rs.take i, q = keyN (cellsN r p.1) ∧ ∃ tv, v = .ref tv ∧ H' tv = some (.tup (nums (cellsN r p.2)))))
      ⟨Same.new hD, ⟨none, none, rfl⟩, [], upd_same, Nat.le_refl _, fun r hr' => by simp at hr', fun q v h => by cases h⟩ (fun i σ' H' _ ⟨e, _⟩ => SqL.of (e _ _ hl)) ?_ ?_⟩
    · rintro i x σ' H' hx ⟨se, ⟨rv, gv, rfl⟩, kvs, hDd, hkl, i1, i2⟩
      obtain ⟨tr, r, rfl, hri, hrow⟩ := (htp.same se).get hx
      have hrm : r ∈ rs := List.mem_of_getElem? hri
      have hi' : i < rs.length := (List.getElem?_eq_some_iff.mp hri).1
      refine ⟨_, rfl, _, rfl, t, _, 1, _, rfl, rfl, SqT.of (se _ _ ht), rfl, tr, r, p.2, rfl, hrow, hr6 r hrm, hp2, fun t2 H2 f2 s2 c2 => ?_⟩
      have hD2 := s2 _ _ hDd
      refine ⟨_, rfl, D, rfl, .inr ⟨kvs, .inl hD2⟩, _, rfl, _, rfl, t, _, 0, _, rfl, rfl, SqT.of (s2 _ _ (se _ _ ht)), rfl, tr, r, p.1, rfl, s2 _ _ hrow, hr6 r hrm, hp1, fun t1 H3 f3 s3 c3 => ?_⟩
      have hD3 := s3 _ _ hD2
      have c2' := s3 _ _ c2
      have s13 : Same H' H3 := s2.trans s3
      refine ⟨_, rfl, kvs, keyN (cellsN r p.1), t1, hD3, rfl, by rw [keyN_map]; exact c3, small1000 (by omega), fun v hv => ?_, fun hv => ?_⟩
      · obtain ⟨r0, hr0, ek, tv, rfl, htv⟩ := i2 _ _ hv
        have htv3 := s13 _ _ htv
        refine ⟨_, rfl, tupD (cellsN r0 p.2), tupD (cellsN r p.2), tupD_dt htv3, tupD_dt c2', tupD_lay _, tupD_lay _, tupD_depth _, _, rfl, ?_⟩
        rw [if_pos rfl, tupD_eqv]
        refine ite2 (fun e => ?_) (fun e => ?_)
        · have hne : ¬ cellsN r0 p.2 = cellsN r p.2 := by simpa using e
          have hk : decide (Keeps rs p) = false := decide_eq_false fun z => hne (z r0 (List.mem_of_mem_take hr0) r hrm (keyN_inj ek).symm)
          have z := k H3 (se.trans s13)
          rw [hk] at z
          exact z
        · have he : cellsN r0 p.2 = cellsN r p.2 := by simpa using e
          refine ⟨se.trans s13, ⟨_, _, rfl⟩, kvs, hD3, by omega, fun a ha => ?_, fun q v hq => ?_⟩
          · rcases (take_mem hri).mp ha with ha | rfl
            · obtain ⟨v, h1, h2⟩ := i1 a ha
              exact ⟨v, h1, s13 _ _ h2⟩
            · exact ⟨tv, hv, by rw [← he]; exact htv3⟩
          · obtain ⟨a, ha, h1, tv', h2, h3⟩ := i2 q v hq
            exact ⟨a, (take_mem hri).mpr (.inl ha), h1, tv', h2, s13 _ _ h3⟩
      · have nD : ∀ v xs, H3 v = some (.tup xs) → v ≠ D := fun v xs h => ne_of h hD3 (by intro z; cases z)
        have c2u : (upd H3 D (.dT (putK kvs (keyN (cellsN r p.1)) (.ref t2)))) t2 = some (.tup (nums (cellsN r p.2))) := by rw [upd_ne (nD _ _ c2')]; exact c2'
        refine ⟨_, rfl, tupD (cellsN r p.2), tupD (cellsN r p.2), tupD_dt c2u, tupD_dt c2u, tupD_lay _, tupD_lay _, tupD_depth _, _, rfl, ?_⟩
        rw [if_pos rfl, tupD_eqv, decide_eq_true rfl]
        refine iteF ?_
        refine ⟨Same.up (se.trans s13) hD, ⟨_, _, rfl⟩, _, upd_same, by have := length_putK kvs (keyN (cellsN r p.1)) (.ref t2); omega, fun a ha => ?_, fun q v hq => ?_⟩
        · rw [valV_put]
          rcases (take_mem hri).mp ha with ha | rfl
          · obtain ⟨v, h1, h2⟩ := i1 a ha
            have h2' := s13 _ _ h2
            refine ⟨v, ?_, by rw [upd_ne (nD _ _ h2')]; exact h2'⟩
            rw [if_neg fun z => by rw [z, hv] at h1; cases h1]
            exact h1
          · exact ⟨t2, if_pos rfl, c2u⟩
        · rw [valV_put] at hq
          by_cases hqe : q = keyN (cellsN r p.1)
          · rw [if_pos hqe] at hq
            exact ⟨r, (take_mem hri).mpr (.inr rfl), hqe, t2, (Option.some.inj hq).symm, c2u⟩
          · rw [if_neg hqe] at hq
            obtain ⟨a, ha, h1, tv', h2, h3⟩ := i2 q v hq
            have h3' := s13 _ _ h3
            exact ⟨a, (take_mem hri).mpr (.inl ha), h1, tv', h2, by rw [upd_ne (nD _ _ h3')]; exact h3'⟩
    · rintro σ' H' ⟨se, ⟨rv, gv, rfl⟩, kvs, hDd, hkl, i1, i2⟩
      rw [hln, List.take_length] at i1
      have hk : decide (Keeps rs p) = true := decide_eq_true fun a ha b hb e => by
        obtain ⟨v, h1, h2⟩ := i1 a ha
        obtain ⟨u, h3, h4⟩ := i1 b hb
        rw [e, h3] at h1
        cases h1
        rw [h2] at h4
        injection h4 with h4
        injection h4 with h4
        exact nums_inj h4
      have z := k H' se
      rw [hk] at z
      exact z
end
def sp_keeps_all : Sp := fun vs H Q _ => ∃ (l m : Addr) (rs : List (List Nat)) (ps : List (Nat × Nat)), vs = [.ref l, .ref m] ∧ TblAt H l rs ∧ rs.length ≤ 64 ∧ (∀ r ∈ rs, r.length ≤ 6) ∧ PrsAt H m ps ∧ ps.length ≤ 64 ∧ (∀ p ∈ ps, p.1 < 64 ∧ p.2 < 64) ∧ ∀ H', Same H H' → Q (.bl (ps.all fun p => decide (Keeps rs p))) H'
section
variable {P : Program} {w : World} {K : PySem.W.Frag} {mg : Str → Option Value} {base : Heap} {A : Adr}
theorem ok_keeps_all (T : Txt K mg A) : FnOk P w K mg base CX0 5 A.f_keeps_all A.d_keeps_all ["table", "pairs"] sp_keeps_all := by
  have G_keeps := ok_keeps (P := P) (w := w) (base := base) T
  refine T.F_keeps_all.ok sc_keeps_all (fun vs H Q E h => ?_) (fun cdv A' outer s H vs Q E hr h => ?_)
  · obtain ⟨l, m, rs, ps, rfl, _⟩ := h; rfl
  · obtain ⟨l, m, rs, ps, rfl, hT, hlen, hr6, ⟨ts, hm, htp⟩, hpl, hps, k⟩ := h
    refine ⟨_, (pss_one (ps_ret (pe_callB (call_allK K rfl) rfl T.z_all bt_all (pa_cons (pe_comp ["table", "pairs"] (defScope s_keeps_all) ["rule", "table"] [none, some 0] ⟨rfl, by decide +kernel, by decide +kernel, by decide +kernel, by decide +kernel, by decide +kernel⟩ rfl (pi_listK K (pv 1)) (fun _ _ _ _ _ => (pg_name (i := 0) (by show List.Nodup (["rule", "table"] : List Str); decide +kernel) rfl (Or.inl rfl) (Or.inr rfl))) (fun _ _ _ _ _ => pts_nil) (fun _ _ _ _ _ => (pe_call G_keeps (hr.mono (by decide)) rfl T.m_keeps T.F_keeps.kp T.b_keeps .nil pass0 (pa_cons (pv 1) (pa_cons (pv 0) pa_nil))))) pa_nil)))), ?_⟩
    have hln : (ts.map V.ref).length = ps.length := by rw [List.length_map]; exact htp.len
    refine ⟨_, rfl, m, rfl, ⟨_, SqL.of hm⟩, fun D hD => comp_list (xs := ts.map V.ref) (fun i ys H' => Same H H' ∧ ys = bls ((ps.take i).map fun p => decide (Keeps rs p)) ∧ i ≤ ps.length) ⟨Same.new hD, rfl, Nat.zero_le _⟩ (fun i ys H' _ ⟨e, _⟩ => SqL.of (e _ _ hm)) ?_ ?_⟩
    · rintro i x ys H' hx ⟨se, rfl, hi⟩ hDl
      obtain ⟨t, p, rfl, hp, ht⟩ := (htp.same se).get hx
      have hi' : i < ps.length := (List.getElem?_eq_some_iff.mp hp).1
      have hb := hps p (List.mem_of_getElem? hp)
      refine yes_mk ?_
      refine ⟨_, rfl, _, rfl, l, t, rs, p, rfl, hT.same se, hlen, hr6, ht, hb.1, hb.2, fun H2 s2 => ?_⟩
      refine CE1.mk (s2 _ _ hDl) (small1000 (by rw [bls_len, List.length_map, List.length_take]; omega)) ⟨Same.up (se.trans s2) hD, ?_, hi'⟩
      rw [map_take _ hp, bls_snoc]
    · rintro ys H' ⟨se, rfl, _⟩ hDl
      rw [hln, List.take_length] at hDl
      refine ⟨D, _, rfl, SqL.of hDl, ?_⟩
      rw [all_map]
      exact k H' se
end
end K05

namespace K05
open PySem L2 TC
def sp_is_place : Sp := fun vs H Q _ => ∃ (v : Nat) (l : Addr) (xs : List V), vs = [.int (v : Nat), .ref l] ∧ H l = some (.lst xs) ∧ Q (.bl (decide (v < xs.length))) H
def sp_lead (C : Addr) : Sp := fun vs H Q _ => ∃ (l p m : Addr) (c a b : Nat) (ps : List (Nat × Nat)) (pl : List Nat), vs = [.ref l, .ref p, .int (a : Nat), .int (b : Nat)] ∧ H l = some (.lst (nums pl)) ∧ RulesAt C H p m c ps ∧ ∀ H', Same H H' → Q (.bl (leadB ps pl a b)) H'
section
variable {P : Program} {w : World} {K : PySem.W.Frag} {mg : Str → Option Value} {base : Heap} {A : Adr}
theorem ok_is_place (T : Txt K mg A) : FnOk P w K mg base CX0 3 A.f_is_place A.d_is_place ["value", "things"] sp_is_place := by
  have G_is_number := ok_is_number (P := P) (w := w) (base := base) T
  refine T.F_is_place.ok sc_is_place (fun vs H Q E h => ?_) (fun cdv A' outer s H vs Q E hr h => ?_)
  · obtain ⟨v, l, xs, rfl, _⟩ := h; rfl
  · obtain ⟨v, l, xs, rfl, hl, k⟩ := h
    refine ⟨_, (pss_one (ps_ret (pe_call G_is_number (hr.mono (by decide)) rfl T.m_is_number T.F_is_number.kp T.b_is_number .nil pass0 (pa_cons (pv 0) (pa_cons pe_int (pa_cons (pe_op op_sub (pe_callB (call_lenK K) rfl T.z_len bt_len (pa_cons (pv 1) pa_nil)) pe_int) pa_nil)))))), ?_⟩
    refine ⟨_, rfl, _, rfl, l, xs, rfl, .inl (SqL.of hl), (xs.length : Int), 1, rfl, rfl, (v : Int), 0, _, rfl, ?_⟩
    have e : (decide ((0 : Int) ≤ (v : Int)) && decide ((v : Int) ≤ (xs.length : Int) - 1)) = decide (v < xs.length) := by
      rw [decide_eq_true (Int.natCast_nonneg v), Bool.true_and]
      exact decide_eq_decide.mpr (by omega)
    rw [e]
    exact k
theorem ok_lead (T : Txt K mg A) : FnOk P w K mg base CX0 5 A.f_lead A.d_lead ["places", "rules", "left", "right"] (sp_lead A.c_Rules) := by
  have G_is_place := ok_is_place (P := P) (w := w) (base := base) T
  have G_is_within := ok_is_within (P := P) (w := w) (base := base) T
  have G_Rules_rules := ok_Rules_rules (P := P) (w := w) (base := base) T
  refine T.F_lead.ok sc_lead (fun vs H Q E h => ?_) (fun cdv A' outer s H vs Q E hr h => ?_)
  · obtain ⟨l, p, m, c, a, b, ps, pl, rfl, _⟩ := h; rfl
  · obtain ⟨l, p, m, c, a, b, ps, pl, rfl, hl, hR, k⟩ := h
    obtain ⟨⟨dx, hp⟩, _⟩ := id hR
    refine ⟨_, (pss_cons (ps_set (i := 4) sc_lead.nd rfl (Or.inl rfl) (pe_meth0 (pv 1) T.cl_Rules T.mt_Rules_rules G_Rules_rules (hr.mono (by decide)) T.b_Rules_rules .nil pass0))
      (pss_cons (ps_set (i := 5) sc_lead.nd rfl (Or.inl rfl) (pv 2))
      (pss_cons (ps_for PassesOwn.never rfl (pi_listK K (pv 0)) (pg_name (i := 6) sc_lead.nd rfl (Or.inl rfl))
      (pss_cons (ps_if (PW.pt (pw_or (pt_not (pt_val (pe_call G_is_place (hr.mono (by decide)) rfl T.m_is_place T.F_is_place.kp T.b_is_place .nil pass0 (pa_cons (pv 6) (pa_cons (pv 4) pa_nil))))) (pw_or1 (pt_not (pt_val (pe_call G_is_within (hr.mono (by decide)) rfl T.m_is_within T.F_is_within.kp T.b_is_within .nil pass0 (pa_cons (pe_ix (ix_tupK K) (pe_ix (ix_listK K) (pv 4) (pv 6) (fun _ _ => rfl)) pe_int (fun _ _ => rfl)) (pa_cons (pv 5) pa_nil)))))))) (pss_one (ps_ret pe_bl)) pss_nil)
      (pss_one (ps_set (i := 5) sc_lead.nd rfl (Or.inl rfl) (pe_op op_or (pv 5) (pe_ix (ix_tupK K) (pe_ix (ix_listK K) (pv 4) (pv 6) (fun _ _ => rfl)) pe_int (fun _ _ => rfl)))))))
      (pss_one (ps_ret (pe_call G_is_within (hr.mono (by decide)) rfl T.m_is_within T.F_is_within.kp T.b_is_within .nil pass0 (pa_cons (pv 3) (pa_cons (pv 5) pa_nil)))))))), ?_⟩
    refine ⟨_, rfl, p, dx, _, rfl, hp, flds_no _ _ (by decide +kernel) (by decide +kernel), p, m, c, ps, rfl, hR, fun d ts hd htp => ?_⟩
    have s1 : Same H (upd H d (.lst (ts.map V.ref))) := Same.new hd
    have hd1 : (upd H d (.lst (ts.map V.ref))) d = some (.lst (ts.map V.ref)) := upd_same
    have htp1 := htp.same s1
    have hln : (ts.map V.ref).length = ps.length := by rw [List.length_map]; exact htp.len
    generalize upd H d (.lst (ts.map V.ref)) = H1 at s1 hd1 htp1 ⊢
    have hl1 := s1 _ _ hl
    refine ⟨_, rfl, _, rfl, l, rfl, ⟨_, SqL.of hl1⟩, for_list (K := K) (a := l) (xs := nums pl) (fun i σ' H' => H' = H1 ∧ i ≤ pl.length ∧ ∃ (kn : Nat) (pv : Option V), leadN ps (pl.take i) a = some kn ∧ σ' = [some (.ref l), some (.ref p), some (.int (a : Nat)), some (.int (b : Nat)), some (.ref d), some (.int (kn : Nat)), pv])
      ⟨rfl, Nat.zero_le _, a, none, rfl, rfl⟩ (fun i σ' H' _ ⟨e, _⟩ => by subst e; exact SqL.of hl1) ?_ ?_⟩
    · rintro i x σ' H' hx ⟨rfl, hi, kn, pv, hk, rfl⟩
      obtain ⟨n, hn, rfl⟩ := nums_at hx
      have hi' : i < pl.length := (List.getElem?_eq_some_iff.mp hn).1
      have hT := leadN_take (ps := ps) (k := a) hn
      rw [hk] at hT
      refine ⟨_, rfl, _, rfl, n, d, _, rfl, hd1, _, rfl, ?_⟩
      by_cases hlt : n < ps.length
      · rw [decide_eq_true (show n < (ts.map V.ref).length by rw [hln]; exact hlt)]
        refine iteF ?_
        have hgt : (ts.map V.ref)[n]? = some (.ref (ts[n]'(by rw [← hln, List.length_map] at hlt; exact hlt))) := by rw [List.getElem?_map, List.getElem?_eq_getElem (by rw [← hln, List.length_map] at hlt; exact hlt)]; rfl
        obtain ⟨t, q, et, hq, ht⟩ := htp1.get hgt
        rw [et] at hgt
        refine ⟨_, rfl, _, rfl, d, _, (n : Int), _, rfl, rfl, SqL.of hd1, atI_nat hgt, t, _, 0, _, rfl, rfl, SqT.of ht, rfl, _, rfl, q.1, kn, rfl, _, rfl, ?_⟩
        by_cases hs : Sb q.1 kn
        · rw [decide_eq_true hs]
          refine iteF ?_
          refine ⟨_, rfl, _, rfl, _, rfl, d, _, (n : Int), _, rfl, rfl, SqL.of hd1, atI_nat hgt, t, _, 1, _, rfl, rfl, SqT.of ht, rfl, _, _, rfl, rfl, ?_⟩
          refine ⟨rfl, hi', kn ||| q.2, some (.int (n : Nat)), ?_, ?_⟩
          · rw [hT]; exact leadN_one hq hs
          · rw [← or_nat]; rfl
        · rw [decide_eq_false hs]
          refine iteT ?_
          have e : leadB ps pl a b = false := leadB_none (leadN_none (i := i + 1) (by rw [hT]; exact leadN_one_no hq hs))
          have z := k _ s1
          rw [e] at z
          exact z
      · rw [decide_eq_false (show ¬ n < (ts.map V.ref).length by rw [hln]; exact hlt)]
        refine iteT ?_
        have e : leadB ps pl a b = false := leadB_none (leadN_none (i := i + 1) (by rw [hT]; exact leadN_one_none (List.getElem?_eq_none (by omega))))
        have z := k _ s1
        rw [e] at z
        exact z
    · rintro σ' H' ⟨rfl, _, kn, pv, hk, rfl⟩
      rw [nums_len, List.take_length] at hk
      refine ⟨_, rfl, _, rfl, b, kn, rfl, ?_⟩
      have z := k _ s1
      rw [leadB_some hk] at z
      exact z
end
def brkB (c : Nat) (rs : List (List Nat)) (ps : List (Nat × Nat)) (p : Nat × Nat) : Bool := tabB c rs && ((ps.all fun p => decide (Keeps rs p)) && !decide (Keeps rs p))
def sp_break_alone (C : Addr) : Sp := fun vs H Q _ => ∃ (l x m t : Addr) (c : Nat) (rs : List (List Nat)) (ps : List (Nat × Nat)) (p : Nat × Nat), vs = [.ref l, .ref x, .ref t] ∧ TblAt H l rs ∧ RulesAt C H x m c ps ∧ Good c ps ∧ H t = some (.tup [.int (p.1 : Nat), .int (p.2 : Nat)]) ∧ p.1 < 64 ∧ p.2 < 64 ∧
  ∀ H', Same H H' → Q (.bl (brkB c rs ps p)) H'
section
variable {P : Program} {w : World} {K : PySem.W.Frag} {mg : Str → Option Value} {base : Heap} {A : Adr}
theorem ok_break_alone (T : Txt K mg A) : FnOk P w K mg base CX0 7 A.f_break_alone A.d_break_alone ["rows", "rules", "rule"] (sp_break_alone A.c_Rules) := by
  have G_is_table := ok_is_table (P := P) (w := w) (base := base) T
  have G_keeps := ok_keeps (P := P) (w := w) (base := base) T
  have G_keeps_all := ok_keeps_all (P := P) (w := w) (base := base) T
  have G_Rules_rules := ok_Rules_rules (P := P) (w := w) (base := base) T
  refine T.F_break_alone.ok sc_break_alone (fun vs H Q E h => ?_) (fun cdv A' outer s H vs Q E hr h => ?_)
  · obtain ⟨l, x, m, t, c, rs, ps, p, rfl, _⟩ := h; rfl
  · obtain ⟨l, x, m, t, c, rs, ps, p, rfl, hT, hR, ⟨hc1, hc6, hlen, hps⟩, ht, hp1, hp2, k⟩ := h
    obtain ⟨⟨dx, hx⟩, _⟩ := id hR
    have h64 : 2 ^ c ≤ 64 := Nat.pow_le_pow_right (by decide) hc6
    refine ⟨_, (pss_cons (ps_if (pt_not (pt_val (pe_call G_is_table (hr.mono (by decide)) rfl T.m_is_table T.F_is_table.kp T.b_is_table .nil pass0 (pa_cons (pv 0) (pa_cons (pe_fldK K (pv 1)) pa_nil))))) (pss_one (ps_ret pe_bl)) pss_nil)
      (pss_one (ps_ret (pe_and (pe_call G_keeps_all (hr.mono (by decide)) rfl T.m_keeps_all T.F_keeps_all.kp T.b_keeps_all .nil pass0 (pa_cons (pv 0) (pa_cons (pe_meth0 (pv 1) T.cl_Rules T.mt_Rules_rules G_Rules_rules (hr.mono (by decide)) T.b_Rules_rules .nil pass0) pa_nil))) (pe_one (pe_not (pe_call G_keeps (hr.mono (by decide)) rfl T.m_keeps T.F_keeps.kp T.b_keeps .nil pass0 (pa_cons (pv 0) (pa_cons (pv 2) pa_nil))))))))), ?_⟩
    refine ⟨_, rfl, _, rfl, x, A.c_Rules, dx, _, _, rfl, hx, T.cl_Rules, T.na_Rules_columns, flds_columns _ _, l, c, rs, rfl, hc6, hT, fun H1 s1 => ⟨_, rfl, ?_⟩⟩
    cases hg : tabB c rs with
    | false =>
      refine iteT ?_
      have z := k H1 s1
      unfold brkB at z
      rw [hg, Bool.false_and] at z
      exact z
    | true =>
      refine iteF ?_
      have gd := tabB_good hg
      refine ⟨_, rfl, _, rfl, x, dx, _, rfl, s1 _ _ hx, flds_no _ _ (by decide +kernel) (by decide +kernel), x, m, c, ps, rfl, hR.same s1, fun d ts hd htp => ?_⟩
      have s2 : Same H1 (upd H1 d (.lst (ts.map V.ref))) := Same.new hd
      refine ⟨l, d, rs, ps, rfl, hT.same (s1.trans s2), gd.1, fun r hr => by rw [(gd.2 r hr).1]; exact hc6, ⟨ts, upd_same, htp.same s2⟩, hlen, fun q hq => ⟨by have := (hps q hq).1; omega, by have := (hps q hq).2; omega⟩, fun H3 s3 => ⟨_, rfl, ?_⟩⟩
      have s13 : Same H H3 := s1.trans (s2.trans s3)
      refine ite2 (fun e => ?_) (fun e => ?_)
      · refine ⟨_, rfl, _, rfl, l, t, rs, p, rfl, hT.same s13, gd.1, fun r hr => by rw [(gd.2 r hr).1]; exact hc6, s13 _ _ ht, hp1, hp2, fun H4 s4 => ⟨_, rfl, ?_⟩⟩
        have z := k H4 (s13.trans s4)
        unfold brkB at z
        rw [hg, Bool.true_and, e, Bool.true_and] at z
        exact z
      · have z := k H3 s13
        unfold brkB at z
        have e' : (ps.all fun p => decide (Keeps rs p)) = false := by simpa using e
        rw [hg, Bool.true_and, e', Bool.false_and] at z
        exact z
end
def sp_row_of : Sp := fun vs H Q _ => ∃ (c s n : Nat), vs = [.int (c : Nat), .int (s : Nat), .int (n : Nat)] ∧ c ≤ 6 ∧ s < 64 ∧ ∀ (d : Addr) (H' : Hp), H d = none → Same H H' → H' d = some (.lst (nums (rowOf c s n))) → Q (.ref d) H'
section
variable {P : Program} {w : World} {K : PySem.W.Frag} {mg : Str → Option Value} {base : Heap} {A : Adr}
theorem ok_row_of (T : Txt K mg A) : FnOk P w K mg base CX0 1 A.f_row_of A.d_row_of ["columns", "some", "number"] sp_row_of := by
  refine T.F_row_of.ok sc_row_of (fun vs H Q E h => ?_) (fun cdv A' outer s H vs Q E hr h => ?_)
  · obtain ⟨c, s, n, rfl, _⟩ := h; rfl
  · obtain ⟨c, s, n, rfl, hc, hs, k⟩ := h
    refine ⟨_, (pss_one (ps_ret (pe_comp ["columns", "some", "number"] (defScope s_row_of) ["column", "some", "number"] [none, some 1, some 2] ⟨rfl, by decide +kernel, by decide +kernel, by decide +kernel, by decide +kernel, by decide +kernel⟩ rfl (pi_range1 rfl T.z_range (pa_cons (pv 0) pa_nil)) (fun _ _ _ _ _ => (pg_name (i := 0) (by show List.Nodup (["column", "some", "number"] : List Str); decide +kernel) rfl (Or.inl rfl) (Or.inr rfl))) (fun _ _ _ _ _ => pts_nil) (fun _ _ _ _ _ => (pe_ifExp (pt_truthK K (pe_op op_and (pv 1) (pe_op op_shl pe_int (pv 0)))) pe_int (pv 2)))))), ?_⟩
    refine ⟨_, rfl, (c : Int), rfl, by omega, by omega, fun D hD => ?_⟩
    rw [Int.toNat_natCast]
    refine comp_range (lo := 0) (n := c) (fun i ys H' => Same H H' ∧ ys = nums ((List.range i).map fun j => if s.testBit j = true then 0 else n)) ⟨Same.new hD, rfl⟩ ?_ ?_
    · rintro i ys H' hi ⟨se, rfl⟩ hDl
      rw [Int.zero_add]
      have hll : (nums ((List.range i).map fun j => if s.testBit j = true then 0 else n)).length ≤ 64 := by
        rw [nums_len, List.length_map, List.length_range]; omega
      have es : (List.range (i + 1)).map (fun j => if s.testBit j = true then 0 else n) = (List.range i).map (fun j => if s.testBit j = true then 0 else n) ++ [if s.testBit i = true then 0 else n] := by
        rw [List.range_succ, List.map_append]; rfl
      refine yes_mk ?_
      refine ⟨_, rfl, _, rfl, 1, (i : Int), rfl, rfl, ⟨Int.natCast_nonneg i, by omega, by decide⟩, _, _, rfl, rfl, _, rfl, ?_⟩
      rw [and_bit hs (by omega)]
      refine ite2 (fun e => ?_) (fun e => ?_)
      · refine CE1.mk hDl (small1000 (by omega)) ⟨Same.up se hD, ?_⟩
        rw [es, if_pos e, nums_snoc]; rfl
      · refine ⟨_, rfl, CE1.mk hDl (small1000 (by omega)) ⟨Same.up se hD, ?_⟩⟩
        rw [es, if_neg e, nums_snoc]
    · rintro ys H' ⟨se, rfl⟩ hDl
      exact k D H' hD se hDl
end
/-! ### Steps and Rows -/
def fldS (d : Addr) : List (Str × V) := putF "places" (.ref d) []
def fldR (a b : Addr) : List (Str × V) := putF "other" (.ref b) (putF "one" (.ref a) [])
theorem fldS_places (d : Addr) : (fldS d).lookup ("places" : Str) = some (.ref d) := by unfold fldS; rw [lookup_putF, if_pos rfl]
theorem koo : ¬ (("one" : Str) = "other") := by decide +kernel
theorem fldR_one (a b : Addr) : (fldR a b).lookup ("one" : Str) = some (.ref a) := by unfold fldR; rw [lookup_putF, if_neg koo, lookup_putF, if_pos rfl]
theorem fldR_other (a b : Addr) : (fldR a b).lookup ("other" : Str) = some (.ref b) := by unfold fldR; rw [lookup_putF, if_pos rfl]
def StepsAt (C : Addr) (H : Hp) (x d : Addr) (pl : List Nat) : Prop := (∃ dx, H x = some (.ins C dx (fldS d))) ∧ H d = some (.lst (nums pl))
def RowsAt (C : Addr) (H : Hp) (x a b : Addr) (r1 r2 : List Nat) : Prop := (∃ dx, H x = some (.ins C dx (fldR a b))) ∧ H a = some (.lst (nums r1)) ∧ H b = some (.lst (nums r2))
theorem StepsAt.same {C : Addr} {H H' : Hp} {x d : Addr} {pl : List Nat} (e : Same H H') : StepsAt C H x d pl → StepsAt C H' x d pl := fun ⟨⟨dx, h⟩, t⟩ => ⟨⟨dx, e _ _ h⟩, e _ _ t⟩
theorem RowsAt.same {C : Addr} {H H' : Hp} {x a b : Addr} {r1 r2 : List Nat} (e : Same H H') : RowsAt C H x a b r1 r2 → RowsAt C H' x a b r1 r2 := fun ⟨⟨dx, h⟩, t, u⟩ => ⟨⟨dx, e _ _ h⟩, e _ _ t, e _ _ u⟩
def sp_Steps_init (C : Addr) : Sp := fun vs H Q _ => ∃ (p dx l : Addr) (pl : List Nat), vs = [.ref p, .ref l] ∧ H p = some (.ins C dx []) ∧ H l = some (.lst (nums pl)) ∧
  ∀ (d : Addr) (H' : Hp), H d = none → StepsAt C H' p d pl → (∀ b o, H b = some o → b ≠ p → H' b = some o) → Q .non H'
def sp_Rows_init (C : Addr) : Sp := fun vs H Q _ => ∃ (p dx l m : Addr) (r1 r2 : List Nat), vs = [.ref p, .ref l, .ref m] ∧ H p = some (.ins C dx []) ∧ H l = some (.lst (nums r1)) ∧ H m = some (.lst (nums r2)) ∧
  ∀ (a b : Addr) (H' : Hp), H a = none → H b = none → a ≠ b → RowsAt C H' p a b r1 r2 → (∀ b o, H b = some o → b ≠ p → H' b = some o) → Q .non H'
section
variable {P : Program} {w : World} {K : PySem.W.Frag} {mg : Str → Option Value} {base : Heap} {A : Adr}
theorem ok_Steps_init (T : Txt K mg A) : FnOk P w K mg base CX0 1 A.f_Steps_init A.d_Steps_init ["self", "places"] (sp_Steps_init A.c_Steps) := by
  refine T.F_Steps_init.ok sc_Steps_init (fun vs H Q E h => ?_) (fun cdv A' outer s H vs Q E hr h => ?_)
  · obtain ⟨p, dx, l, pl, rfl, _⟩ := h; rfl
  · obtain ⟨p, dx, l, pl, rfl, hp, hl, k⟩ := h
    refine ⟨_, (pss_one (ps_fldK K (pv 0) (pe_callTy (call_listK K) rfl T.z_list bt_list (pa_cons (pv 1) pa_nil)))), ?_⟩
    refine ⟨_, rfl, l, nums pl, rfl, .inl (SqL.of hl), fun d hd => ⟨_, rfl, p, A.c_Steps, dx, [], rfl, Same.new hd _ _ hp, T.cl_Steps, T.na_Steps_places, by show 0 < 1000; decide, ?_⟩⟩
    have npd : d ≠ p := fun z => by rw [z, hp] at hd; cases hd
    refine k d _ hd ⟨⟨dx, upd_same⟩, by rw [upd_ne npd, upd_same]⟩ fun b o hb hbp => ?_
    rw [upd_ne hbp]
    exact Same.new hd _ _ hb
theorem ok_Rows_init (T : Txt K mg A) : FnOk P w K mg base CX0 1 A.f_Rows_init A.d_Rows_init ["self", "one", "other"] (sp_Rows_init A.c_Rows) := by
  refine T.F_Rows_init.ok sc_Rows_init (fun vs H Q E h => ?_) (fun cdv A' outer s H vs Q E hr h => ?_)
  · obtain ⟨p, dx, l, m, r1, r2, rfl, _⟩ := h; rfl
  · obtain ⟨p, dx, l, m, r1, r2, rfl, hp, hl, hm, k⟩ := h
    refine ⟨_, (pss_cons (ps_fldK K (pv 0) (pe_callTy (call_listK K) rfl T.z_list bt_list (pa_cons (pv 1) pa_nil)))
      (pss_one (ps_fldK K (pv 0) (pe_callTy (call_listK K) rfl T.z_list bt_list (pa_cons (pv 2) pa_nil))))), ?_⟩
    refine ⟨_, rfl, l, nums r1, rfl, .inl (SqL.of hl), fun a ha => ⟨_, rfl, p, A.c_Rows, dx, [], rfl, Same.new ha _ _ hp, T.cl_Rows, T.na_Rows_one, by show 0 < 1000; decide, ?_⟩⟩
    have npa : a ≠ p := fun z => by rw [z, hp] at ha; cases ha
    have nmp : m ≠ p := ne_of hm hp (by intro z; cases z)
    have hm2 : (upd (upd H a (.lst (nums r1))) p (.ins A.c_Rows dx (putF "one" (.ref a) []))) m = some (.lst (nums r2)) := by rw [upd_ne nmp]; exact Same.new ha _ _ hm
    have ha2 : (upd (upd H a (.lst (nums r1))) p (.ins A.c_Rows dx (putF "one" (.ref a) []))) a = some (.lst (nums r1)) := by rw [upd_ne npa, upd_same]
    refine ⟨_, rfl, m, nums r2, rfl, .inl (SqL.of hm2), fun b hb => ⟨_, rfl, p, A.c_Rows, dx, _, rfl, Same.new hb _ _ upd_same, T.cl_Rows, T.na_Rows_other, by show 1 < 1000; decide, ?_⟩⟩
    have nbp : b ≠ p := fun z => by rw [z, upd_same] at hb; cases hb
    have nab : a ≠ b := ne_of_none ha2 hb
    have hbH : H b = none := by
      rw [upd_ne nbp, upd_ne nab.symm] at hb
      exact hb
    refine k a b _ ha hbH nab ⟨⟨dx, upd_same⟩, by rw [upd_ne npa, upd_ne nab]; exact ha2, by rw [upd_ne nbp, upd_same]⟩ fun q o hq hqp => ?_
    rw [upd_ne hqp, upd_ne (ne_of_none hq hbH), upd_ne hqp, upd_ne (ne_of_none hq ha)]
    exact hq
end
end K05

namespace K05
open PySem L2 TC
/-! ### follows -/
def sp_first_useful : Sp := fun vs H Q _ => ∃ (l : Addr) (kn : Nat) (ps : List (Nat × Nat)), vs = [.ref l, .int (kn : Nat)] ∧ PrsAt H l ps ∧ ps.length ≤ 64 ∧ true ∈ ps.map (useful kn) ∧ ∀ (j : Nat) (p : Nat × Nat) (H' : Hp), Same H H' → ps[j]? = some p → useful kn p = true → Q (.int (j : Nat)) H'
def sp_steps_to : Sp := fun vs H Q _ => ∃ (l : Addr) (a b : Nat) (ps : List (Nat × Nat)), vs = [.ref l, .int (a : Nat), .int (b : Nat)] ∧ PrsAt H l ps ∧ ps.length ≤ 64 ∧ (∀ p ∈ ps, p.2 < 64) ∧ a < 64 ∧ Sb b (cl ps a) ∧
  ∀ (d : Addr) (pl : List Nat) (H' : Hp), H d = none → Same H H' → H' d = some (.lst (nums pl)) → leadB ps pl a b = true → (∀ i ∈ pl, i < ps.length) → pl.length ≤ 64 → Q (.ref d) H'
def sp_follows (CR CS CW : Addr) : Sp := fun vs H Q _ => ∃ (p m : Addr) (c a b : Nat) (ps : List (Nat × Nat)), vs = [.ref p, .int (a : Nat), .int (b : Nat)] ∧ RulesAt CR H p m c ps ∧ Good c ps ∧ a < 2 ^ c ∧ b < 2 ^ c ∧
  (Sb b (cl ps a) → ∀ (x d : Addr) (pl : List Nat) (H' : Hp), H x = none → H d = none → Same H H' → StepsAt CS H' x d pl → leadB ps pl a b = true → (∀ i ∈ pl, i < ps.length) → pl.length ≤ 64 → Q (.ref x) H') ∧
  (¬ Sb b (cl ps a) → ∀ (x d1 d2 : Addr) (H' : Hp), H x = none → H d1 = none → H d2 = none → d1 ≠ d2 → Same H H' → RowsAt CW H' x d1 d2 (rowOf c (cl ps a) 0) (rowOf c (cl ps a) 1) → Q (.ref x) H')
section
variable {P : Program} {w : World} {K : PySem.W.Frag} {mg : Str → Option Value} {base : Heap} {A : Adr}
theorem ok_first_useful (T : Txt K mg A) : FnOk P w K mg base CX0 3 A.f_first_useful A.d_first_useful ["pairs", "known"] sp_first_useful := by
  have G_is_within := ok_is_within (P := P) (w := w) (base := base) T
  refine T.F_first_useful.ok sc_first_useful (fun vs H Q E h => ?_) (fun cdv A' outer s H vs Q E hr h => ?_)
  · obtain ⟨l, kn, ps, rfl, _⟩ := h; rfl
  · obtain ⟨l, kn, ps, rfl, ⟨ts, hl, htp⟩, hlen, hu, k⟩ := h
    refine ⟨_, (pss_cons (ps_setC (i := 2) ["pairs", "known", "useful"] (defScope s_first_useful) ["rule", "known"] [none, some 1] ⟨rfl, by decide +kernel, by decide +kernel, by decide +kernel, by decide +kernel, by decide +kernel⟩ rfl sc_first_useful.nd rfl rfl (pi_listK K (pv 0)) (fun _ _ _ _ _ => (pg_name (i := 0) (by show List.Nodup (["rule", "known"] : List Str); decide +kernel) rfl (Or.inl rfl) (Or.inr rfl))) (fun _ _ _ _ _ => pts_nil) (fun _ _ _ _ _ => (pe_and (pe_call G_is_within (hr.mono (by decide)) rfl T.m_is_within T.F_is_within.kp T.b_is_within .nil pass0 (pa_cons (pe_ix (ix_tupK K) (pv 0) pe_int (fun _ _ => rfl)) (pa_cons (pv 1) pa_nil))) (pe_one (pe_not (pe_call G_is_within (hr.mono (by decide)) rfl T.m_is_within T.F_is_within.kp T.b_is_within .nil pass0 (pa_cons (pe_ix (ix_tupK K) (pv 0) pe_int (fun _ _ => rfl)) (pa_cons (pv 1) pa_nil))))))))
      (pss_one (ps_ret (pe_indexK K (pv 2) (pa_cons pe_bl pa_nil))))), ?_⟩
    have hln : (ts.map V.ref).length = ps.length := by rw [List.length_map]; exact htp.len
    refine ⟨_, rfl, l, rfl, ⟨_, SqL.of hl⟩, fun D hD => comp_list (xs := ts.map V.ref) (fun i ys H' => Same H H' ∧ ys = bls ((ps.take i).map (useful kn)) ∧ i ≤ ps.length) ⟨Same.new hD, rfl, Nat.zero_le _⟩ (fun i ys H' _ ⟨e, _⟩ => SqL.of (e _ _ hl)) ?_ ?_⟩
    · rintro i x ys H' hx ⟨se, rfl, hi⟩ hDl
      obtain ⟨t, p, rfl, hp, ht⟩ := (htp.same se).get hx
      have hi' : i < ps.length := (List.getElem?_eq_some_iff.mp hp).1
      have fin : ∀ b : Bool, b = useful kn p → (fun i ys H' => Same H H' ∧ ys = bls ((ps.take i).map (useful kn)) ∧ i ≤ ps.length) (i + 1) (bls ((ps.take i).map (useful kn)) ++ [V.bl b]) (upd H' D (.lst (bls ((ps.take i).map (useful kn)) ++ [V.bl b]))) := fun b hb => by
        refine ⟨Same.up se hD, ?_, hi'⟩
        rw [map_take _ hp, bls_snoc, hb]
      have sm : (bls ((ps.take i).map (useful kn))).length < sizeLine := small1000 (by rw [bls_len, List.length_map, List.length_take]; omega)
      refine yes_mk ?_
      refine ⟨_, rfl, t, _, 0, _, rfl, rfl, SqT.of ht, rfl, _, rfl, p.1, kn, rfl, _, rfl, ?_⟩
      refine ite2 (fun e => ?_) (fun e => ?_)
      · refine ⟨_, rfl, t, _, 1, _, rfl, rfl, SqT.of ht, rfl, _, rfl, p.2, kn, rfl, _, rfl, ?_⟩
        exact CE1.mk hDl sm (fin _ (by unfold useful; rw [e]; rfl))
      · have e' : decide (Sb p.1 kn) = false := by simpa using e
        exact CE1.mk hDl sm (fin _ (by unfold useful; rw [e']; rfl))
    · rintro ys H' ⟨se, rfl, _⟩ hDl
      rw [hln, List.take_length] at hDl
      obtain ⟨j, h1, h2⟩ := first_true _ hu
      obtain ⟨p, hp, hpu⟩ : ∃ p, ps[j]? = some p ∧ useful kn p = true := by
        rw [List.getElem?_map] at h1
        cases e : ps[j]? with
        | none => rw [e] at h1; cases h1
        | some p => rw [e] at h1; exact ⟨p, rfl, Option.some.inj h1⟩
      exact ⟨_, rfl, .inl ⟨rfl, _, SqL.of hDl⟩, D, _, j, rfl, rfl, hDl, h1, h2, k j p H' se hp hpu⟩
def mu3 : St → Hp → Nat := fun σ _ => match σ with
  | [_, _, _, some (.int kn), _, _] => 64 - kn.toNat
  | _ => 0
theorem ok_steps_to (T : Txt K mg A) : FnOk P w K mg base CX0 5 A.f_steps_to A.d_steps_to ["pairs", "left", "right"] sp_steps_to := by
  have G_is_within := ok_is_within (P := P) (w := w) (base := base) T
  have G_first_useful := ok_first_useful (P := P) (w := w) (base := base) T
  refine T.F_steps_to.ok sc_steps_to (fun vs H Q E h => ?_) (fun cdv A' outer s H vs Q E hr h => ?_)
  · obtain ⟨l, a, b, ps, rfl, _⟩ := h; rfl
  · obtain ⟨l, a, b, ps, rfl, hP, hlen, hps, ha, hb, k⟩ := h
    refine ⟨_, (pss_cons (ps_set (i := 3) sc_steps_to.nd rfl (Or.inl rfl) (pv 1))
      (pss_cons (ps_set (i := 4) sc_steps_to.nd rfl (Or.inl rfl) (pe_lst pa_nil))
      (pss_cons (ps_while PassesOwn.never (pt_not (pt_val (pe_call G_is_within (hr.mono (by decide)) rfl T.m_is_within T.F_is_within.kp T.b_is_within .nil pass0 (pa_cons (pv 2) (pa_cons (pv 3) pa_nil))))) (pss_cons (ps_set (i := 5) sc_steps_to.nd rfl (Or.inl rfl) (pe_call G_first_useful (hr.mono (by decide)) rfl T.m_first_useful T.F_first_useful.kp T.b_first_useful .nil pass0 (pa_cons (pv 0) (pa_cons (pv 3) pa_nil))))
      (pss_cons (ps_expr (pe_appendK K (pv 4) (pa_cons (pv 5) pa_nil)))
      (pss_one (ps_set (i := 3) sc_steps_to.nd rfl (Or.inl rfl) (pe_op op_or (pv 3) (pe_ix (ix_tupK K) (pe_ix (ix_listK K) (pv 0) (pv 5) (fun _ _ => rfl)) pe_int (fun _ _ => rfl))))))))
      (pss_one (ps_ret (pv 4)))))), ?_⟩
    refine ⟨_, rfl, Nat.zero_le _, fun D hD => ?_⟩
    refine while_by (fun σ H' => Same H H' ∧ ∃ (kn : Nat) (pl : List Nat) (sv : Option V), σ = [some (.ref l), some (.int (a : Nat)), some (.int (b : Nat)), some (.int (kn : Nat)), some (.ref D), sv] ∧ H' D = some (.lst (nums pl)) ∧ leadN ps pl a = some kn ∧ pl.length ≤ kn ∧ kn < 64 ∧ Sb b (cl ps kn)) mu3
      ⟨Same.new hD, a, [], none, rfl, upd_same, rfl, Nat.zero_le _, ha, hb⟩ ?_ (fun σ H Q Q' hq ⟨v, e, v', e', x, y, ee, k, ek, q⟩ => ⟨v, e, v', e', x, y, ee, k, ek, hq _ _ q⟩)
    rintro σ H' ⟨s1, kn, pl, sv, rfl, hDl, hk, hpl, hkn, hbk⟩
    refine ⟨_, rfl, _, rfl, b, kn, rfl, _, rfl, ?_⟩
    by_cases hs : Sb b kn
    · rw [decide_eq_true hs]
      refine iteF ?_
      exact ⟨_, rfl, k D pl H' hD s1 hDl (by rw [leadB_some hk, decide_eq_true hs]) (leadN_places hk) (by omega)⟩
    · rw [decide_eq_false hs]
      refine iteT ?_
      refine ⟨_, rfl, _, rfl, l, kn, ps, rfl, hP.same s1, hlen, useful_ex hbk hs, fun j p H2 s2 hp hu => ?_⟩
      have hD2 := s2 _ _ hDl
      have hu' := useful_iff hu
      refine ⟨_, rfl, .inl ⟨rfl, _, SqL.of hD2⟩, _, rfl, D, _, _, rfl, rfl, hD2, small1000 (by rw [nums_len]; omega), ?_⟩
      obtain ⟨ts, hl, htp⟩ := (hP.same s1).same s2
      have nDl : l ≠ D := fun z => by
        rw [z, hD2] at hl
        obtain ⟨_, hl0, _⟩ := hP
        rw [z, hD] at hl0
        cases hl0
      have hl3 : (upd H2 D (.lst (nums pl ++ [.int (j : Nat)]))) l = some (.lst (ts.map V.ref)) := by rw [upd_ne nDl]; exact hl
      have htp3 := htp.upd (o := .lst (nums pl ++ [.int (j : Nat)])) hD2
      have hjt : j < ts.length := by rw [htp.len]; exact (List.getElem?_eq_some_iff.mp hp).1
      have hgt : (ts.map V.ref)[j]? = some (.ref ts[j]) := by rw [List.getElem?_map, List.getElem?_eq_getElem hjt]; rfl
      obtain ⟨t, q, et, hq, ht⟩ := htp3.get hgt
      rw [et] at hgt
      rw [hp] at hq
      cases hq
      refine ⟨_, rfl, _, rfl, _, rfl, l, _, (j : Int), _, rfl, rfl, SqL.of hl3, atI_nat hgt, t, _, 1, _, rfl, rfl, SqT.of ht, rfl, _, _, rfl, rfl, ?_⟩
      have hgr : kn < kn ||| p.2 := grows hu'.2
      have hlt : kn ||| p.2 < 64 := Nat.or_lt_two_pow (n := 6) hkn (hps p (List.mem_of_getElem? hp))
      refine ⟨⟨Same.up (s1.trans s2) hD, kn ||| p.2, pl ++ [j], some (.int (j : Nat)), by rw [← or_nat]; rfl, by rw [upd_same, nums_snoc], ?_, by rw [List.length_append]; show pl.length + 1 ≤ _; omega, hlt, hbk.trans (cl_mono ps (Sb.left _ _))⟩, ?_⟩
      · rw [leadN_append, hk]
        exact leadN_one hp hu'.1
      · show 64 - (Builtin.bitOr ((kn : Nat) : Int) ((p.2 : Nat) : Int)).toNat < 64 - ((kn : Nat) : Int).toNat
        rw [or_nat, Int.toNat_natCast, Int.toNat_natCast]
        omega
theorem ok_follows (T : Txt K mg A) : FnOk P w K mg base CX0 7 A.f_follows A.d_follows ["rules", "left", "right"] (sp_follows A.c_Rules A.c_Steps A.c_Rows) := by
  have G_is_set := ok_is_set (P := P) (w := w) (base := base) T
  have G_is_within := ok_is_within (P := P) (w := w) (base := base) T
  have G_spread := ok_spread (P := P) (w := w) (base := base) T
  have G_Rules_rules := ok_Rules_rules (P := P) (w := w) (base := base) T
  have G_steps_to := ok_steps_to (P := P) (w := w) (base := base) T
  have G_row_of := ok_row_of (P := P) (w := w) (base := base) T
  have G_Steps_init := ok_Steps_init (P := P) (w := w) (base := base) T
  have G_Rows_init := ok_Rows_init (P := P) (w := w) (base := base) T
  refine T.F_follows.ok sc_follows (fun vs H Q E h => ?_) (fun cdv A' outer s H vs Q E hr h => ?_)
  · obtain ⟨p, m, c, a, b, ps, rfl, _⟩ := h; rfl
  · obtain ⟨p, m, c, a, b, ps, rfl, hR, hG, ha, hb, k1, k2⟩ := h
    obtain ⟨⟨dx, hp⟩, _⟩ := id hR
    obtain ⟨hc1, hc6, hlen, hps⟩ := id hG
    have h64 : 2 ^ c ≤ 64 := Nat.pow_le_pow_right (by decide) hc6
    refine ⟨_, (pss_cons (ps_if (PW.pt (pw_or (pt_not (pt_val (pe_call G_is_set (hr.mono (by decide)) rfl T.m_is_set T.F_is_set.kp T.b_is_set .nil pass0 (pa_cons (pv 1) (pa_cons (pe_fldK K (pv 0)) pa_nil))))) (pw_or1 (pt_not (pt_val (pe_call G_is_set (hr.mono (by decide)) rfl T.m_is_set T.F_is_set.kp T.b_is_set .nil pass0 (pa_cons (pv 2) (pa_cons (pe_fldK K (pv 0)) pa_nil)))))))) (pss_one ps_never) pss_nil)
      (pss_cons (ps_set (i := 3) sc_follows.nd rfl (Or.inl rfl) (pe_meth0 (pv 0) T.cl_Rules T.mt_Rules_rules G_Rules_rules (hr.mono (by decide)) T.b_Rules_rules .nil pass0))
      (pss_cons (ps_set (i := 4) sc_follows.nd rfl (Or.inl rfl) (pe_call G_spread (hr.mono (by decide)) rfl T.m_spread T.F_spread.kp T.b_spread .nil pass0 (pa_cons (pv 3) (pa_cons (pv 1) pa_nil))))
      (pss_cons (ps_if (pt_val (pe_call G_is_within (hr.mono (by decide)) rfl T.m_is_within T.F_is_within.kp T.b_is_within .nil pass0 (pa_cons (pv 2) (pa_cons (pv 4) pa_nil)))) (pss_one (ps_ret (pe_make T.mk_Steps G_Steps_init (hr.mono (by decide)) rfl T.m_Steps T.b_Steps_init .nil pass0 (pa_cons (pe_call G_steps_to (hr.mono (by decide)) rfl T.m_steps_to T.F_steps_to.kp T.b_steps_to .nil pass0 (pa_cons (pv 3) (pa_cons (pv 1) (pa_cons (pv 2) pa_nil)))) pa_nil)))) pss_nil)
      (pss_one (ps_ret (pe_make T.mk_Rows G_Rows_init (hr.mono (by decide)) rfl T.m_Rows T.b_Rows_init .nil pass0 (pa_cons (pe_call G_row_of (hr.mono (by decide)) rfl T.m_row_of T.F_row_of.kp T.b_row_of .nil pass0 (pa_cons (pe_fldK K (pv 0)) (pa_cons (pv 4) (pa_cons pe_int pa_nil)))) (pa_cons (pe_call G_row_of (hr.mono (by decide)) rfl T.m_row_of T.F_row_of.kp T.b_row_of .nil pass0 (pa_cons (pe_fldK K (pv 0)) (pa_cons (pv 4) (pa_cons pe_int pa_nil)))) pa_nil))))))))), ?_⟩
    refine ⟨_, rfl, _, rfl, p, A.c_Rules, dx, _, _, rfl, hp, T.cl_Rules, T.na_Rules_columns, flds_columns _ _, a, c, rfl, hc6, _, rfl, ?_⟩
    have ea := in_set ha
    have eb := in_set hb
    rw [ea]
    refine iteF ?_
    refine ⟨_, rfl, _, rfl, p, A.c_Rules, dx, _, _, rfl, hp, T.cl_Rules, T.na_Rules_columns, flds_columns _ _, b, c, rfl, hc6, _, rfl, ?_⟩
    rw [eb]
    refine iteF ?_
    refine ⟨_, rfl, p, dx, _, rfl, hp, flds_no _ _ (by decide +kernel) (by decide +kernel), p, m, c, ps, rfl, hR, fun l ts hl htp => ?_⟩
    have s1 : Same H (upd H l (.lst (ts.map V.ref))) := Same.new hl
    have hP1 : PrsAt (upd H l (.lst (ts.map V.ref))) l ps := ⟨ts, upd_same, htp.same s1⟩
    generalize upd H l (.lst (ts.map V.ref)) = H1 at s1 hP1 ⊢
    have hp2 : ∀ q ∈ ps, q.2 < 64 := fun q hq => by have := (hps q hq).2; omega
    refine ⟨_, rfl, _, rfl, l, a, ps, rfl, hP1, by omega, hp2, ?_⟩
    have hcl : cl ps a < 2 ^ c := cl_lt (fun q hq => (hps q hq).2) ha
    refine ⟨_, rfl, _, rfl, b, cl ps a, rfl, _, rfl, ?_⟩
    by_cases hs : Sb b (cl ps a)
    · rw [decide_eq_true hs]
      refine iteT ?_
      refine ⟨_, rfl, _, rfl, _, rfl, l, a, b, ps, rfl, hP1, hlen, hp2, by omega, hs, fun d pl H2 hd s2 hd2 hld hpl hpn => ?_⟩
      refine fun x dx2 nx ndx nex => ?_
      have s3 : Same H2 (upd (upd H2 dx2 (.own x)) x (.ins A.c_Steps dx2 [])) := Same.up (Same.new ndx) nx
      refine ⟨x, dx2, d, pl, rfl, upd_same, s3 _ _ hd2, fun e H4 he hS kp => ⟨rfl, ?_⟩⟩
      have s4 : Same H2 H4 := fun q o hq => kp q o (s3 q o hq) (ne_of_none hq nx)
      have s04 : Same H H4 := s1.trans (s2.trans s4)
      exact k1 hs x e pl H4 (s1.free (s2.free nx)) (s1.free (s2.free (s3.free he))) s04 hS hld hpl hpn
    · rw [decide_eq_false hs]
      refine iteF ?_
      refine ⟨_, rfl, p, A.c_Rules, dx, _, _, rfl, s1 _ _ hp, T.cl_Rules, T.na_Rules_columns, flds_columns _ _, _, rfl, c, cl ps a, 0, rfl, hc6, by omega, fun d1 H2 hd1 s2 hd12 => ?_⟩
      refine ⟨_, rfl, p, A.c_Rules, dx, _, _, rfl, s2 _ _ (s1 _ _ hp), T.cl_Rules, T.na_Rules_columns, flds_columns _ _, _, rfl, c, cl ps a, 1, rfl, hc6, by omega, fun d2 H3 hd2 s3 hd23 => ?_⟩
      refine fun x dx2 nx ndx nex => ?_
      have s4 : Same H3 (upd (upd H3 dx2 (.own x)) x (.ins A.c_Rows dx2 [])) := Same.up (Same.new ndx) nx
      refine ⟨x, dx2, d1, d2, _, _, rfl, upd_same, s4 _ _ (s3 _ _ hd12), s4 _ _ hd23, fun e1 e2 H5 he1 he2 nee hW kp => ⟨rfl, ?_⟩⟩
      have s5 : Same H3 H5 := fun q o hq => kp q o (s4 q o hq) (ne_of_none hq nx)
      have s03 : Same H H3 := s1.trans (s2.trans s3)
      exact k2 hs x e1 e2 H5 (s03.free nx) (s03.free (s4.free he1)) (s03.free (s4.free he2)) nee (s03.trans s5) hW
end
end K05

namespace K05
open PySem L2 TC
/-- lists of places stand at ts -/
def allB (ps : List (Nat × Nat)) (qs : List (Nat × Nat)) (ls : List (List Nat)) : Bool := decide (ls.length = qs.length) && (List.range qs.length).all fun i => leadB ps (ls.getD i []) (qs.getD i (0, 0)).1 (qs.getD i (0, 0)).2
theorem getL {S : List (List Nat)} {i : Nat} {x : List Nat} (h : S[i]? = some x) : S.getD i [] = x := by simp [List.getD, h]
theorem getP {S : List (Nat × Nat)} {i : Nat} {x : Nat × Nat} (h : S[i]? = some x) : S.getD i (0, 0) = x := by simp [List.getD, h]
theorem map_range_succ {α : Type} (f : Nat → α) (i : Nat) : (List.range (i + 1)).map f = (List.range i).map f ++ [f i] := by rw [List.range_succ, List.map_append]; rfl
theorem all_range (f : Nat → Bool) (n : Nat) : (((List.range n).map f).all id) = (List.range n).all f := by rw [List.all_map]; rfl
/-- all_lead(lists, rules, others): qs the rules', ps the others' -/
def sp_all_lead (C : Addr) : Sp := fun vs H Q _ => ∃ (l p m p' m' : Addr) (c c' : Nat) (qs ps : List (Nat × Nat)) (ls : List (List Nat)), vs = [.ref l, .ref p, .ref p'] ∧ TblAt H l ls ∧ RulesAt C H p m c qs ∧ qs.length ≤ 64 ∧ RulesAt C H p' m' c' ps ∧ ∀ H', Same H H' → Q (.bl (allB ps qs ls)) H'
section
variable {P : Program} {w : World} {K : PySem.W.Frag} {mg : Str → Option Value} {base : Heap} {A : Adr}
theorem ok_all_lead (T : Txt K mg A) : FnOk P w K mg base CX0 7 A.f_all_lead A.d_all_lead ["lists", "rules", "others"] (sp_all_lead A.c_Rules) := by
  have G_lead := ok_lead (P := P) (w := w) (base := base) T
  have G_Rules_rules := ok_Rules_rules (P := P) (w := w) (base := base) T
  refine T.F_all_lead.ok sc_all_lead (fun vs H Q E h => ?_) (fun cdv A' outer s H vs Q E hr h => ?_)
  · obtain ⟨l, p, m, p', m', c, c', qs, ps, ls, rfl, _⟩ := h; rfl
  · obtain ⟨l, p, m, p', m', c, c', qs, ps, ls, rfl, ⟨ts, hl, hR⟩, hRu, hq64, hRu', k⟩ := h
    obtain ⟨⟨dx, hp⟩, _⟩ := id hRu
    have hln : (ts.map V.ref).length = ls.length := by rw [List.length_map]; exact hR.len
    refine ⟨_, (pss_cons (ps_set (i := 3) sc_all_lead.nd rfl (Or.inl rfl) (pe_meth0 (pv 1) T.cl_Rules T.mt_Rules_rules G_Rules_rules (hr.mono (by decide)) T.b_Rules_rules .nil pass0))
      (pss_cons (ps_if (pt_cmpR op_ne (pe_callB (call_lenK K) rfl T.z_len bt_len (pa_cons (pv 0) pa_nil)) (pe_callB (call_lenK K) rfl T.z_len bt_len (pa_cons (pv 3) pa_nil)) (nomark _)) (pss_one (ps_ret pe_bl)) pss_nil)
      (pss_one (ps_ret (pe_callB (call_allK K rfl) rfl T.z_all bt_all (pa_cons (pe_comp ["lists", "rules", "others", "pairs"] (defScope s_all_lead) ["places", "rule", "others"] [none, none, some 2] ⟨rfl, by decide +kernel, by decide +kernel, by decide +kernel, by decide +kernel, by decide +kernel⟩ rfl (pi_zipK K rfl T.z_zip bt_zip (pa_cons (pv 0) (pa_cons (pv 3) pa_nil))) (fun _ _ _ _ _ => pg_tupK K (n := 2) rfl (pgs_cons (pg_name (i := 0) (by show List.Nodup (["places", "rule", "others"] : List Str); decide +kernel) rfl (Or.inl rfl) (Or.inr rfl)) (pgs_cons (pg_name (i := 1) (by show List.Nodup (["places", "rule", "others"] : List Str); decide +kernel) rfl (Or.inl rfl) (Or.inr rfl)) pgs_nil))) (fun _ _ _ _ _ => pts_nil) (fun _ _ _ _ _ => (pe_call G_lead (hr.mono (by decide)) rfl T.m_lead T.F_lead.kp T.b_lead .nil pass0 (pa_cons (pv 0) (pa_cons (pv 2) (pa_cons (pe_ix (ix_tupK K) (pv 1) pe_int (fun _ _ => rfl)) (pa_cons (pe_ix (ix_tupK K) (pv 1) pe_int (fun _ _ => rfl)) pa_nil))))))) pa_nil)))))), ?_⟩
    refine ⟨_, rfl, p, dx, _, rfl, hp, flds_no _ _ (by decide +kernel) (by decide +kernel), p, m, c, qs, rfl, hRu, fun d us hd htp => ?_⟩
    have s1 : Same H (upd H d (.lst (us.map V.ref))) := Same.new hd
    have hd1 : (upd H d (.lst (us.map V.ref))) d = some (.lst (us.map V.ref)) := upd_same
    have htp1 := htp.same s1
    have hlu : (us.map V.ref).length = qs.length := by rw [List.length_map]; exact htp.len
    generalize upd H d (.lst (us.map V.ref)) = H1 at s1 hd1 htp1 ⊢
    have hl1 := s1 _ _ hl
    refine ⟨_, rfl, l, _, rfl, .inl (SqL.of hl1), _, rfl, d, _, rfl, .inl (SqL.of hd1), rfl, _, rfl, ?_⟩
    rw [hln, hlu]
    by_cases hlen : ls.length = qs.length
    · refine ite2 (fun e => absurd e (by rw [hlen]; simp)) (fun _ => ?_)
      refine ⟨_, rfl, _, rfl, l, d, rfl, ⟨_, SqL.of hl1⟩, ⟨_, SqL.of hd1⟩, fun D hD => comp_zip (xs := ts.map V.ref) (zs := us.map V.ref) (fun i ys H' => Same H1 H' ∧ i ≤ qs.length ∧ ys = bls ((List.range i).map fun i => leadB ps (ls.getD i []) (qs.getD i (0, 0)).1 (qs.getD i (0, 0)).2)) (by rw [hln, hlu]; exact hlen) ⟨Same.new hD, Nat.zero_le _, rfl⟩ (fun i ys H' _ ⟨e, _⟩ => ⟨e _ _ hl1, e _ _ hd1⟩) ?_ ?_⟩
      · rintro i v z ys H2 q hv hz ⟨s2, hi, rfl⟩ hDl hq
        have s12 := s1.trans s2
        obtain ⟨t, pl, rfl, hpl, ht⟩ := (hR.same s12).get hv
        obtain ⟨u, r, rfl, hr', hu⟩ := (htp1.same s2).get hz
        have hi' : i < qs.length := (List.getElem?_eq_some_iff.mp hr').1
        have sq : Same H2 (upd H2 q (.tup [.ref t, .ref u])) := Same.new hq
        refine yes_mk ?_
        refine ⟨_, rfl, _, rfl, _, rfl, u, _, 0, _, rfl, rfl, SqT.of (sq _ _ hu), rfl, _, rfl, u, _, 1, _, rfl, rfl, SqT.of (sq _ _ hu), rfl, t, p', m', c', r.1, r.2, ps, pl, rfl, sq _ _ ht, (hRu'.same s12).same sq, fun H3 s3 => ?_⟩
        have hD3 := s3 _ _ (sq _ _ hDl)
        refine CE2.mk hD3 (small1000 (by rw [bls_len, List.length_map, List.length_range]; omega)) ⟨Same.up (s2.trans (sq.trans s3)) hD, hi', ?_⟩
        rw [map_range_succ, bls_snoc, getL hpl, getP hr']
      · rintro ys H2 ⟨s2, _, rfl⟩ hDl
        rw [hln, hlen] at hDl
        refine ⟨D, _, rfl, SqL.of hDl, ?_⟩
        rw [all_range]
        have z := k H2 (s1.trans s2)
        unfold allB at z
        rw [decide_eq_true hlen, Bool.true_and] at z
        exact z
    · refine ite2 (fun _ => ?_) (fun e => absurd (show V.int ((ls.length : Nat) : Int) = V.int ((qs.length : Nat) : Int) by simpa using e) fun z => hlen (by injection z with z; omega))
      have z := k H1 s1
      unfold allB at z
      rw [decide_eq_false hlen, Bool.false_and] at z
      exact z
end
end K05

namespace K05
open PySem L2 TC
theorem Rws.upd {H : Hp} {a : Addr} {o : HO} : ∀ {ts : List Addr} {rs : List (List Nat)}, Rws H ts rs → a ∉ ts → Rws (upd H a o) ts rs
  | [], [], _, _ => trivial
  | _ :: _, _ :: _, ⟨h, t⟩, n => ⟨by rw [upd_ne (fun z => n (by rw [z]; exact List.mem_cons_self))]; exact h, Rws.upd t fun z => n (List.mem_cons_of_mem _ z)⟩
  | [], _ :: _, h, _ => h.elim
  | _ :: _, [], h, _ => h.elim
/-! ### Alike and Apart -/
def fldK (a b : Addr) : List (Str × V) := putF "back" (.ref b) (putF "there" (.ref a) [])
def fldP (sd pl : V) (a b : Addr) : List (Str × V) := putF "other" (.ref b) (putF "one" (.ref a) (putF "place" pl (putF "side" sd [])))
theorem ktb : ¬ (("there" : Str) = "back") := by decide +kernel
theorem kpo : ¬ (("place" : Str) = "other") := by decide +kernel
theorem kpn : ¬ (("place" : Str) = "one") := by decide +kernel
theorem kso : ¬ (("side" : Str) = "other") := by decide +kernel
theorem ksn : ¬ (("side" : Str) = "one") := by decide +kernel
theorem ksp : ¬ (("side" : Str) = "place") := by decide +kernel
theorem fldK_there (a b : Addr) : (fldK a b).lookup ("there" : Str) = some (.ref a) := by unfold fldK; rw [lookup_putF, if_neg ktb, lookup_putF, if_pos rfl]
theorem fldK_back (a b : Addr) : (fldK a b).lookup ("back" : Str) = some (.ref b) := by unfold fldK; rw [lookup_putF, if_pos rfl]
theorem fldK_no (a b : Addr) {m : Str} (h1 : ¬ m = "back") (h2 : ¬ m = "there") : (fldK a b).lookup m = none := by unfold fldK; rw [lookup_putF, if_neg h1, lookup_putF, if_neg h2]; rfl
theorem fldP_other (s p : V) (a b : Addr) : (fldP s p a b).lookup ("other" : Str) = some (.ref b) := by unfold fldP; rw [lookup_putF, if_pos rfl]
theorem fldP_one (s p : V) (a b : Addr) : (fldP s p a b).lookup ("one" : Str) = some (.ref a) := by unfold fldP; rw [lookup_putF, if_neg koo, lookup_putF, if_pos rfl]
theorem fldP_place (s p : V) (a b : Addr) : (fldP s p a b).lookup ("place" : Str) = some p := by unfold fldP; rw [lookup_putF, if_neg kpo, lookup_putF, if_neg kpn, lookup_putF, if_pos rfl]
theorem fldP_side (s p : V) (a b : Addr) : (fldP s p a b).lookup ("side" : Str) = some s := by unfold fldP; rw [lookup_putF, if_neg kso, lookup_putF, if_neg ksn, lookup_putF, if_neg ksp, lookup_putF, if_pos rfl]
theorem fldP_no (s p : V) (a b : Addr) {m : Str} (h1 : ¬ m = "other") (h2 : ¬ m = "one") (h3 : ¬ m = "place") (h4 : ¬ m = "side") : (fldP s p a b).lookup m = none := by unfold fldP; rw [lookup_putF, if_neg h1, lookup_putF, if_neg h2, lookup_putF, if_neg h3, lookup_putF, if_neg h4]; rfl
def AlikeAt (C : Addr) (H : Hp) (x a b : Addr) (S S' : List (List Nat)) : Prop := (∃ dx, H x = some (.ins C dx (fldK a b))) ∧ TblAt H a S ∧ TblAt H b S'
def ApartAt (C : Addr) (H : Hp) (x a b : Addr) (sd pl : Nat) (r1 r2 : List Nat) : Prop := (∃ dx, H x = some (.ins C dx (fldP (.int (sd : Nat)) (.int (pl : Nat)) a b))) ∧ H a = some (.lst (nums r1)) ∧ H b = some (.lst (nums r2))
theorem AlikeAt.same {C : Addr} {H H' : Hp} {x a b : Addr} {S S' : List (List Nat)} (e : Same H H') : AlikeAt C H x a b S S' → AlikeAt C H' x a b S S' := fun ⟨⟨dx, h⟩, t, u⟩ => ⟨⟨dx, e _ _ h⟩, t.same e, u.same e⟩
theorem ApartAt.same {C : Addr} {H H' : Hp} {x a b : Addr} {sd pl : Nat} {r1 r2 : List Nat} (e : Same H H') : ApartAt C H x a b sd pl r1 r2 → ApartAt C H' x a b sd pl r1 r2 := fun ⟨⟨dx, h⟩, t, u⟩ => ⟨⟨dx, e _ _ h⟩, e _ _ t, e _ _ u⟩
def sp_Apart_init (C : Addr) : Sp := fun vs H Q _ => ∃ (p dx l m : Addr) (sd pl : Nat) (r1 r2 : List Nat), vs = [.ref p, .int (sd : Nat), .int (pl : Nat), .ref l, .ref m] ∧ H p = some (.ins C dx []) ∧ H l = some (.lst (nums r1)) ∧ H m = some (.lst (nums r2)) ∧
  ∀ (a b : Addr) (H' : Hp), H a = none → H b = none → a ≠ b → ApartAt C H' p a b sd pl r1 r2 → (∀ b o, H b = some o → b ≠ p → H' b = some o) → Q .non H'
/-- what Alike shows, of rules ps and qs of the same count of columns -/
def alikeB (ps qs : List (Nat × Nat)) (S S' : List (List Nat)) : Bool := allB qs ps S && allB ps qs S'
def apartB (c : Nat) (ps qs : List (Nat × Nat)) (sd pl : Nat) (r1 r2 : List Nat) : Bool := decide (sd ≤ 1) && (decide (pl < (if sd = 0 then ps else qs).length) && brkB c [r1, r2] (if sd = 0 then qs else ps) ((if sd = 0 then ps else qs).getD pl (0, 0)))
def sp_Alike_shows (C CR : Addr) : Sp := fun vs H Q _ => ∃ (x a b p m p' m' : Addr) (c : Nat) (ps qs : List (Nat × Nat)) (S S' : List (List Nat)), vs = [.ref x, .ref p, .ref p'] ∧ AlikeAt C H x a b S S' ∧ RulesAt CR H p m c ps ∧ Good c ps ∧ RulesAt CR H p' m' c qs ∧ Good c qs ∧
  ∀ H', Same H H' → Q (.bl (alikeB ps qs S S')) H'
def sp_Apart_shows (C CR : Addr) : Sp := fun vs H Q _ => ∃ (x a b p m p' m' : Addr) (c sd pl : Nat) (ps qs : List (Nat × Nat)) (r1 r2 : List Nat), vs = [.ref x, .ref p, .ref p'] ∧ ApartAt C H x a b sd pl r1 r2 ∧ RulesAt CR H p m c ps ∧ Good c ps ∧ RulesAt CR H p' m' c qs ∧ Good c qs ∧
  ∀ H', Same H H' → Q (.bl (apartB c ps qs sd pl r1 r2)) H'
section
variable {P : Program} {w : World} {K : PySem.W.Frag} {mg : Str → Option Value} {base : Heap} {A : Adr}
theorem ok_Apart_init (T : Txt K mg A) : FnOk P w K mg base CX0 1 A.f_Apart_init A.d_Apart_init ["self", "side", "place", "one", "other"] (sp_Apart_init A.c_Apart) := by
  refine T.F_Apart_init.ok sc_Apart_init (fun vs H Q E h => ?_) (fun cdv A' outer s H vs Q E hr h => ?_)
  · obtain ⟨p, dx, l, m, sd, pl, r1, r2, rfl, _⟩ := h; rfl
  · obtain ⟨p, dx, l, m, sd, pl, r1, r2, rfl, hp, hl, hm, k⟩ := h
    refine ⟨_, (pss_cons (ps_fldK K (pv 0) (pv 1))
      (pss_cons (ps_fldK K (pv 0) (pv 2))
      (pss_cons (ps_fldK K (pv 0) (pe_callTy (call_listK K) rfl T.z_list bt_list (pa_cons (pv 3) pa_nil)))
      (pss_one (ps_fldK K (pv 0) (pe_callTy (call_listK K) rfl T.z_list bt_list (pa_cons (pv 4) pa_nil))))))), ?_⟩
    have nlp : l ≠ p := ne_of hl hp (by intro z; cases z)
    have nmp : m ≠ p := ne_of hm hp (by intro z; cases z)
    refine ⟨_, rfl, _, rfl, p, A.c_Apart, dx, [], rfl, hp, T.cl_Apart, T.na_Apart_side, by show 0 < 1000; decide, ?_⟩
    refine ⟨_, rfl, _, rfl, p, A.c_Apart, dx, _, rfl, upd_same, T.cl_Apart, T.na_Apart_place, by show 1 < 1000; decide, ?_⟩
    have kp2 : ∀ b, b ≠ p → (upd (upd H p (.ins A.c_Apart dx (putF "side" (.int (sd : Nat)) []))) p (.ins A.c_Apart dx (putF "place" (.int (pl : Nat)) (putF "side" (.int (sd : Nat)) [])))) b = H b := fun b n => by rw [upd_ne n, upd_ne n]
    have hp2 : (upd (upd H p (.ins A.c_Apart dx (putF "side" (.int (sd : Nat)) []))) p (.ins A.c_Apart dx (putF "place" (.int (pl : Nat)) (putF "side" (.int (sd : Nat)) [])))) p = some (.ins A.c_Apart dx (putF "place" (.int (pl : Nat)) (putF "side" (.int (sd : Nat)) []))) := upd_same
    generalize upd (upd H p (.ins A.c_Apart dx (putF "side" (.int (sd : Nat)) []))) p (.ins A.c_Apart dx (putF "place" (.int (pl : Nat)) (putF "side" (.int (sd : Nat)) []))) = H2 at kp2 hp2 ⊢
    have hl2 : H2 l = some (.lst (nums r1)) := by rw [kp2 l nlp]; exact hl
    have hm2 : H2 m = some (.lst (nums r2)) := by rw [kp2 m nmp]; exact hm
    refine ⟨_, rfl, l, nums r1, rfl, .inl (SqL.of hl2), fun a ha => ⟨_, rfl, p, A.c_Apart, dx, _, rfl, Same.new ha _ _ hp2, T.cl_Apart, T.na_Apart_one, by show 2 < 1000; decide, ?_⟩⟩
    have npa : a ≠ p := fun z => by rw [z, hp2] at ha; cases ha
    have haH : H a = none := by rw [← kp2 a npa]; exact ha
    have hm4 : (upd (upd H2 a (.lst (nums r1))) p (.ins A.c_Apart dx (putF "one" (.ref a) (putF "place" (.int (pl : Nat)) (putF "side" (.int (sd : Nat)) []))))) m = some (.lst (nums r2)) := by rw [upd_ne nmp]; exact Same.new ha _ _ hm2
    have ha4 : (upd (upd H2 a (.lst (nums r1))) p (.ins A.c_Apart dx (putF "one" (.ref a) (putF "place" (.int (pl : Nat)) (putF "side" (.int (sd : Nat)) []))))) a = some (.lst (nums r1)) := by rw [upd_ne npa, upd_same]
    refine ⟨_, rfl, m, nums r2, rfl, .inl (SqL.of hm4), fun b hb => ⟨_, rfl, p, A.c_Apart, dx, _, rfl, Same.new hb _ _ upd_same, T.cl_Apart, T.na_Apart_other, by show 3 < 1000; decide, ?_⟩⟩
    have nbp : b ≠ p := fun z => by rw [z, upd_same] at hb; cases hb
    have nab : a ≠ b := ne_of_none ha4 hb
    have hbH : H b = none := by
      rw [upd_ne nbp, upd_ne nab.symm] at hb
      rw [← kp2 b nbp]; exact hb
    refine k a b _ haH hbH nab ⟨⟨dx, upd_same⟩, by rw [upd_ne npa, upd_ne nab]; exact ha4, by rw [upd_ne nbp, upd_same]⟩ fun q o hq hqp => ?_
    rw [upd_ne hqp, upd_ne (ne_of_none hq hbH), upd_ne hqp, upd_ne (ne_of_none hq haH), kp2 q hqp]
    exact hq
theorem ok_Alike_shows (T : Txt K mg A) : FnOk P w K mg base CX0 9 A.f_Alike_shows A.d_Alike_shows ["self", "one", "other"] (sp_Alike_shows A.c_Alike A.c_Rules) := by
  have G_all_lead := ok_all_lead (P := P) (w := w) (base := base) T
  refine T.F_Alike_shows.ok sc_Alike_shows (fun vs H Q E h => ?_) (fun cdv A' outer s H vs Q E hr h => ?_)
  · obtain ⟨x, a, b, p, m, p', m', c, ps, qs, S, S', rfl, _⟩ := h; rfl
  · obtain ⟨x, a, b, p, m, p', m', c, ps, qs, S, S', rfl, ⟨⟨dx, hx⟩, ha, hb⟩, hR, hG, hR', hG', k⟩ := h
    obtain ⟨⟨dp, hp⟩, _⟩ := id hR
    obtain ⟨⟨dp', hp'⟩, _⟩ := id hR'
    refine ⟨_, (pss_cons (ps_if (pt_cmpR op_ne (pe_fldK K (pv 1)) (pe_fldK K (pv 2)) (nomark _)) (pss_one (ps_ret pe_bl)) pss_nil)
      (pss_one (ps_ret (pe_and (pe_call G_all_lead (hr.mono (by decide)) rfl T.m_all_lead T.F_all_lead.kp T.b_all_lead .nil pass0 (pa_cons (pe_fldK K (pv 0)) (pa_cons (pv 1) (pa_cons (pv 2) pa_nil)))) (pe_one (pe_call G_all_lead (hr.mono (by decide)) rfl T.m_all_lead T.F_all_lead.kp T.b_all_lead .nil pass0 (pa_cons (pe_fldK K (pv 0)) (pa_cons (pv 2) (pa_cons (pv 1) pa_nil))))))))), ?_⟩
    refine ⟨_, rfl, p, A.c_Rules, dp, _, _, rfl, hp, T.cl_Rules, T.na_Rules_columns, flds_columns _ _, _, rfl, p', A.c_Rules, dp', _, _, rfl, hp', T.cl_Rules, T.na_Rules_columns, flds_columns _ _, rfl, _, rfl, ?_⟩
    refine ite2 (fun e => absurd e (by simp)) (fun _ => ?_)
    refine ⟨_, rfl, x, A.c_Alike, dx, _, _, rfl, hx, T.cl_Alike, T.na_Alike_there, fldK_there _ _, _, rfl, _, rfl, a, p, m, p', m', c, c, ps, qs, S, rfl, ha, hR, hG.2.2.1, hR', fun H1 s1 => ⟨_, rfl, ?_⟩⟩
    refine ite2 (fun e => ?_) (fun e => ?_)
    · refine ⟨_, rfl, x, A.c_Alike, dx, _, _, rfl, s1 _ _ hx, T.cl_Alike, T.na_Alike_back, fldK_back _ _, _, rfl, _, rfl, b, p', m', p, m, c, c, qs, ps, S', rfl, hb.same s1, hR'.same s1, hG'.2.2.1, hR.same s1, fun H2 s2 => ?_⟩
      have z := k H2 (s1.trans s2)
      unfold alikeB at z
      rw [e, Bool.true_and] at z
      exact z
    · have e' : allB qs ps S = false := by simpa using e
      have z := k H1 s1
      unfold alikeB at z
      rw [e', Bool.false_and] at z
      exact z
theorem ok_Apart_shows (T : Txt K mg A) : FnOk P w K mg base CX0 9 A.f_Apart_shows A.d_Apart_shows ["self", "one", "other"] (sp_Apart_shows A.c_Apart A.c_Rules) := by
  have G_is_number := ok_is_number (P := P) (w := w) (base := base) T
  have G_is_place := ok_is_place (P := P) (w := w) (base := base) T
  have G_break_alone := ok_break_alone (P := P) (w := w) (base := base) T
  have G_Rules_rules := ok_Rules_rules (P := P) (w := w) (base := base) T
  refine T.F_Apart_shows.ok sc_Apart_shows (fun vs H Q E h => ?_) (fun cdv A' outer s H vs Q E hr h => ?_)
  · obtain ⟨x, a, b, p, m, p', m', c, sd, pl, ps, qs, r1, r2, rfl, _⟩ := h; rfl
  · obtain ⟨x, a, b, p, m, p', m', c, sd, pl, ps, qs, r1, r2, rfl, ⟨⟨dx, hx⟩, ha, hb⟩, hR, hG, hR', hG', k⟩ := h
    obtain ⟨⟨dp, hp⟩, _⟩ := id hR
    obtain ⟨⟨dp', hp'⟩, _⟩ := id hR'
    refine ⟨_, (pss_cons (ps_if (PW.pt (pw_or (pt_cmpR op_ne (pe_fldK K (pv 1)) (pe_fldK K (pv 2)) (nomark _)) (pw_or1 (pt_not (pt_val (pe_call G_is_number (hr.mono (by decide)) rfl T.m_is_number T.F_is_number.kp T.b_is_number .nil pass0 (pa_cons (pe_fldK K (pv 0)) (pa_cons pe_int (pa_cons pe_int pa_nil))))))))) (pss_one (ps_ret pe_bl)) pss_nil)
      (pss_cons (ps_set (i := 3) sc_Apart_shows.nd rfl (Or.inl rfl) (pe_ifExp (pt_cmpR op_eq (pe_fldK K (pv 0)) pe_int (nomark _)) (pe_meth0 (pv 1) T.cl_Rules T.mt_Rules_rules G_Rules_rules (hr.mono (by decide)) T.b_Rules_rules .nil pass0) (pe_meth0 (pv 2) T.cl_Rules T.mt_Rules_rules G_Rules_rules (hr.mono (by decide)) T.b_Rules_rules .nil pass0)))
      (pss_cons (ps_if (pt_not (pt_val (pe_call G_is_place (hr.mono (by decide)) rfl T.m_is_place T.F_is_place.kp T.b_is_place .nil pass0 (pa_cons (pe_fldK K (pv 0)) (pa_cons (pv 3) pa_nil))))) (pss_one (ps_ret pe_bl)) pss_nil)
      (pss_cons (ps_set (i := 4) sc_Apart_shows.nd rfl (Or.inl rfl) (pe_ifExp (pt_cmpR op_eq (pe_fldK K (pv 0)) pe_int (nomark _)) (pv 2) (pv 1)))
      (pss_one (ps_ret (pe_call G_break_alone (hr.mono (by decide)) rfl T.m_break_alone T.F_break_alone.kp T.b_break_alone .nil pass0 (pa_cons (pe_lst (pa_cons (pe_fldK K (pv 0)) (pa_cons (pe_fldK K (pv 0)) pa_nil))) (pa_cons (pv 4) (pa_cons (pe_ix (ix_listK K) (pv 3) (pe_fldK K (pv 0)) (fun _ _ => rfl)) pa_nil)))))))))), ?_⟩
    have no : ∀ H', Same H H' → apartB c ps qs sd pl r1 r2 = false → Q (.bl false) H' := fun H' s' e => by
      have z := k H' s'
      rw [e] at z
      exact z
    refine ⟨_, rfl, p, A.c_Rules, dp, _, _, rfl, hp, T.cl_Rules, T.na_Rules_columns, flds_columns _ _, _, rfl, p', A.c_Rules, dp', _, _, rfl, hp', T.cl_Rules, T.na_Rules_columns, flds_columns _ _, rfl, _, rfl, ?_⟩
    refine ite2 (fun e => absurd e (by simp)) (fun _ => ?_)
    refine ⟨_, rfl, x, A.c_Apart, dx, _, _, rfl, hx, T.cl_Apart, T.na_Apart_side, fldP_side _ _ _ _, (sd : Int), 0, 1, rfl, _, rfl, ?_⟩
    have e01 : (decide ((0 : Int) ≤ (sd : Int)) && decide ((sd : Int) ≤ 1)) = decide (sd ≤ 1) := by
      rw [decide_eq_true (Int.natCast_nonneg sd), Bool.true_and]
      exact decide_eq_decide.mpr (by omega)
    rw [e01]
    by_cases hs : sd ≤ 1
    · rw [decide_eq_true hs]
      refine iteF ?_
      refine ⟨_, rfl, x, A.c_Apart, dx, _, _, rfl, hx, T.cl_Apart, T.na_Apart_side, fldP_side _ _ _ _, rfl, _, rfl, ?_⟩
      -- the one whose rule it is
      suffices rest : ∀ (d : Addr) (us : List Addr) (H1 : Hp), Same H H1 → H1 d = some (.lst (us.map V.ref)) → Tps H1 us (if sd = 0 then ps else qs) → tSeq _ _ { nx := fun x H' => Q V.non H', rt := Q } [some (.ref x), some (.ref p), some (.ref p'), some (.ref d), none] H1 by
        refine ite2 (fun e => ?_) (fun e => ?_)
        · have e' : sd = 0 := by have := of_decide_eq_true e; injection this with this; omega
          refine ⟨_, rfl, p, dp, _, rfl, hp, flds_no _ _ (by decide +kernel) (by decide +kernel), p, m, c, ps, rfl, hR, fun d us hd htp => ?_⟩
          exact rest d us _ (Same.new hd) upd_same (by rw [if_pos e']; exact htp.same (Same.new hd))
        · have e' : ¬ sd = 0 := fun z => e (decide_eq_true (by rw [z]; rfl))
          refine ⟨_, rfl, p', dp', _, rfl, hp', flds_no _ _ (by decide +kernel) (by decide +kernel), p', m', c, qs, rfl, hR', fun d us hd htp => ?_⟩
          exact rest d us _ (Same.new hd) upd_same (by rw [if_neg e']; exact htp.same (Same.new hd))
      intro d us H1 s1 hd1 htp1
      have hlu : (us.map V.ref).length = (if sd = 0 then ps else qs).length := by rw [List.length_map]; exact htp1.len
      refine ⟨_, rfl, x, A.c_Apart, dx, _, _, rfl, s1 _ _ hx, T.cl_Apart, T.na_Apart_place, fldP_place _ _ _ _, _, rfl, pl, d, _, rfl, hd1, _, rfl, ?_⟩
      rw [hlu]
      by_cases hpl : pl < (if sd = 0 then ps else qs).length
      · rw [decide_eq_true hpl]
        refine iteF ?_
        have hpt : (us.map V.ref)[pl]? = some (.ref (us[pl]'(by rw [List.length_map] at hlu; omega))) := by rw [List.getElem?_map, List.getElem?_eq_getElem (by rw [List.length_map] at hlu; omega)]; rfl
        obtain ⟨t, q, et, hq, ht⟩ := htp1.get hpt
        rw [et] at hpt
        have hgq : (if sd = 0 then ps else qs).getD pl (0, 0) = q := by simp only [List.getD, hq, Option.getD_some]
        have hGs : Good c (if sd = 0 then qs else ps) := by split <;> assumption
        have hGo : Good c (if sd = 0 then ps else qs) := by split <;> assumption
        have hq64 := hGo.2.2.2 q (List.mem_of_getElem? hq)
        have h64 : 2 ^ c ≤ 64 := Nat.pow_le_pow_right (by decide) hGo.2.1
        -- the other
        suffices rest : ∀ (kp km : Addr), RulesAt A.c_Rules H kp km c (if sd = 0 then qs else ps) → tSeq _ _ { nx := fun x H' => Q V.non H', rt := Q } [some (.ref x), some (.ref p), some (.ref p'), some (.ref d), some (.ref kp)] H1 by
          refine ⟨_, rfl, x, A.c_Apart, dx, _, _, rfl, s1 _ _ hx, T.cl_Apart, T.na_Apart_side, fldP_side _ _ _ _, rfl, _, rfl, ?_⟩
          refine ite2 (fun e => ?_) (fun e => ?_)
          · have e' : sd = 0 := by have := of_decide_eq_true e; injection this with this; omega
            exact ⟨_, rfl, rest p' m' (by rw [if_pos e']; exact hR')⟩
          · have e' : ¬ sd = 0 := fun z => e (decide_eq_true (by rw [z]; rfl))
            exact ⟨_, rfl, rest p m (by rw [if_neg e']; exact hR)⟩
        intro kp km hK
        refine ⟨_, rfl, x, A.c_Apart, dx, _, _, rfl, s1 _ _ hx, T.cl_Apart, T.na_Apart_one, fldP_one _ _ _ _, _, rfl, x, A.c_Apart, dx, _, _, rfl, s1 _ _ hx, T.cl_Apart, T.na_Apart_other, fldP_other _ _ _ _, by show 2 ≤ sizeLine; decide, fun l hl => ?_⟩
        have s2 : Same H1 (upd H1 l (.lst [.ref a, .ref b])) := Same.new hl
        have s02 := s1.trans s2
        refine ⟨_, rfl, _, rfl, _, rfl, x, A.c_Apart, dx, _, _, rfl, s02 _ _ hx, T.cl_Apart, T.na_Apart_place, fldP_place _ _ _ _, d, _, (pl : Int), _, rfl, rfl, SqL.of (s2 _ _ hd1), atI_nat hpt, l, kp, km, t, c, [r1, r2], _, q, rfl, ⟨[a, b], upd_same, s02 _ _ ha, s02 _ _ hb, trivial⟩, hK.same s02, hGs, s2 _ _ ht, by omega, by omega, fun H3 s3 => ?_⟩
        have z := k H3 (s02.trans s3)
        unfold apartB at z
        rw [decide_eq_true hs, decide_eq_true hpl, hgq] at z
        exact z
      · rw [decide_eq_false hpl]
        refine iteT (no H1 s1 ?_)
        unfold apartB
        rw [decide_eq_false hpl, Bool.false_and, Bool.and_false]
    · rw [decide_eq_false hs]
      refine iteT (no H (Same.refl _) ?_)
      unfold apartB
      rw [decide_eq_false hs, Bool.false_and]
end
theorem Rws.there {H : Hp} {t : Addr} : ∀ {ts : List Addr} {rs : List (List Nat)}, Rws H ts rs → t ∈ ts → ∃ xs, H t = some (.lst xs)
  | [], [], _, h => nomatch h
  | u :: ts, r :: rs, ⟨h, q⟩, m => by
    rcases List.mem_cons.mp m with rfl | m
    · exact ⟨_, h⟩
    · exact Rws.there q m
  | [], _ :: _, h, _ => h.elim
  | _ :: _, [], h, _ => h.elim
def sp_Alike_init2 (C : Addr) : Sp := fun vs H Q _ => ∃ (p dx l m : Addr) (S S' : List (List Nat)), vs = [.ref p, .ref l, .ref m] ∧ H p = some (.ins C dx []) ∧ TblAt H l S ∧ S.length ≤ 64 ∧ TblAt H m S' ∧ S'.length ≤ 64 ∧
  ∀ (a b : Addr) (us us' : List Addr) (H' : Hp), H a = none → H b = none → a ≠ b → (∀ t ∈ us, H t = none ∧ t ≠ a ∧ t ≠ b) → (∀ t ∈ us', H t = none ∧ t ≠ a ∧ t ≠ b) → (∃ dx, H' p = some (.ins C dx (fldK a b))) → H' a = some (.lst (us.map V.ref)) → Rws H' us S → H' b = some (.lst (us'.map V.ref)) → Rws H' us' S' → (∀ b o, H b = some o → b ≠ p → H' b = some o) → Q .non H'
section
variable {P : Program} {w : World} {K : PySem.W.Frag} {mg : Str → Option Value} {base : Heap} {A : Adr}
theorem ok_Alike_init2 (T : Txt K mg A) : FnOk P w K mg base CX0 1 A.f_Alike_init A.d_Alike_init ["self", "there", "back"] (sp_Alike_init2 A.c_Alike) := by
  refine T.F_Alike_init.ok sc_Alike_init (fun vs H Q E h => ?_) (fun cdv A' outer s H vs Q E hr h => ?_)
  · obtain ⟨p, dx, l, m, S, S', rfl, _⟩ := h; rfl
  · obtain ⟨p, dx, l, m, S, S', rfl, hp, ⟨ts, hl, hR⟩, h64, ⟨ts', hm, hR'⟩, h64', k⟩ := h
    have hln : (ts.map V.ref).length = S.length := by rw [List.length_map]; exact hR.len
    have hln' : (ts'.map V.ref).length = S'.length := by rw [List.length_map]; exact hR'.len
    refine ⟨_, (pss_cons (ps_fldK K (pv 0) (pe_comp ["self", "there", "back"] (defScope s_Alike_init) ["places"] [none] ⟨rfl, by decide +kernel, by decide +kernel, by decide +kernel, by decide +kernel, by decide +kernel⟩ rfl (pi_listK K (pv 1)) (fun _ _ _ _ _ => (pg_name (i := 0) (by show List.Nodup (["places"] : List Str); decide +kernel) rfl (Or.inl rfl) (Or.inr rfl))) (fun _ _ _ _ _ => pts_nil) (fun _ _ _ _ _ => (pe_callTy (call_listK K) rfl T.z_list bt_list (pa_cons (pv 0) pa_nil)))))
      (pss_one (ps_fldK K (pv 0) (pe_comp ["self", "there", "back"] (defScope s_Alike_init) ["places"] [none] ⟨rfl, by decide +kernel, by decide +kernel, by decide +kernel, by decide +kernel, by decide +kernel⟩ rfl (pi_listK K (pv 2)) (fun _ _ _ _ _ => (pg_name (i := 0) (by show List.Nodup (["places"] : List Str); decide +kernel) rfl (Or.inl rfl) (Or.inr rfl))) (fun _ _ _ _ _ => pts_nil) (fun _ _ _ _ _ => (pe_callTy (call_listK K) rfl T.z_list bt_list (pa_cons (pv 0) pa_nil))))))), ?_⟩
    refine ⟨_, rfl, l, rfl, ⟨_, SqL.of hl⟩, fun D hD => comp_list (xs := ts.map V.ref) (fun i ys H' => Same H H' ∧ i ≤ S.length ∧ ∃ us : List Addr, ys = us.map V.ref ∧ Rws H' us (S.take i) ∧ ∀ t ∈ us, t ≠ D ∧ H t = none) ⟨Same.new hD, Nat.zero_le _, [], rfl, trivial, fun t ht => by simp at ht⟩ (fun i ys H' _ ⟨e, _⟩ => SqL.of (e _ _ hl)) ?_ ?_⟩
    · rintro i x ys H' hx ⟨se, hi, us, rfl, hU, hn⟩ hDl
      obtain ⟨t, y, rfl, hy, ht⟩ := (hR.same se).get hx
      have hi' : i < S.length := (List.getElem?_eq_some_iff.mp hy).1
      refine yes_mk ?_
      refine ⟨_, rfl, t, nums y, rfl, .inl (SqL.of ht), fun e he => ?_⟩
      have s2 : Same H' (upd H' e (.lst (nums y))) := Same.new he
      have neD : e ≠ D := fun z => by rw [z, hDl] at he; cases he
      refine CE1.mk (s2 _ _ hDl) (small1000 (by rw [List.length_map, hU.len, List.length_take]; omega)) ⟨Same.up (se.trans s2) hD, hi', us ++ [e], by rw [List.map_append]; rfl, ?_, fun t ht => ?_⟩
      · rw [List.take_add_one, hy]
        refine Rws.upd (Rws.snoc upd_same (hU.same s2)) fun z => ?_
        rcases List.mem_append.mp z with z | z
        · exact (hn _ z).1 rfl
        · exact neD (List.mem_singleton.mp z).symm
      · rcases List.mem_append.mp ht with z | z
        · exact hn t z
        · rw [List.mem_singleton.mp z]; exact ⟨neD, se.free he⟩
    rintro ys H1 ⟨s1, _, us, rfl, hU, hn⟩ hDl
    rw [hln, List.take_length] at hU
    have hp1 := s1 _ _ hp
    have npD : D ≠ p := fun z => by rw [z, hp] at hD; cases hD
    refine ⟨_, rfl, p, A.c_Alike, dx, [], rfl, hp1, T.cl_Alike, T.na_Alike_there, by show 0 < 1000; decide, ?_⟩
    have npu : p ∉ us := fun z => by have := (hn p z).2; rw [hp] at this; cases this
    have nmp : m ≠ p := ne_of hm hp (by intro z; cases z)
    -- the heap behind the first field
    have hm2 : (upd H1 p (.ins A.c_Alike dx (putF "there" (.ref D) []))) m = some (.lst (ts'.map V.ref)) := by rw [upd_ne nmp]; exact s1 _ _ hm
    have hD2 : (upd H1 p (.ins A.c_Alike dx (putF "there" (.ref D) []))) D = some (.lst (us.map V.ref)) := by rw [upd_ne npD]; exact hDl
    have hU2 : Rws (upd H1 p (.ins A.c_Alike dx (putF "there" (.ref D) []))) us S := Rws.upd hU npu
    have hp2 : (upd H1 p (.ins A.c_Alike dx (putF "there" (.ref D) []))) p = some (.ins A.c_Alike dx (putF "there" (.ref D) [])) := upd_same
    have npt : p ∉ ts' := fun z => by
      obtain ⟨j, hj⟩ := List.mem_iff_getElem?.mp z
      obtain ⟨t', r', e1, e2, e3⟩ := hR'.get (i := j) (v := .ref p) (by rw [List.getElem?_map, hj]; rfl)
      injection e1 with e1
      rw [← e1, hp] at e3
      cases e3
    have hR2 : Rws (upd H1 p (.ins A.c_Alike dx (putF "there" (.ref D) []))) ts' S' := Rws.upd (hR'.same s1) npt
    have kp2 : ∀ b o, H b = some o → b ≠ p → (upd H1 p (.ins A.c_Alike dx (putF "there" (.ref D) []))) b = some o := fun b o hb n => by rw [upd_ne n]; exact s1 _ _ hb
    have fr2 : ∀ b, (upd H1 p (.ins A.c_Alike dx (putF "there" (.ref D) []))) b = none → H b = none := fun b hb => by
      by_cases z : b = p
      · rw [z, hp2] at hb; cases hb
      · rw [upd_ne z] at hb; exact s1.free hb
    generalize upd H1 p (.ins A.c_Alike dx (putF "there" (.ref D) [])) = H2 at hm2 hD2 hU2 hp2 hR2 kp2 fr2 ⊢
    refine ⟨_, rfl, m, rfl, ⟨_, SqL.of hm2⟩, fun E' hE => comp_list (xs := ts'.map V.ref) (fun i ys H' => Same H2 H' ∧ i ≤ S'.length ∧ ∃ us : List Addr, ys = us.map V.ref ∧ Rws H' us (S'.take i) ∧ ∀ t ∈ us, t ≠ E' ∧ H2 t = none) ⟨Same.new hE, Nat.zero_le _, [], rfl, trivial, fun t ht => by simp at ht⟩ (fun i ys H' _ ⟨e, _⟩ => SqL.of (e _ _ hm2)) ?_ ?_⟩
    · rintro i x ys H' hx ⟨se, hi, us, rfl, hU, hn⟩ hDl
      obtain ⟨t, y, rfl, hy, ht⟩ := (hR2.same se).get hx
      have hi' : i < S'.length := (List.getElem?_eq_some_iff.mp hy).1
      refine yes_mk ?_
      refine ⟨_, rfl, t, nums y, rfl, .inl (SqL.of ht), fun e he => ?_⟩
      have s2 : Same H' (upd H' e (.lst (nums y))) := Same.new he
      have neD : e ≠ E' := fun z => by rw [z, hDl] at he; cases he
      refine CE1.mk (s2 _ _ hDl) (small1000 (by rw [List.length_map, hU.len, List.length_take]; omega)) ⟨Same.up (se.trans s2) hE, hi', us ++ [e], by rw [List.map_append]; rfl, ?_, fun t ht => ?_⟩
      · rw [List.take_add_one, hy]
        refine Rws.upd (Rws.snoc upd_same (hU.same s2)) fun z => ?_
        rcases List.mem_append.mp z with z | z
        · exact (hn _ z).1 rfl
        · exact neD (List.mem_singleton.mp z).symm
      · rcases List.mem_append.mp ht with z | z
        · exact hn t z
        · rw [List.mem_singleton.mp z]; exact ⟨neD, se.free he⟩
    rintro ys H3 ⟨s3, _, us', rfl, hU', hn'⟩ hEl
    rw [hln', List.take_length] at hU'
    have hp3 := s3 _ _ hp2
    have npE : E' ≠ p := fun z => by rw [z, hp2] at hE; cases hE
    refine ⟨_, rfl, p, A.c_Alike, dx, _, rfl, hp3, T.cl_Alike, T.na_Alike_back, by show 1 < 1000; decide, ?_⟩
    have npu' : p ∉ us' := fun z => by have := (hn' p z).2; rw [hp2] at this; cases this
    have a1 : ∀ t ∈ us, H t = none ∧ t ≠ D ∧ t ≠ E' := fun t ht => ⟨(hn t ht).2, (hn t ht).1, fun z => by obtain ⟨xs, w⟩ := hU2.there ht; rw [z, hE] at w; cases w⟩
    have a2 : ∀ t ∈ us', H t = none ∧ t ≠ D ∧ t ≠ E' := fun t ht => ⟨fr2 _ (hn' t ht).2, (fun z => by have w := (hn' t ht).2; rw [z, hD2] at w; cases w), (hn' t ht).1⟩
    refine k D E' us us' _ hD (fr2 _ hE) (ne_of_none hD2 hE) a1 a2 ⟨dx, upd_same⟩ (by rw [upd_ne npD]; exact s3 _ _ hD2) (Rws.upd (hU2.same s3) npu) (by rw [upd_ne npE]; exact hEl) (Rws.upd hU' npu') fun q o hq hqp => ?_
    rw [upd_ne hqp]
    exact s3 _ _ (kp2 q o hq hqp)
end
end K05

namespace K05
open PySem L2 TC
def sp_cell_at (K : PySem.W.Frag) : Sp := fun vs H Q _ => ∃ (a : Addr) (ns : List Int) (k : Nat), vs = [.ref a, .int (k : Nat)] ∧ SqL K H a (ns.map V.int) ∧ ∀ x : Int, Q (.int x) H
def sp_draw : Sp := fun vs H Q _ => ∃ (x : Int) (k : Nat) (m : Nat), vs = [.int x, .int (k : Nat), .int (m : Nat)] ∧ 0 < m ∧ m < 1000 ∧ ∀ r : Nat, r < m → Q (.int (r : Nat)) H
def sp_set : Sp := fun vs H Q _ => ∃ (x : Int) (c : Nat), vs = [.int x, .int (c : Nat)] ∧ c ≤ 6 ∧ ∀ s : Nat, s < 2 ^ c → Q (.int (s : Nat)) H
def sp_pairs : Sp := fun vs H Q _ => ∃ (x : Int) (c m : Nat), vs = [.int x, .int (c : Nat), .int (m : Nat)] ∧ c ≤ 6 ∧ m ≤ 64 ∧
  ∀ (l : Addr) (ps : List (Nat × Nat)) (H' : Hp), H l = none → Same H H' → PrsAt H' l ps → ps.length ≤ m → (∀ p ∈ ps, p.1 < 2 ^ c ∧ p.2 < 2 ^ c) → Q (.ref l) H'
section
variable {P : Program} {w : World} {K : PySem.W.Frag} {mg : Str → Option Value} {base : Heap} {A : Adr}
/-! ### the law's own defs -/
theorem ok_law_cell_at (T : Txt K mg A) : FnOk P w K mg base CX0 1 A.f_law_cell_at A.d_law_cell_at ["_law_script", "_law_k"] (sp_cell_at K) := by
  refine T.F_law_cell_at.ok sc_law_cell_at (fun vs H Q E h => ?_) (fun cdv A' outer s H vs Q E hr h => ?_)
  · obtain ⟨a, ns, n, rfl, _⟩ := h; rfl
  · obtain ⟨a, ns, n, rfl, hS, k⟩ := h
    refine ⟨_, (pss_cons (ps_if (pt_cmpR op_lt (pv 1) (pe_callB (call_lenK K) rfl T.z_len bt_len (pa_cons (pv 0) pa_nil)) (nomark _)) (pss_one (ps_ret (pe_ix (ix_listK K) (pv 0) (pv 1) (fun _ _ => rfl)))) pss_nil)
      (pss_one (ps_ret pe_int))), ?_⟩
    refine ⟨_, rfl, _, rfl, a, _, rfl, .inl hS, _, _, rfl, rfl, _, rfl, ?_⟩
    refine ite2 (fun e => ?_) (fun e => ?_)
    · have e' := of_decide_eq_true e
      rw [List.length_map] at e'
      have hi : n < ns.length := by omega
      have hg : (ns.map V.int)[n]? = some (.int ns[n]) := by rw [List.getElem?_map, List.getElem?_eq_getElem hi]; rfl
      exact ⟨_, rfl, _, rfl, a, _, (n : Int), _, rfl, rfl, hS, atI_nat hg, k _⟩
    · exact k 0
theorem ok_law_draw (T : Txt K mg A) : FnOk P w K mg base CX0 1 A.f_law_draw A.d_law_draw ["_law_cell", "_law_k", "_law_many"] sp_draw := by
  refine T.F_law_draw.ok sc_law_draw (fun vs H Q E h => ?_) (fun cdv A' outer s H vs Q E hr h => ?_)
  · obtain ⟨x, n, m, rfl, _⟩ := h; rfl
  · obtain ⟨x, n, m, rfl, hm, hm2, k⟩ := h
    refine ⟨_, (pss_cons (ps_set (i := 3) sc_law_draw.nd rfl (Or.inl rfl) (pe_op op_mod (pe_op op_add (pe_op op_add (pe_op op_mul (pe_op op_mod (pv 0) pe_int) pe_int) (pe_op op_mul (pv 1) pe_int)) pe_int) pe_int))
      (pss_one (ps_ret (pe_op op_mod (pe_op op_mod (pe_op op_fdiv (pe_op op_mul (pv 3) (pv 3)) pe_int) pe_int) (pv 2))))), ?_⟩
    refine ⟨_, rfl, x, 1000000007, rfl, rfl, (by show (0 : Int) < 1000000007; decide), _, 48271, rfl, rfl, .inr ⟨by decide, by decide⟩, _, rfl, _, 69621, rfl, rfl, .inr ⟨by decide, by decide⟩, _, _, rfl, rfl, _, 7, rfl, rfl, _, 1000000007, rfl, rfl, (by show (0 : Int) < 1000000007; decide), ?_⟩
    have y0 : 0 ≤ (x % 1000000007 * 48271 + (n : Int) * 69621 + 7) % 1000000007 := Int.emod_nonneg _ (by decide)
    have y1 : (x % 1000000007 * 48271 + (n : Int) * 69621 + 7) % 1000000007 < 1000000007 := Int.emod_lt_of_pos _ (by decide)
    refine ⟨_, rfl, _, rfl, _, _, rfl, rfl, .inl ⟨by omega, by omega⟩, _, 1013, rfl, rfl, ⟨by decide, by decide⟩, _, 1000003, rfl, rfl, (by show (0 : Int) < 1000003; decide), _, rfl, _, (m : Int), rfl, rfl, (by show (0 : Int) < (m : Int); omega), ?_⟩
    generalize (x % 1000000007 * 48271 + (n : Int) * 69621 + 7) % 1000000007 = y
    show Q (V.int (y * y / 1013 % 1000003 % (m : Int))) H
    have z0 : 0 ≤ y * y / 1013 % 1000003 % (m : Int) := Int.emod_nonneg _ (by omega)
    have z1 : y * y / 1013 % 1000003 % (m : Int) < m := Int.emod_lt_of_pos _ (by omega)
    obtain ⟨r, hr'⟩ := Int.eq_ofNat_of_zero_le z0
    rw [hr'] at z1 ⊢
    exact k r (by omega)
theorem ok_law_set (T : Txt K mg A) : FnOk P w K mg base CX0 3 A.f_law_set A.d_law_set ["_law_cell", "_law_columns"] sp_set := by
  have G_law_draw := ok_law_draw (P := P) (w := w) (base := base) T
  refine T.F_law_set.ok sc_law_set (fun vs H Q E h => ?_) (fun cdv A' outer s H vs Q E hr h => ?_)
  · obtain ⟨x, c, rfl, _⟩ := h; rfl
  · obtain ⟨x, c, rfl, hc, k⟩ := h
    refine ⟨_, (pss_cons (ps_set (i := 2) sc_law_set.nd rfl (Or.inl rfl) pe_int)
      (pss_cons (ps_for PassesOwn.never rfl (pi_range1 rfl T.z_range (pa_cons (pv 1) pa_nil)) (pg_name (i := 3) sc_law_set.nd rfl (Or.inl rfl))
      (pss_one (ps_if (pt_cmpR op_eq (pe_call G_law_draw (hr.mono (by decide)) rfl T.m_law_draw T.F_law_draw.kp T.b_law_draw .nil pass0 (pa_cons (pe_op op_add (pv 0) (pe_op op_mul pe_int (pv 3))) (pa_cons pe_int (pa_cons pe_int pa_nil)))) pe_int (nomark _)) (pss_one (ps_set (i := 2) sc_law_set.nd rfl (Or.inl rfl) (pe_op op_or (pv 2) (pe_op op_shl pe_int (pv 3))))) pss_nil)))
      (pss_one (ps_ret (pv 2))))), ?_⟩
    refine ⟨_, rfl, _, rfl, by omega, by omega, for_range (lo := 0) (n := ((c : Nat) : Int).toNat) (fun i σ' H' => H' = H ∧ ∃ (s : Nat) (cv : Option V), σ' = [some (.int x), some (.int (c : Nat)), some (.int (s : Nat)), cv] ∧ s < 2 ^ c) ⟨rfl, 0, none, rfl, Nat.two_pow_pos c⟩ ?_ ?_⟩
    · rintro i σ' H' hi ⟨rfl, s, cv, rfl, hs⟩
      rw [Int.toNat_natCast] at hi
      rw [Int.zero_add]
      refine ⟨_, rfl, _, rfl, 31, (i : Int), rfl, rfl, .inl ⟨by decide, by decide⟩, _, _, rfl, rfl, _, 2, 3, rfl, by decide, by decide, fun r hr' => ⟨rfl, _, rfl, ?_⟩⟩
      refine ite2 (fun e => ?_) (fun e => ?_)
      · refine ⟨_, rfl, _, rfl, 1, (i : Int), rfl, rfl, ⟨Int.natCast_nonneg i, by omega, by decide⟩, (s : Int), _, rfl, rfl, ?_⟩
        refine ⟨rfl, s ||| 2 ^ i, some (.int (i : Nat)), ?_, Nat.or_lt_two_pow hs (Nat.pow_lt_pow_right (by decide) hi)⟩
        rw [← or_nat, ← shl_nat]; rfl
      · exact ⟨rfl, s, _, rfl, hs⟩
    · rintro σ' H' ⟨rfl, s, cv, rfl, hs⟩
      exact ⟨_, rfl, k s hs⟩
theorem ok_law_pairs (T : Txt K mg A) : FnOk P w K mg base CX0 5 A.f_law_pairs A.d_law_pairs ["_law_cell", "_law_columns", "_law_most"] sp_pairs := by
  have G_law_draw := ok_law_draw (P := P) (w := w) (base := base) T
  have G_law_set := ok_law_set (P := P) (w := w) (base := base) T
  refine T.F_law_pairs.ok sc_law_pairs (fun vs H Q E h => ?_) (fun cdv A' outer s H vs Q E hr h => ?_)
  · obtain ⟨x, c, m, rfl, _⟩ := h; rfl
  · obtain ⟨x, c, m, rfl, hc, hm, k⟩ := h
    refine ⟨_, (pss_cons (ps_set (i := 3) sc_law_pairs.nd rfl (Or.inl rfl) (pe_lst pa_nil))
      (pss_cons (ps_for PassesOwn.never rfl (pi_range1 rfl T.z_range (pa_cons (pe_call G_law_draw (hr.mono (by decide)) rfl T.m_law_draw T.F_law_draw.kp T.b_law_draw .nil pass0 (pa_cons (pv 0) (pa_cons pe_int (pa_cons (pe_op op_add (pv 2) pe_int) pa_nil)))) pa_nil)) (pg_name (i := 4) sc_law_pairs.nd rfl (Or.inl rfl))
      (pss_cons (ps_set (i := 5) sc_law_pairs.nd rfl (Or.inl rfl) (pe_call G_law_set (hr.mono (by decide)) rfl T.m_law_set T.F_law_set.kp T.b_law_set .nil pass0 (pa_cons (pe_op op_add (pe_op op_fdiv (pv 0) (pe_op op_add (pv 4) pe_int)) (pe_op op_mul pe_int (pv 4))) (pa_cons (pv 1) pa_nil))))
      (pss_cons (ps_set (i := 6) sc_law_pairs.nd rfl (Or.inl rfl) (pe_call G_law_set (hr.mono (by decide)) rfl T.m_law_set T.F_law_set.kp T.b_law_set .nil pass0 (pa_cons (pe_op op_add (pe_op op_add (pe_op op_fdiv (pv 0) (pe_op op_add (pv 4) pe_int)) (pe_op op_mul pe_int (pv 4))) pe_int) (pa_cons (pv 1) pa_nil))))
      (pss_cons (ps_if (PW.pt (pw_and (pt_cmpR op_eq (pe_call G_law_draw (hr.mono (by decide)) rfl T.m_law_draw T.F_law_draw.kp T.b_law_draw .nil pass0 (pa_cons (pe_op op_add (pv 0) (pv 4)) (pa_cons pe_int (pa_cons pe_int pa_nil)))) pe_int (nomark _)) (pw_and1 (pt_cmpR op_gt (pv 4) pe_int (nomark _))))) (pss_one (ps_set (i := 5) sc_law_pairs.nd rfl (Or.inl rfl) (pe_ix (ix_tupK K) (pe_ix (ix_listK K) (pv 3) (pe_un un_neg pe_int) (fun _ _ => rfl)) pe_int (fun _ _ => rfl)))) pss_nil)
      (pss_one (ps_expr (pe_appendK K (pv 3) (pa_cons (pe_tup (pa_cons (pv 5) (pa_cons (pv 6) pa_nil))) pa_nil))))))))
      (pss_one (ps_ret (pv 3))))), ?_⟩
    refine ⟨Nat.zero_le _, fun l hl => ?_⟩
    refine ⟨_, rfl, _, rfl, (m : Int), 1, rfl, rfl, x, 1, m + 1, rfl, by omega, by omega, fun n hn => ⟨(n : Int), rfl, by omega, by omega, ?_⟩⟩
    refine for_range (lo := 0) (n := ((n : Nat) : Int).toNat) (fun i σ' H' => ∃ (ps : List (Nat × Nat)) (kv lv rv : Option V), σ' = [some (.int x), some (.int (c : Nat)), some (.int (m : Nat)), some (.ref l), kv, lv, rv] ∧ Same H H' ∧ PrsAt H' l ps ∧ ps.length = i ∧ ∀ p ∈ ps, p.1 < 2 ^ c ∧ p.2 < 2 ^ c)
      ⟨[], none, none, none, rfl, Same.new hl, ⟨[], upd_same, trivial⟩, rfl, fun _ z => nomatch z⟩ ?_ ?_
    · rintro i σ' H' hi ⟨ps, kv, lv, rv, rfl, se, hP, hpl, hps⟩
      rw [Int.toNat_natCast] at hi
      rw [Int.zero_add]
      obtain ⟨ts, hL, htp⟩ := id hP
      have hlen := htp.len
      refine ⟨_, rfl, _, rfl, (i : Int), 3, rfl, rfl, x, _, rfl, rfl, ⟨by omega, by omega⟩, _, rfl, 977, (i : Int), rfl, rfl, .inl ⟨by decide, by decide⟩, _, _, rfl, rfl, _, rfl, _, c, rfl, hc, fun lf hlf => ?_⟩
      refine ⟨_, rfl, _, rfl, (i : Int), 7, rfl, rfl, x, _, rfl, rfl, ⟨by omega, by omega⟩, _, rfl, 977, (i : Int), rfl, rfl, .inl ⟨by decide, by decide⟩, _, _, rfl, rfl, _, 5, rfl, rfl, _, rfl, _, c, rfl, hc, fun rg hrg => ?_⟩
      -- the pair is put behind
      have tl : ∀ lf' : Nat, lf' < 2 ^ c → ∀ q, H' q = none → ∃ (ps' : List (Nat × Nat)), Same H (upd (upd H' q (.tup [.int (lf' : Nat), .int (rg : Nat)])) l (.lst (ts.map V.ref ++ [.ref q]))) ∧ PrsAt (upd (upd H' q (.tup [.int (lf' : Nat), .int (rg : Nat)])) l (.lst (ts.map V.ref ++ [.ref q]))) l ps' ∧ ps'.length = i + 1 ∧ ∀ p ∈ ps', p.1 < 2 ^ c ∧ p.2 < 2 ^ c := by
        intro lf' h1 q hq
        have nlq : l ≠ q := ne_of_none hL hq
        have hL2 : (upd H' q (.tup [.int (lf' : Nat), .int (rg : Nat)])) l = some (.lst (ts.map V.ref)) := by rw [upd_ne nlq]; exact hL
        refine ⟨ps ++ [(lf', rg)], Same.up (Same.up se (se.free hq)) hl, ⟨ts ++ [q], by rw [upd_same, List.map_append]; rfl, ?_⟩, by rw [List.length_append, hpl]; rfl, fun p hp => ?_⟩
        · exact Tps.snoc (by rw [upd_ne nlq.symm, upd_same]) ((htp.same (Same.new hq)).upd hL2)
        · rcases List.mem_append.mp hp with z | z
          · exact hps p z
          · have z' : p = (lf', rg) := by simpa using z
            subst z'
            exact ⟨h1, hrg⟩
      have hsz : (ts.map V.ref).length < sizeLine := small1000 (by rw [List.length_map]; omega)
      refine ⟨_, rfl, _, rfl, x, (i : Int), rfl, rfl, _, 4, 3, rfl, by decide, by decide, fun r hr' => ⟨rfl, _, rfl, ?_⟩⟩
      refine ite2 (fun e => ?_) (fun e => ?_)
      · refine ⟨_, rfl, (i : Int), 0, rfl, rfl, _, rfl, ?_⟩
        refine ite2 (fun e2 => ?_) (fun e2 => ?_)
        · have hi0 : 0 < i := by have := of_decide_eq_true e2; omega
          -- _law_left = _law_pairs_here[-1][1]
          obtain ⟨j, rfl⟩ : ∃ j, i = j + 1 := ⟨i - 1, by omega⟩
          have hjl : j < ps.length := by omega
          have hjt : j < ts.length := by omega
          have hgt : (ts.map V.ref)[j]? = some (.ref ts[j]) := by rw [List.getElem?_map, List.getElem?_eq_getElem hjt]; rfl
          obtain ⟨t, p, et, hp, ht⟩ := htp.get hgt
          injection et with et
          subst et
          have hat : atI (ts.map V.ref) (-1) = some (.ref ts[j]) := by
            have hll : (ts.map V.ref).length = j + 1 := by rw [List.length_map]; omega
            unfold atI ixN
            rw [hll, if_neg (by decide), if_pos (by omega)]
            show (ts.map V.ref)[((-1 : Int) + ((j + 1 : Nat) : Int)).toNat]? = _
            rw [show ((-1 : Int) + ((j + 1 : Nat) : Int)).toNat = j by omega]
            exact hgt
          refine ⟨_, rfl, 1, rfl, l, _, -1, _, rfl, rfl, SqL.of hL, hat, ts[j], _, 1, _, rfl, rfl, SqT.of ht, rfl, ?_⟩
          refine ⟨_, rfl, .inl ⟨rfl, _, SqL.of hL⟩, _, rfl, _, rfl, by show 2 ≤ sizeLine; decide, fun q hq => ⟨l, ts.map V.ref, .ref q, rfl, rfl, by rw [upd_ne (ne_of_none hL hq)]; exact hL, hsz, ?_⟩⟩
          obtain ⟨ps', a1, a2, a3, a4⟩ := tl p.2 (hps p (List.mem_of_getElem? hp)).2 q hq
          exact ⟨ps', _, _, _, rfl, a1, a2, a3, a4⟩
        · refine ⟨_, rfl, .inl ⟨rfl, _, SqL.of hL⟩, _, rfl, _, rfl, by show 2 ≤ sizeLine; decide, fun q hq => ⟨l, ts.map V.ref, .ref q, rfl, rfl, by rw [upd_ne (ne_of_none hL hq)]; exact hL, hsz, ?_⟩⟩
          obtain ⟨ps', a1, a2, a3, a4⟩ := tl lf hlf q hq
          exact ⟨ps', _, _, _, rfl, a1, a2, a3, a4⟩
      · refine iteF ?_
        refine ⟨_, rfl, .inl ⟨rfl, _, SqL.of hL⟩, _, rfl, _, rfl, by show 2 ≤ sizeLine; decide, fun q hq => ⟨l, ts.map V.ref, .ref q, rfl, rfl, by rw [upd_ne (ne_of_none hL hq)]; exact hL, hsz, ?_⟩⟩
        obtain ⟨ps', a1, a2, a3, a4⟩ := tl lf hlf q hq
        exact ⟨ps', _, _, _, rfl, a1, a2, a3, a4⟩
    · rintro σ' H' ⟨ps, kv, lv, rv, rfl, se, hP, hpl, hps⟩
      rw [Int.toNat_natCast] at hpl
      exact ⟨_, rfl, k l ps H' hl se hP (by omega) hps⟩
end
theorem shr64 : ∀ s, s < 64 → ∀ i, i < 6 → decide (((s / 2 ^ i) &&& 1) = 1) = s.testBit i := by decide +kernel
theorem shr_bit {s i : Nat} (hs : s < 64) (hi : i < 6) : decide (V.int (Builtin.bitAnd ((s : Int) / 2 ^ ((i : Int)).toNat) 1) = V.int 1) = s.testBit i := by
  have e : (s : Int) / 2 ^ ((i : Int)).toNat = ((s / 2 ^ i : Nat) : Int) := by rw [Int.toNat_natCast]; norm_cast
  rw [e, show Builtin.bitAnd ((s / 2 ^ i : Nat) : Int) 1 = ((s / 2 ^ i &&& 1 : Nat) : Int) from and_nat _ 1, ← shr64 s hs i hi]
  generalize s / 2 ^ i &&& 1 = z
  by_cases h : z = 1
  · subst h; rfl
  · rw [decide_eq_false h]
    refine decide_eq_false fun q => h ?_
    injection q with q
    omega
theorem cells_iff {x y : List Nat} (s : Nat) (h : x.length = y.length) : cellsN x s = cellsN y s ↔ ∀ j, j < x.length → s.testBit j = true → x.getD j 0 = y.getD j 0 := by
  unfold cellsN cellsI
  rw [← h, List.map_inj_left]
  constructor
  · intro z j h1 h2
    exact z j (List.mem_filter.mpr ⟨List.mem_range.mpr h1, h2⟩)
  · intro z j hj
    obtain ⟨h1, h2⟩ := List.mem_filter.mp hj
    exact z j (List.mem_range.mp h1) h2
def sp_like : Sp := fun vs H Q _ => ∃ (a b : Addr) (x y : List Nat) (s : Nat), vs = [.ref a, .ref b, .int (s : Nat)] ∧ H a = some (.lst (nums x)) ∧ H b = some (.lst (nums y)) ∧ x.length = y.length ∧ x.length ≤ 6 ∧ s < 64 ∧ Q (.bl (decide (cellsN x s = cellsN y s))) H
section
variable {P : Program} {w : World} {K : PySem.W.Frag} {mg : Str → Option Value} {base : Heap} {A : Adr}
theorem ok_law_like (T : Txt K mg A) : FnOk P w K mg base CX0 1 A.f_law_like A.d_law_like ["_law_one", "_law_other_here", "_law_some"] sp_like := by
  refine T.F_law_like.ok sc_law_like (fun vs H Q E h => ?_) (fun cdv A' outer s H vs Q E hr h => ?_)
  · obtain ⟨a, b, x, y, s, rfl, _⟩ := h; rfl
  · obtain ⟨a, b, x, y, s, rfl, ha, hb, hxy, hx6, hs, k⟩ := h
    refine ⟨_, (pss_cons (ps_for PassesOwn.never rfl (pi_range1 rfl T.z_range (pa_cons (pe_callB (call_lenK K) rfl T.z_len bt_len (pa_cons (pv 0) pa_nil)) pa_nil)) (pg_name (i := 3) sc_law_like.nd rfl (Or.inl rfl))
      (pss_one (ps_if (PW.pt (pw_and (pt_cmpR op_eq (pe_op op_and (pe_op op_shr (pv 2) (pv 3)) pe_int) pe_int (nomark _)) (pw_and1 (pt_cmpR op_ne (pe_ix (ix_listK K) (pv 0) (pv 3) (fun _ _ => rfl)) (pe_ix (ix_listK K) (pv 1) (pv 3) (fun _ _ => rfl)) (nomark _))))) (pss_one (ps_ret pe_bl)) pss_nil)))
      (pss_one (ps_ret pe_bl))), ?_⟩
    refine ⟨_, rfl, a, _, rfl, .inl (SqL.of ha), _, rfl, by rw [nums_len]; omega, by rw [nums_len]; omega, ?_⟩
    rw [nums_len, Int.toNat_natCast]
    refine for_range (lo := 0) (n := x.length) (fun i σ' H' => H' = H ∧ (∀ j, j < i → s.testBit j = true → x.getD j 0 = y.getD j 0) ∧ ∃ cv, σ' = [some (.ref a), some (.ref b), some (.int (s : Nat)), cv]) ⟨rfl, fun j hj => absurd hj (Nat.not_lt_zero _), none, rfl⟩ ?_ ?_
    · rintro i σ' H' hi ⟨rfl, i1, cv, rfl⟩
      rw [Int.zero_add]
      have h1 : (nums x)[i]? = some (.int (x.getD i 0 : Nat)) := by unfold nums; rw [List.getElem?_map, getD_at hi]; rfl
      have h2 : (nums y)[i]? = some (.int (y.getD i 0 : Nat)) := by unfold nums; rw [List.getElem?_map, getD_at (by omega)]; rfl
      refine ⟨_, rfl, _, rfl, (s : Int), (i : Int), rfl, rfl, Int.natCast_nonneg i, _, 1, rfl, rfl, rfl, _, rfl, ?_⟩
      rw [shr_bit hs (by omega)]
      have i2 : ∀ j, j < i + 1 → (j = i → s.testBit j = true → x.getD j 0 = y.getD j 0) → s.testBit j = true → x.getD j 0 = y.getD j 0 := fun j hj z ht => by
        rcases Nat.lt_or_ge j i with q | q
        · exact i1 j q ht
        · exact z (by omega) ht
      refine ite2 (fun e => ?_) (fun e => ?_)
      · refine ⟨_, rfl, _, rfl, a, _, (i : Int), _, rfl, rfl, SqL.of ha, atI_nat h1, _, rfl, _, rfl, b, _, (i : Int), _, rfl, rfl, SqL.of hb, atI_nat h2, rfl, _, rfl, ?_⟩
        refine ite2 (fun e2 => ?_) (fun e2 => ?_)
        · have hne : ¬ x.getD i 0 = y.getD i 0 := fun z => by rw [z] at e2; simp at e2
          have hk : decide (cellsN x s = cellsN y s) = false := decide_eq_false fun z => hne ((cells_iff s hxy).mp z i hi e)
          rw [hk] at k
          exact k
        · have heq : x.getD i 0 = y.getD i 0 := by
            have z : V.int ((x.getD i 0 : Nat) : Int) = V.int ((y.getD i 0 : Nat) : Int) := by simpa using e2
            injection z with z
            omega
          exact ⟨rfl, fun j hj ht => i2 j hj (fun q _ => by rw [q]; exact heq) ht, _, rfl⟩
      · exact ⟨rfl, fun j hj ht => i2 j hj (fun q ht => absurd (q ▸ ht) e) ht, _, rfl⟩
    · rintro σ' H' ⟨rfl, i1, cv, rfl⟩
      have hk : decide (cellsN x s = cellsN y s) = true := decide_eq_true ((cells_iff s hxy).mpr i1)
      rw [hk] at k
      exact k
end
def sp_lkeeps : Sp := fun vs H Q _ => ∃ (l t : Addr) (c : Nat) (rs : List (List Nat)) (p : Nat × Nat), vs = [.ref l, .ref t] ∧ TblAt H l rs ∧ c ≤ 6 ∧ (∀ r ∈ rs, r.length = c) ∧ H t = some (.tup [.int (p.1 : Nat), .int (p.2 : Nat)]) ∧ p.1 < 64 ∧ p.2 < 64 ∧ Q (.bl (decide (Keeps rs p))) H
section
variable {P : Program} {w : World} {K : PySem.W.Frag} {mg : Str → Option Value} {base : Heap} {A : Adr}
theorem ok_law_keeps (T : Txt K mg A) : FnOk P w K mg base CX0 3 A.f_law_keeps A.d_law_keeps ["_law_table", "_law_rule"] sp_lkeeps := by
  have G_law_like := ok_law_like (P := P) (w := w) (base := base) T
  refine T.F_law_keeps.ok sc_law_keeps (fun vs H Q E h => ?_) (fun cdv A' outer s H vs Q E hr h => ?_)
  · obtain ⟨l, t, c, rs, p, rfl, _⟩ := h; rfl
  · obtain ⟨l, t, c, rs, p, rfl, ⟨ts, hl, htp⟩, hc6, hrl, ht, hp1, hp2, k⟩ := h
    refine ⟨_, (pss_cons (ps_for PassesOwn.never rfl (pi_listK K (pv 0)) (pg_name (i := 2) sc_law_keeps.nd rfl (Or.inl rfl))
      (pss_one (ps_for PassesOwn.never rfl (pi_listK K (pv 0)) (pg_name (i := 3) sc_law_keeps.nd rfl (Or.inl rfl))
      (pss_one (ps_if (PW.pt (pw_and (pt_val (pe_call G_law_like (hr.mono (by decide)) rfl T.m_law_like T.F_law_like.kp T.b_law_like .nil pass0 (pa_cons (pv 2) (pa_cons (pv 3) (pa_cons (pe_ix (ix_tupK K) (pv 1) pe_int (fun _ _ => rfl)) pa_nil))))) (pw_and1 (pt_not (pt_val (pe_call G_law_like (hr.mono (by decide)) rfl T.m_law_like T.F_law_like.kp T.b_law_like .nil pass0 (pa_cons (pv 2) (pa_cons (pv 3) (pa_cons (pe_ix (ix_tupK K) (pv 1) pe_int (fun _ _ => rfl)) pa_nil))))))))) (pss_one (ps_ret pe_bl)) pss_nil)))))
      (pss_one (ps_ret pe_bl))), ?_⟩
    have hln : (ts.map V.ref).length = rs.length := by rw [List.length_map]; exact htp.len
    refine ⟨_, rfl, l, rfl, ⟨_, SqL.of hl⟩, for_list (K := K) (a := l) (xs := ts.map V.ref) (fun i σ' H' => H' = H ∧ (∀ a ∈ rs.take i, ∀ b ∈ rs, cellsN a p.1 = cellsN b p.1 → cellsN a p.2 = cellsN b p.2) ∧ ∃ ov uv, σ' = [some (.ref l), some (.ref t), ov, uv])
      ⟨rfl, fun a ha => by simp at ha, none, none, rfl⟩ (fun i σ' H' _ ⟨e, _⟩ => by subst e; exact SqL.of hl) ?_ ?_⟩
    · rintro i x σ' H' hx ⟨rfl, i1, ov, uv, rfl⟩
      obtain ⟨ta, a, rfl, hai, harow⟩ := htp.get hx
      have ham : a ∈ rs := List.mem_of_getElem? hai
      refine ⟨_, rfl, l, rfl, ⟨_, SqL.of hl⟩, for_list (K := K) (a := l) (xs := ts.map V.ref) (fun j σ' H'' => H'' = H' ∧ (∀ b ∈ rs.take j, cellsN a p.1 = cellsN b p.1 → cellsN a p.2 = cellsN b p.2) ∧ ∃ uv, σ' = [some (.ref l), some (.ref t), some (.ref ta), uv])
        ⟨rfl, fun b hb => by simp at hb, _, rfl⟩ (fun i σ' H'' _ ⟨e, _⟩ => by subst e; exact SqL.of hl) ?_ ?_⟩
      · rintro j x σ' H'' hx2 ⟨rfl, j1, uv', rfl⟩
        obtain ⟨tb, b, rfl, hbi, hbrow⟩ := htp.get hx2
        have hbm : b ∈ rs := List.mem_of_getElem? hbi
        have hlen : a.length = b.length := by rw [hrl a ham, hrl b hbm]
        have ha6 : a.length ≤ 6 := by rw [hrl a ham]; exact hc6
        refine ⟨_, rfl, _, rfl, _, rfl, t, _, 0, _, rfl, rfl, SqT.of ht, rfl, ta, tb, a, b, p.1, rfl, harow, hbrow, hlen, ha6, hp1, _, rfl, ?_⟩
        refine ite2 (fun e => ?_) (fun e => ?_)
        · refine ⟨_, rfl, _, rfl, _, rfl, t, _, 1, _, rfl, rfl, SqT.of ht, rfl, ta, tb, a, b, p.2, rfl, harow, hbrow, hlen, ha6, hp2, _, rfl, ?_⟩
          refine ite2 (fun e2 => ?_) (fun e2 => ?_)
          · have hk : decide (Keeps rs p) = false := decide_eq_false fun z => by
              have := z a ham b hbm (of_decide_eq_true e)
              rw [decide_eq_true this] at e2
              cases e2
            rw [hk] at k
            exact k
          · refine ⟨rfl, fun b' hb' => ?_, _, rfl⟩
            rcases (take_mem hbi).mp hb' with z | rfl
            · exact j1 b' z
            · intro _
              have : decide (cellsN a p.2 = cellsN b' p.2) = true := by simpa using e2
              exact of_decide_eq_true this
        · refine ⟨rfl, fun b' hb' => ?_, _, rfl⟩
          rcases (take_mem hbi).mp hb' with z | rfl
          · exact j1 b' z
          · intro z
            exact absurd (decide_eq_true z) e
      · rintro σ' H'' ⟨rfl, j1, uv', rfl⟩
        rw [hln, List.take_length] at j1
        refine ⟨rfl, fun a' ha' => ?_, _, _, rfl⟩
        rcases (take_mem hai).mp ha' with z | rfl
        · exact i1 a' z
        · exact j1
    · rintro σ' H' ⟨rfl, i1, ov, uv, rfl⟩
      rw [hln, List.take_length] at i1
      have hk : decide (Keeps rs p) = true := decide_eq_true i1
      rw [hk] at k
      exact k
end
theorem keeps2 {r1 r2 : List Nat} {p : Nat × Nat} : Keeps [r1, r2] p ↔ (cellsN r1 p.1 = cellsN r2 p.1 → cellsN r1 p.2 = cellsN r2 p.2) := by
  constructor
  · intro h
    exact h r1 (by simp) r2 (by simp)
  · intro h a ha b hb e
    have ha' : a = r1 ∨ a = r2 := by simpa using ha
    have hb' : b = r1 ∨ b = r2 := by simpa using hb
    rcases ha' with rfl | rfl <;> rcases hb' with rfl | rfl
    · rfl
    · exact h e
    · exact (h e.symm).symm
    · rfl
def lrB (c : Nat) (ps : List (Nat × Nat)) (a b : Nat) (r1 r2 : List Nat) : Bool := rowB c r1 && (rowB c r2 && ((ps.all fun p => decide (Keeps [r1, r2] p)) && (decide (cellsN r1 a = cellsN r2 a) && !decide (cellsN r1 b = cellsN r2 b))))
theorem brk_lr (c : Nat) (ps : List (Nat × Nat)) (a b : Nat) (r1 r2 : List Nat) : brkB c [r1, r2] ps (a, b) = lrB c ps a b r1 r2 := by
  unfold brkB lrB tabB
  have e : (!decide (Keeps [r1, r2] (a, b))) = (decide (cellsN r1 a = cellsN r2 a) && !decide (cellsN r1 b = cellsN r2 b)) := by
    by_cases h1 : cellsN r1 a = cellsN r2 a
    · by_cases h2 : cellsN r1 b = cellsN r2 b
      · rw [decide_eq_true h1, decide_eq_true h2, decide_eq_true (keeps2.mpr fun _ => h2)]; rfl
      · rw [decide_eq_true h1, decide_eq_false h2, decide_eq_false fun z => h2 (keeps2.mp z h1)]; rfl
    · rw [decide_eq_false h1, decide_eq_true (keeps2.mpr fun z => absurd z h1)]; rfl
  rw [e]
  simp [Bool.and_assoc]
theorem row_like {c k s : Nat} (hs : s < 2 ^ c) : cellsN (rowOf c k 0) s = cellsN (rowOf c k 1) s ↔ Sb s k := by
  rw [cells_iff s (by rw [rowOf_len, rowOf_len]), rowOf_len, Sb.iff_bit]
  constructor
  · intro h i hi
    have hic := bit_lt hs hi
    have := h i hic hi
    rw [rowOf_at hic, rowOf_at hic] at this
    cases e : k.testBit i with
    | true => rfl
    | false => rw [e] at this; simp at this
  · intro h j hj hb
    rw [rowOf_at hj, rowOf_at hj, if_pos (h j hb), if_pos (h j hb)]
theorem rowOf_row {c k n : Nat} (hn : n ≤ 99) : rowB c (rowOf c k n) = true := by
  unfold rowB
  rw [decide_eq_true (rowOf_len c k n), Bool.true_and]
  refine List.all_eq_true.mpr fun x hx => ?_
  unfold rowOf at hx
  obtain ⟨j, _, rfl⟩ := List.mem_map.mp hx
  by_cases h : k.testBit j = true
  · simp [h]
  · simp [h, hn]
theorem rows_show {c a b : Nat} {ps : List (Nat × Nat)} (hps : ∀ p ∈ ps, p.1 < 2 ^ c ∧ p.2 < 2 ^ c) (ha : a < 2 ^ c) (hb : b < 2 ^ c) (hn : ¬ Sb b (cl ps a)) : lrB c ps a b (rowOf c (cl ps a) 0) (rowOf c (cl ps a) 1) = true := by
  unfold lrB
  rw [rowOf_row (by decide), rowOf_row (by decide), Bool.true_and, Bool.true_and, decide_eq_true ((row_like ha).mpr (cl_sub ps a)), decide_eq_false fun z => hn ((row_like hb).mp z)]
  show ((ps.all fun p => decide (Keeps [rowOf c (cl ps a) 0, rowOf c (cl ps a) 1] p)) && true) = true
  rw [Bool.and_true]
  refine List.all_eq_true.mpr fun p hp => decide_eq_true (keeps2.mpr fun z => ?_)
  exact (row_like (hps p hp).2).mpr (cl_cld ps a p hp ((row_like (hps p hp).1).mp z))
/-- an answer to whether a rule follows from ps: steps, or two rows -/
def AnsAt (CS CW : Addr) (c : Nat) (ps : List (Nat × Nat)) (H : Hp) (x : Addr) (p : Nat × Nat) : Prop :=
  (∃ (d : Addr) (pl : List Nat), StepsAt CS H x d pl ∧ leadB ps pl p.1 p.2 = true ∧ pl.length ≤ 64) ∨ (∃ (d1 d2 : Addr), RowsAt CW H x d1 d2 (rowOf c (cl ps p.1) 0) (rowOf c (cl ps p.1) 1) ∧ ¬ Sb p.2 (cl ps p.1))
theorem AnsAt.same {CS CW : Addr} {c : Nat} {ps : List (Nat × Nat)} {H H' : Hp} {x : Addr} {p : Nat × Nat} (e : Same H H') : AnsAt CS CW c ps H x p → AnsAt CS CW c ps H' x p
  | .inl ⟨d, pl, h, r⟩ => .inl ⟨d, pl, h.same e, r⟩
  | .inr ⟨d1, d2, h, r⟩ => .inr ⟨d1, d2, h.same e, r⟩
/-- answers stand at xs, one for each rule of qs -/
def Anss (CS CW : Addr) (c : Nat) (ps : List (Nat × Nat)) (H : Hp) : List Addr → List (Nat × Nat) → Prop
  | [], [] => True
  | x :: xs, q :: qs => AnsAt CS CW c ps H x q ∧ Anss CS CW c ps H xs qs
  | _, _ => False
theorem Anss.same {CS CW : Addr} {c : Nat} {ps : List (Nat × Nat)} {H H' : Hp} (e : Same H H') : ∀ {xs : List Addr} {qs : List (Nat × Nat)}, Anss CS CW c ps H xs qs → Anss CS CW c ps H' xs qs
  | [], [], _ => trivial
  | _ :: _, _ :: _, ⟨h, t⟩ => ⟨h.same e, Anss.same e t⟩
  | [], _ :: _, h => h.elim
  | _ :: _, [], h => h.elim
theorem Anss.len {CS CW : Addr} {c : Nat} {ps : List (Nat × Nat)} {H : Hp} : ∀ {xs : List Addr} {qs : List (Nat × Nat)}, Anss CS CW c ps H xs qs → xs.length = qs.length
  | [], [], _ => rfl
  | _ :: _, _ :: _, ⟨_, t⟩ => congrArg (· + 1) (Anss.len t)
  | [], _ :: _, h => h.elim
  | _ :: _, [], h => h.elim
theorem Anss.snoc {CS CW : Addr} {c : Nat} {ps : List (Nat × Nat)} {H : Hp} {x : Addr} {q : Nat × Nat} (e : AnsAt CS CW c ps H x q) : ∀ {xs : List Addr} {qs : List (Nat × Nat)}, Anss CS CW c ps H xs qs → Anss CS CW c ps H (xs ++ [x]) (qs ++ [q])
  | [], [], _ => ⟨e, trivial⟩
  | _ :: _, _ :: _, ⟨h, t⟩ => ⟨h, Anss.snoc e t⟩
  | [], _ :: _, h => h.elim
  | _ :: _, [], h => h.elim
theorem Anss.get {CS CW : Addr} {c : Nat} {ps : List (Nat × Nat)} {H : Hp} : ∀ {xs : List Addr} {qs : List (Nat × Nat)} {i : Nat} {v : V}, Anss CS CW c ps H xs qs → (xs.map V.ref)[i]? = some v → ∃ x q, v = .ref x ∧ qs[i]? = some q ∧ AnsAt CS CW c ps H x q
  | [], [], i, v, _, h => by simp at h
  | t :: _, p :: _, 0, v, ⟨h, _⟩, e => ⟨t, p, by simpa using e.symm, by simp, h⟩
  | _ :: _, _ :: _, i + 1, v, ⟨_, t⟩, e => by
    obtain ⟨a, b, h1, h2, h3⟩ := Anss.get (i := i) t (by simpa using e)
    exact ⟨a, b, h1, by simpa using h2, h3⟩
  | [], _ :: _, _, _, h, _ => h.elim
  | _ :: _, [], _, _, h, _ => h.elim
/-- each answer is of steps -/
def StpAll (CS : Addr) (ps : List (Nat × Nat)) (H : Hp) (xs : List Addr) (qs : List (Nat × Nat)) (n : Nat) : Prop := ∀ j, j < n → ∀ x q, xs[j]? = some x → qs[j]? = some q → ∃ (d : Addr) (pl : List Nat), StepsAt CS H x d pl ∧ leadB ps pl q.1 q.2 = true ∧ pl.length ≤ 64
theorem StpAll.same {CS : Addr} {ps : List (Nat × Nat)} {H H' : Hp} {xs : List Addr} {qs : List (Nat × Nat)} {n : Nat} (e : Same H H') (h : StpAll CS ps H xs qs n) : StpAll CS ps H' xs qs n := fun j hj x q h1 h2 => by
  obtain ⟨d, pl, a, b⟩ := h j hj x q h1 h2
  exact ⟨d, pl, a.same e, b⟩
def sp_alike (CA CP CR : Addr) : Sp := fun vs H Q _ => ∃ (p m p' m' : Addr) (c : Nat) (ps qs : List (Nat × Nat)), vs = [.ref p, .ref p'] ∧ RulesAt CR H p m c ps ∧ Good c ps ∧ RulesAt CR H p' m' c qs ∧ Good c qs ∧
  (∀ (x a b : Addr) (us us' : List Addr) (S S' : List (List Nat)) (H' : Hp), H x = none → H a = none → H b = none → b ≠ a → a ∉ us → a ∉ us' → Same H H' → (∃ dx, H' x = some (.ins CA dx (fldK a b))) → H' a = some (.lst (us.map V.ref)) → Rws H' us S → H' b = some (.lst (us'.map V.ref)) → Rws H' us' S' → alikeB ps qs S S' = true → S.length ≤ 64 → (∀ r ∈ S, r.length ≤ 64) → (∀ r ∈ S', r.length ≤ 64) → Q (.ref x) H') ∧
  (∀ (x a b : Addr) (sd pl : Nat) (r1 r2 : List Nat) (H' : Hp), H x = none → H a = none → H b = none → a ≠ b → Same H H' → ApartAt CP H' x a b sd pl r1 r2 → apartB c ps qs sd pl r1 r2 = true → r1.length = c → r2.length = c → Q (.ref x) H')
theorem allB_of {ps qs : List (Nat × Nat)} {S : List (List Nat)} (hl : S.length = qs.length) (h : ∀ j, j < qs.length → leadB ps (S.getD j []) (qs.getD j (0, 0)).1 (qs.getD j (0, 0)).2 = true) : allB ps qs S = true := by
  unfold allB
  rw [decide_eq_true hl, Bool.true_and]
  exact List.all_eq_true.mpr fun j hj => h j (List.mem_range.mp hj)
theorem apart_of {c : Nat} {ps qs : List (Nat × Nat)} {sd pl : Nat} {q : Nat × Nat} (hG : Good c ps) (hG' : Good c qs) (hs : sd ≤ 1) (hq : (if sd = 0 then ps else qs)[pl]? = some q) (hn : ¬ Sb q.2 (cl (if sd = 0 then qs else ps) q.1)) :
    apartB c ps qs sd pl (rowOf c (cl (if sd = 0 then qs else ps) q.1) 0) (rowOf c (cl (if sd = 0 then qs else ps) q.1) 1) = true := by
  have hGo : Good c (if sd = 0 then ps else qs) := by split <;> assumption
  have hGs : Good c (if sd = 0 then qs else ps) := by split <;> assumption
  have hb := hGo.2.2.2 q (List.mem_of_getElem? hq)
  unfold apartB
  rw [decide_eq_true hs, decide_eq_true (List.getElem?_eq_some_iff.mp hq).1, getP hq]
  show brkB c _ _ (q.1, q.2) = true
  rw [brk_lr]
  exact rows_show hGs.2.2.2 hb.1 hb.2 hn
/-- but for what stands at D -/
def But1 (D : Addr) (H H' : Hp) : Prop := ∀ b o, b ≠ D → H b = some o → H' b = some o
theorem But1.refl (D : Addr) (H : Hp) : But1 D H H := fun _ _ _ h => h
theorem But1.of_upd {D : Addr} {H H' : Hp} {o : HO} (h : But1 D (upd H D o) H') : But1 D H H' := fun b u n q => h b u n (by rw [upd_ne n]; exact q)
theorem But1.of_same {D : Addr} {H H1 H' : Hp} (e : Same H H1) (h : But1 D H1 H') : But1 D H H' := fun b u n q => h b u n (e b u q)
theorem StepsAt.but {C D : Addr} {H H' : Hp} {x d : Addr} {pl : List Nat} (b : But1 D H H') (n1 : x ≠ D) (n2 : d ≠ D) : StepsAt C H x d pl → StepsAt C H' x d pl := fun ⟨⟨dx, h⟩, t⟩ => ⟨⟨dx, b _ _ n1 h⟩, b _ _ n2 t⟩
theorem RowsAt.but {C D : Addr} {H H' : Hp} {x d e : Addr} {r1 r2 : List Nat} (b : But1 D H H') (n1 : x ≠ D) (n2 : d ≠ D) (n3 : e ≠ D) : RowsAt C H x d e r1 r2 → RowsAt C H' x d e r1 r2 := fun ⟨⟨dx, h⟩, t, u⟩ => ⟨⟨dx, b _ _ n1 h⟩, b _ _ n2 t, b _ _ n3 u⟩
theorem getP_of {ps : List (Nat × Nat)} {i : Nat} (h : i < ps.length) : ps[i]? = some (ps.getD i (0, 0)) := by simp [List.getD, h]
section
variable {P : Program} {w : World} {K : PySem.W.Frag} {mg : Str → Option Value} {base : Heap} {A : Adr}
theorem ok_alike (T : Txt K mg A) : FnOk P w K mg base CX0 9 A.f_alike A.d_alike ["one", "other"] (sp_alike A.c_Alike A.c_Apart A.c_Rules) := by
  have G_Rules_rules := ok_Rules_rules (P := P) (w := w) (base := base) T
  have G_follows := ok_follows (P := P) (w := w) (base := base) T
  have G_Alike_init := ok_Alike_init2 (P := P) (w := w) (base := base) T
  have G_Apart_init := ok_Apart_init (P := P) (w := w) (base := base) T
  refine T.F_alike.ok sc_alike (fun vs H Q E h => ?_) (fun cdv A' outer s H vs Q E hr h => ?_)
  · obtain ⟨p, m, p', m', c, ps, qs, rfl, _⟩ := h; rfl
  · obtain ⟨p, m, p', m', c, ps, qs, rfl, hR, hG, hR', hG', kA, kP⟩ := h
    obtain ⟨⟨dp, hp⟩, _⟩ := id hR
    obtain ⟨⟨dp', hp'⟩, _⟩ := id hR'
    refine ⟨_, (pss_cons (ps_if (pt_cmpR op_ne (pe_fldK K (pv 0)) (pe_fldK K (pv 1)) (nomark _)) (pss_one ps_never) pss_nil)
      (pss_cons (ps_setC (i := 2) ["one", "other", "there", "back", "side", "answers", "place", "answer"] (defScope s_alike) ["rule", "other"] [none, some 1] ⟨rfl, by decide +kernel, by decide +kernel, by decide +kernel, by decide +kernel, by decide +kernel⟩ rfl sc_alike.nd rfl rfl (pi_listK K (pe_meth0 (pv 0) T.cl_Rules T.mt_Rules_rules G_Rules_rules (hr.mono (by decide)) T.b_Rules_rules .nil pass0)) (fun _ _ _ _ _ => (pg_name (i := 0) (by show List.Nodup (["rule", "other"] : List Str); decide +kernel) rfl (Or.inl rfl) (Or.inr rfl))) (fun _ _ _ _ _ => pts_nil) (fun _ _ _ _ _ => (pe_call G_follows (hr.mono (by decide)) rfl T.m_follows T.F_follows.kp T.b_follows .nil pass0 (pa_cons (pv 1) (pa_cons (pe_ix (ix_tupK K) (pv 0) pe_int (fun _ _ => rfl)) (pa_cons (pe_ix (ix_tupK K) (pv 0) pe_int (fun _ _ => rfl)) pa_nil))))))
      (pss_cons (ps_setC (i := 3) ["one", "other", "there", "back", "side", "answers", "place", "answer"] (defScope s_alike) ["rule", "one"] [none, some 0] ⟨rfl, by decide +kernel, by decide +kernel, by decide +kernel, by decide +kernel, by decide +kernel⟩ rfl sc_alike.nd rfl rfl (pi_listK K (pe_meth0 (pv 1) T.cl_Rules T.mt_Rules_rules G_Rules_rules (hr.mono (by decide)) T.b_Rules_rules .nil pass0)) (fun _ _ _ _ _ => (pg_name (i := 0) (by show List.Nodup (["rule", "one"] : List Str); decide +kernel) rfl (Or.inl rfl) (Or.inr rfl))) (fun _ _ _ _ _ => pts_nil) (fun _ _ _ _ _ => (pe_call G_follows (hr.mono (by decide)) rfl T.m_follows T.F_follows.kp T.b_follows .nil pass0 (pa_cons (pv 1) (pa_cons (pe_ix (ix_tupK K) (pv 0) pe_int (fun _ _ => rfl)) (pa_cons (pe_ix (ix_tupK K) (pv 0) pe_int (fun _ _ => rfl)) pa_nil))))))
      (pss_cons (ps_for PassesOwn.never rfl (pi_enumK K rfl T.z_enumerate bt_enumerate (pa_cons (pe_lst (pa_cons (pv 2) (pa_cons (pv 3) pa_nil))) pa_nil)) (pg_tupK K (n := 2) rfl (pgs_cons (pg_name (i := 4) sc_alike.nd rfl (Or.inl rfl)) (pgs_cons (pg_name (i := 5) sc_alike.nd rfl (Or.inl rfl)) pgs_nil)))
      (pss_one (ps_for PassesOwn.never rfl (pi_enumK K rfl T.z_enumerate bt_enumerate (pa_cons (pv 5) pa_nil)) (pg_tupK K (n := 2) rfl (pgs_cons (pg_name (i := 6) sc_alike.nd rfl (Or.inl rfl)) (pgs_cons (pg_name (i := 7) sc_alike.nd rfl (Or.inl rfl)) pgs_nil)))
      (pss_one (ps_if (pt_val (pe_callB (call_isinstCK K) rfl T.z_isinstance bt_isinstance (pa_cons (pv 7) (pa_cons (pe_glob (v := .ref A.c_Rows) rfl T.m_Rows rfl) pa_nil)))) (pss_one (ps_ret (pe_make T.mk_Apart G_Apart_init (hr.mono (by decide)) rfl T.m_Apart T.b_Apart_init .nil pass0 (pa_cons (pv 4) (pa_cons (pv 6) (pa_cons (pe_fldK K (pv 7)) (pa_cons (pe_fldK K (pv 7)) pa_nil))))))) pss_nil)))))
      (pss_one (ps_ret (pe_make T.mk_Alike G_Alike_init (hr.mono (by decide)) rfl T.m_Alike T.b_Alike_init .nil pass0 (pa_cons (pe_comp ["one", "other", "there", "back", "side", "answers", "place", "answer"] (defScope s_alike) ["answer"] [none] ⟨rfl, by decide +kernel, by decide +kernel, by decide +kernel, by decide +kernel, by decide +kernel⟩ rfl (pi_listK K (pv 2)) (fun _ _ _ _ _ => (pg_name (i := 0) (by show List.Nodup (["answer"] : List Str); decide +kernel) rfl (Or.inl rfl) (Or.inr rfl))) (fun _ _ _ _ _ => pts_nil) (fun _ _ _ _ _ => (pe_fldK K (pv 0)))) (pa_cons (pe_comp ["one", "other", "there", "back", "side", "answers", "place", "answer"] (defScope s_alike) ["answer"] [none] ⟨rfl, by decide +kernel, by decide +kernel, by decide +kernel, by decide +kernel, by decide +kernel⟩ rfl (pi_listK K (pv 3)) (fun _ _ _ _ _ => (pg_name (i := 0) (by show List.Nodup (["answer"] : List Str); decide +kernel) rfl (Or.inl rfl) (Or.inr rfl))) (fun _ _ _ _ _ => pts_nil) (fun _ _ _ _ _ => (pe_fldK K (pv 0)))) pa_nil))))))))), ?_⟩
    refine ⟨_, rfl, p, A.c_Rules, dp, _, _, rfl, hp, T.cl_Rules, T.na_Rules_columns, flds_columns _ _, _, rfl, p', A.c_Rules, dp', _, _, rfl, hp', T.cl_Rules, T.na_Rules_columns, flds_columns _ _, rfl, _, rfl, ?_⟩
    refine ite2 (fun e => absurd e (by simp)) (fun _ => ?_)
    -- there
    refine ⟨_, rfl, p, dp, _, rfl, hp, flds_no _ _ (by decide +kernel) (by decide +kernel), p, m, c, ps, rfl, hR, fun d1 us1 hd1 ht1 => ?_⟩
    have s1 : Same H (upd H d1 (.lst (us1.map V.ref))) := Same.new hd1
    have hd1' : (upd H d1 (.lst (us1.map V.ref))) d1 = some (.lst (us1.map V.ref)) := upd_same
    have ht1' := ht1.same s1
    have hl1 : (us1.map V.ref).length = ps.length := by rw [List.length_map]; exact ht1.len
    generalize upd H d1 (.lst (us1.map V.ref)) = H1 at s1 hd1' ht1' ⊢
    refine ⟨d1, rfl, ⟨_, SqL.of hd1'⟩, fun D1 hD1 => comp_list (xs := us1.map V.ref) (fun i ys H' => Same H1 H' ∧ i ≤ ps.length ∧ ∃ xs : List Addr, ys = xs.map V.ref ∧ xs.length = i ∧ ∀ H'', But1 D1 H' H'' → Anss A.c_Steps A.c_Rows c qs H'' xs (ps.take i)) ⟨Same.new hD1, Nat.zero_le _, [], rfl, rfl, fun _ _ => trivial⟩ (fun i ys H' _ ⟨e, _⟩ => SqL.of (e _ _ hd1')) ?_ ?_⟩
    · rintro i v ys H' hv ⟨se, hi, xs, rfl, hxl, hX⟩ hDl
      have s1e := s1.trans se
      obtain ⟨t, q, rfl, hq, ht⟩ := (ht1'.same se).get hv
      have hi' : i < ps.length := (List.getElem?_eq_some_iff.mp hq).1
      have h64 := hG.2.2.1
      have hb := hG.2.2.2 q (List.mem_of_getElem? hq)
      have nD : ∀ {b : Addr}, H' b = none → b ≠ D1 := fun hb z => by rw [z, hDl] at hb; cases hb
      refine yes_mk ?_
      refine ⟨_, rfl, _, rfl, t, _, 0, _, rfl, rfl, SqT.of ht, rfl, _, rfl, t, _, 1, _, rfl, rfl, SqT.of ht, rfl, p', m', c, q.1, q.2, qs, rfl, hR'.same s1e, hG', hb.1, hb.2, fun hs x d pl H2 hx hd s2 hSt hld hpli hpn => ?_, fun hs x e1 e2 H2 hx he1 he2 nee s2 hRw => ?_⟩
      · refine CE1.mk (s2 _ _ hDl) (small1000 (by rw [List.length_map]; omega)) ⟨Same.up (se.trans s2) hD1, hi', xs ++ [x], by rw [List.map_append]; rfl, by rw [List.length_append, hxl]; rfl, fun H'' b => ?_⟩
        have b2 := b.of_upd
        rw [List.take_add_one, hq]
        exact Anss.snoc (.inl ⟨d, pl, hSt.but b2 (nD hx) (nD hd), hld, hpn⟩) (hX H'' (b2.of_same s2))
      · refine CE1.mk (s2 _ _ hDl) (small1000 (by rw [List.length_map]; omega)) ⟨Same.up (se.trans s2) hD1, hi', xs ++ [x], by rw [List.map_append]; rfl, by rw [List.length_append, hxl]; rfl, fun H'' b => ?_⟩
        have b2 := b.of_upd
        rw [List.take_add_one, hq]
        exact Anss.snoc (.inr ⟨e1, e2, hRw.but b2 (nD hx) (nD he1) (nD he2), hs⟩) (hX H'' (b2.of_same s2))
    rintro ys H2 ⟨s2, _, xs1, rfl, hxl1, hX1⟩ hDl1
    rw [hl1] at hxl1 hX1
    have hX1 := hX1 H2 (But1.refl _ _)
    rw [List.take_length] at hX1
    have s02 := s1.trans s2
    -- back
    refine ⟨_, rfl, p', dp', _, rfl, s02 _ _ hp', flds_no _ _ (by decide +kernel) (by decide +kernel), p', m', c, qs, rfl, hR'.same s02, fun d2 us2 hd2 ht2 => ?_⟩
    have s3 : Same H2 (upd H2 d2 (.lst (us2.map V.ref))) := Same.new hd2
    have hd2' : (upd H2 d2 (.lst (us2.map V.ref))) d2 = some (.lst (us2.map V.ref)) := upd_same
    have ht2' := ht2.same s3
    have hl2 : (us2.map V.ref).length = qs.length := by rw [List.length_map]; exact ht2.len
    generalize upd H2 d2 (.lst (us2.map V.ref)) = H3 at s3 hd2' ht2' ⊢
    have s03 := s02.trans s3
    refine ⟨d2, rfl, ⟨_, SqL.of hd2'⟩, fun D2 hD2 => comp_list (xs := us2.map V.ref) (fun i ys H' => Same H3 H' ∧ i ≤ qs.length ∧ ∃ xs : List Addr, ys = xs.map V.ref ∧ xs.length = i ∧ ∀ H'', But1 D2 H' H'' → Anss A.c_Steps A.c_Rows c ps H'' xs (qs.take i)) ⟨Same.new hD2, Nat.zero_le _, [], rfl, rfl, fun _ _ => trivial⟩ (fun i ys H' _ ⟨e, _⟩ => SqL.of (e _ _ hd2')) ?_ ?_⟩
    · rintro i v ys H' hv ⟨se, hi, xs, rfl, hxl, hX⟩ hDl
      have s3e := s03.trans se
      obtain ⟨t, q, rfl, hq, ht⟩ := (ht2'.same se).get hv
      have hi' : i < qs.length := (List.getElem?_eq_some_iff.mp hq).1
      have h64 := hG'.2.2.1
      have hb := hG'.2.2.2 q (List.mem_of_getElem? hq)
      have nD : ∀ {b : Addr}, H' b = none → b ≠ D2 := fun hb z => by rw [z, hDl] at hb; cases hb
      refine yes_mk ?_
      refine ⟨_, rfl, _, rfl, t, _, 0, _, rfl, rfl, SqT.of ht, rfl, _, rfl, t, _, 1, _, rfl, rfl, SqT.of ht, rfl, p, m, c, q.1, q.2, ps, rfl, hR.same s3e, hG, hb.1, hb.2, fun hs x d pl H2 hx hd s2 hSt hld hpli hpn => ?_, fun hs x e1 e2 H2 hx he1 he2 nee s2 hRw => ?_⟩
      · refine CE1.mk (s2 _ _ hDl) (small1000 (by rw [List.length_map]; omega)) ⟨Same.up (se.trans s2) hD2, hi', xs ++ [x], by rw [List.map_append]; rfl, by rw [List.length_append, hxl]; rfl, fun H'' b => ?_⟩
        have b2 := b.of_upd
        rw [List.take_add_one, hq]
        exact Anss.snoc (.inl ⟨d, pl, hSt.but b2 (nD hx) (nD hd), hld, hpn⟩) (hX H'' (b2.of_same s2))
      · refine CE1.mk (s2 _ _ hDl) (small1000 (by rw [List.length_map]; omega)) ⟨Same.up (se.trans s2) hD2, hi', xs ++ [x], by rw [List.map_append]; rfl, by rw [List.length_append, hxl]; rfl, fun H'' b => ?_⟩
        have b2 := b.of_upd
        rw [List.take_add_one, hq]
        exact Anss.snoc (.inr ⟨e1, e2, hRw.but b2 (nD hx) (nD he1) (nD he2), hs⟩) (hX H'' (b2.of_same s2))
    rintro ys H4 ⟨s4, _, xs2, rfl, hxl2, hX2⟩ hDl2
    rw [hl2] at hxl2 hX2
    have hX2 := hX2 H4 (But1.refl _ _)
    rw [List.take_length] at hX2
    have s04 := s03.trans s4
    have hX1' := (hX1.same s3).same s4
    have hDl1' := s4 _ _ (s3 _ _ hDl1)
    -- both
    refine ⟨_, rfl, _, rfl, by show 2 ≤ sizeLine; decide, fun q hq => ?_⟩
    have s5 : Same H4 (upd H4 q (.lst [.ref D1, .ref D2])) := Same.new hq
    have hq5 : (upd H4 q (.lst [.ref D1, .ref D2])) q = some (.lst [.ref D1, .ref D2]) := upd_same
    have s05 := s04.trans s5
    have hX15 := hX1'.same s5
    have hX25 := hX2.same s5
    have hD15 := s5 _ _ hDl1'
    have hD25 := s5 _ _ hDl2
    generalize upd H4 q (.lst [.ref D1, .ref D2]) = H5 at s5 hq5 s05 hX15 hX25 hD15 hD25 ⊢
    refine ⟨q, _, rfl, hq5, ?_⟩
    refine for_enum (K := K) (a := q) (xs := [.ref D1, .ref D2]) (fun i σ' H' => i ≤ 2 ∧ Same H5 H' ∧ (0 < i → StpAll A.c_Steps qs H' xs1 ps ps.length) ∧ (1 < i → StpAll A.c_Steps ps H' xs2 qs qs.length) ∧ ∃ o4 o5 o6 o7 : Option V, σ' = [some (.ref p), some (.ref p'), some (.ref D1), some (.ref D2), o4, o5, o6, o7])
      ⟨Nat.zero_le _, Same.refl _, (fun z => absurd z (by decide)), (fun z => absurd z (by decide)), none, none, none, none, rfl⟩ (fun i σ' H' _ ⟨_, e, _⟩ => e _ _ hq5) ?_ ?_
    · rintro i v σ' H6 t hv ⟨hi, s6, hp1, hp2, o4, o5, o6, o7, rfl⟩ ht
      have st : Same H6 (upd H6 t (.tup [.int (i : Nat), v])) := Same.new ht
      refine ⟨t, _, rfl, SqT.of upd_same, rfl, _, _, rfl, _, _, rfl, rfl, ?_⟩
      have s56 := s6.trans st
      have hi2 : i = 0 ∨ i = 1 := by have := (List.getElem?_eq_some_iff.mp hv).1; simp at this; omega
      -- one list of answers, whichever
      obtain ⟨D, xs, hvD, hDx, hXs⟩ : ∃ (D : Addr) (xs : List Addr), v = .ref D ∧ H5 D = some (.lst (xs.map V.ref)) ∧ Anss A.c_Steps A.c_Rows c (if i = 0 then qs else ps) H5 xs (if i = 0 then ps else qs) ∧ (i = 0 → xs = xs1) ∧ (i = 1 → xs = xs2) := by
        rcases hi2 with rfl | rfl
        · exact ⟨D1, xs1, by simpa using hv.symm, hD15, hX15, fun _ => rfl, fun z => absurd z (by decide)⟩
        · exact ⟨D2, xs2, by simpa using hv.symm, hD25, hX25, fun z => absurd z (by decide), fun _ => rfl⟩
      subst hvD
      obtain ⟨hXs, ex1, ex2⟩ := hXs
      have hlx : (xs.map V.ref).length = (if i = 0 then ps else qs).length := by rw [List.length_map]; exact hXs.len
      refine ⟨_, rfl, D, _, rfl, s56 _ _ hDx, ?_⟩
      refine for_enum (K := K) (a := D) (xs := xs.map V.ref) (fun j σ' H' => Same H6 H' ∧ StpAll A.c_Steps (if i = 0 then qs else ps) H' xs (if i = 0 then ps else qs) j ∧ ∃ o6 o7 : Option V, σ' = [some (.ref p), some (.ref p'), some (.ref D1), some (.ref D2), some (.int (i : Nat)), some (.ref D), o6, o7])
        ⟨st, (fun j hj => absurd hj (Nat.not_lt_zero _)), _, _, rfl⟩ (fun j σ' H' _ ⟨e, _⟩ => e _ _ (s6 _ _ hDx)) ?_ ?_
      · rintro j v σ' H7 t7 hv7 ⟨s7, hall, o6, o7, rfl⟩ ht7
        have st7 : Same H7 (upd H7 t7 (.tup [.int (j : Nat), v])) := Same.new ht7
        refine ⟨t7, _, rfl, SqT.of upd_same, rfl, _, _, rfl, _, _, rfl, rfl, ?_⟩
        have s57 : Same H5 (upd H7 t7 (.tup [.int (j : Nat), v])) := s6.trans (s7.trans st7)
        obtain ⟨x, r, rfl, hr', hAns⟩ := (hXs.same s57).get hv7
        have hxj : xs[j]? = some x := by
          rw [List.getElem?_map] at hv7
          cases e : xs[j]? with
          | none => rw [e] at hv7; cases hv7
          | some y => rw [e] at hv7; cases hv7; rfl
        rcases hAns with ⟨d, pl, hSt, hld, hpn⟩ | ⟨e1, e2, hRw, hn⟩
        · obtain ⟨⟨dx, hx⟩, _⟩ := id hSt
          refine ⟨_, rfl, _, _, _, false, rfl, T.ty_Steps.ty T.cl_Steps hx, T.ki_Steps_Rows, false, rfl, iteF ?_⟩
          refine ⟨s7.trans st7, fun n hn y r' hy hr2 => ?_, _, _, rfl⟩
          by_cases z : n = j
          · subst z
            rw [hxj] at hy
            cases hy
            rw [hr'] at hr2
            cases hr2
            exact ⟨d, pl, hSt, hld, hpn⟩
          · exact (hall.same st7) n (by omega) y r' hy hr2
        · obtain ⟨⟨dx, hx⟩, h1, h2⟩ := id hRw
          refine ⟨_, rfl, _, _, _, true, rfl, T.ty_Rows.ty T.cl_Rows hx, T.ki_Rows_Rows, true, rfl, iteT ?_⟩
          refine ⟨_, rfl, _, rfl, _, rfl, x, A.c_Rows, dx, _, _, rfl, hx, T.cl_Rows, T.na_Rows_one, fldR_one _ _, _, rfl, x, A.c_Rows, dx, _, _, rfl, hx, T.cl_Rows, T.na_Rows_other, fldR_other _ _, fun y dy ny ndy ney => ?_⟩
          have s8 : Same (upd H7 t7 (.tup [.int (j : Nat), .ref x])) (upd (upd (upd H7 t7 (.tup [.int (j : Nat), .ref x])) dy (.own y)) y (.ins A.c_Apart dy [])) := Same.up (Same.new ndy) ny
          refine ⟨y, dy, e1, e2, i, j, _, _, rfl, upd_same, s8 _ _ h1, s8 _ _ h2, fun a b H9 ha hb nab hAp kp => ⟨rfl, ?_⟩⟩
          have s9 : Same (upd H7 t7 (.tup [.int (j : Nat), .ref x])) H9 := fun b o e => kp b o (s8 b o e) (ne_of_none e ny)
          have s07 := s05.trans s57
          have hi1 : i ≤ 1 := by omega
          exact kP y a b i j _ _ H9 (s07.free ny) (s07.free (s8.free ha)) (s07.free (s8.free hb)) nab (s07.trans s9) hAp (apart_of hG hG' hi1 hr' hn) (rowOf_len _ _ _) (rowOf_len _ _ _)
      · rintro σ' H7 ⟨s7, hall, o6, o7, rfl⟩
        rw [hlx] at hall
        refine ⟨by omega, s6.trans s7, fun _ => ?_, fun z => ?_, _, _, _, _, rfl⟩
        · rcases hi2 with rfl | rfl
          · rw [ex1 rfl] at hall; exact hall
          · exact (hp1 (by decide)).same s7
        · rcases hi2 with rfl | rfl
          · exact absurd z (by decide)
          · rw [ex2 rfl] at hall; exact hall
    rintro σ' H6 ⟨_, s6, hp1, hp2, o4, o5, o6, o7, rfl⟩
    have hp1 := hp1 (by show 0 < 2; decide)
    have hp2 := hp2 (by show 1 < 2; decide)
    have hD16 := s6 _ _ hD15
    have hD26 := s6 _ _ hD25
    refine ⟨_, rfl, D1, rfl, ⟨_, SqL.of hD16⟩, fun E1 hE1 => comp_list (xs := xs1.map V.ref) (fun i ys H' => Same H6 H' ∧ i ≤ ps.length ∧ ∃ (ds : List Addr) (S : List (List Nat)), ys = ds.map V.ref ∧ Rws H' ds S ∧ (∀ t ∈ ds, t ≠ E1) ∧ S.length = i ∧ (∀ j, j < i → leadB qs (S.getD j []) (ps.getD j (0, 0)).1 (ps.getD j (0, 0)).2 = true) ∧ ∀ r ∈ S, r.length ≤ 64) ⟨Same.new hE1, Nat.zero_le _, [], [], rfl, trivial, (fun t ht => by simp at ht), rfl, (fun j hj => absurd hj (Nat.not_lt_zero _)), fun r hr => by simp at hr⟩ (fun i ys H' _ ⟨e, _⟩ => SqL.of (e _ _ hD16)) ?_ ?_⟩
    · rintro i v ys H' hv ⟨se, hi, ds, S, rfl, hRw, hne, hSl, hld, hr64⟩ hDl
      have hxi : i < xs1.length := by have := (List.getElem?_eq_some_iff.mp hv).1; rwa [List.length_map] at this
      have hi' : i < ps.length := by omega
      have hx : xs1[i]? = some xs1[i] := List.getElem?_eq_getElem hxi
      have hq := getP_of hi'
      rw [List.getElem?_map, hx] at hv
      cases hv
      obtain ⟨d, pl, ⟨⟨dx, hxx⟩, hd⟩, hl, hpn⟩ := hp1 i hi' _ _ hx hq
      have ndE : d ≠ E1 := ne_of_none hd hE1
      have h64 := hG.2.2.1
      have h64' := hG'.2.2.1
      refine yes_mk ?_
      refine ⟨_, rfl, xs1[i], A.c_Steps, dx, _, _, rfl, se _ _ hxx, T.cl_Steps, T.na_Steps_places, fldS_places _, ?_⟩
      refine CE1.mk hDl (small1000 (by rw [List.length_map, hRw.len]; omega)) ⟨Same.up se hE1, hi', ds ++ [d], S ++ [pl], by rw [List.map_append]; rfl, ?_, fun t ht => ?_, by rw [List.length_append, hSl]; rfl, fun j hj => ?_, fun r hr => ?_⟩
      · refine Rws.upd (Rws.snoc (se _ _ hd) hRw) fun z => ?_
        rcases List.mem_append.mp z with z | z
        · exact hne _ z rfl
        · exact ndE (List.mem_singleton.mp z).symm
      · rcases List.mem_append.mp ht with z | z
        · exact hne t z
        · rw [List.mem_singleton.mp z]; exact ndE
      · by_cases z : j = i
        · subst z
          have : (S ++ [pl]).getD j [] = pl := by simp [List.getD, hSl]
          rw [this]; exact hl
        · have : (S ++ [pl]).getD j [] = S.getD j [] := by simp only [List.getD]; rw [List.getElem?_append_left (by omega)]
          rw [this]; exact hld j (by omega)
      · rcases List.mem_append.mp hr with z | z
        · exact hr64 r z
        · rw [List.mem_singleton.mp z]; exact hpn
    rintro ys H7 ⟨s7, _, ds1, S1, rfl, hRw1, _, hSl1, hld1, hr1⟩ hE1l
    have hD27 := s7 _ _ hD26
    have hp2 := hp2.same s7
    rw [List.length_map, hxl1] at hSl1 hld1
    refine ⟨_, rfl, D2, rfl, ⟨_, SqL.of hD27⟩, fun E2 hE2 => comp_list (xs := xs2.map V.ref) (fun i ys H' => Same H7 H' ∧ i ≤ qs.length ∧ ∃ (ds : List Addr) (S : List (List Nat)), ys = ds.map V.ref ∧ Rws H' ds S ∧ (∀ t ∈ ds, t ≠ E2) ∧ S.length = i ∧ (∀ j, j < i → leadB ps (S.getD j []) (qs.getD j (0, 0)).1 (qs.getD j (0, 0)).2 = true) ∧ ∀ r ∈ S, r.length ≤ 64) ⟨Same.new hE2, Nat.zero_le _, [], [], rfl, trivial, (fun t ht => by simp at ht), rfl, (fun j hj => absurd hj (Nat.not_lt_zero _)), fun r hr => by simp at hr⟩ (fun i ys H' _ ⟨e, _⟩ => SqL.of (e _ _ hD27)) ?_ ?_⟩
    · rintro i v ys H' hv ⟨se, hi, ds, S, rfl, hRw, hne, hSl, hld, hr64⟩ hDl
      have hxi : i < xs2.length := by have := (List.getElem?_eq_some_iff.mp hv).1; rwa [List.length_map] at this
      have hi' : i < qs.length := by omega
      have hx : xs2[i]? = some xs2[i] := List.getElem?_eq_getElem hxi
      have hq := getP_of hi'
      rw [List.getElem?_map, hx] at hv
      cases hv
      obtain ⟨d, pl, ⟨⟨dx, hxx⟩, hd⟩, hl, hpn⟩ := hp2 i hi' _ _ hx hq
      have ndE : d ≠ E2 := ne_of_none hd hE2
      have h64 := hG.2.2.1
      have h64' := hG'.2.2.1
      refine yes_mk ?_
      refine ⟨_, rfl, xs2[i], A.c_Steps, dx, _, _, rfl, se _ _ hxx, T.cl_Steps, T.na_Steps_places, fldS_places _, ?_⟩
      refine CE1.mk hDl (small1000 (by rw [List.length_map, hRw.len]; omega)) ⟨Same.up se hE2, hi', ds ++ [d], S ++ [pl], by rw [List.map_append]; rfl, ?_, fun t ht => ?_, by rw [List.length_append, hSl]; rfl, fun j hj => ?_, fun r hr => ?_⟩
      · refine Rws.upd (Rws.snoc (se _ _ hd) hRw) fun z => ?_
        rcases List.mem_append.mp z with z | z
        · exact hne _ z rfl
        · exact ndE (List.mem_singleton.mp z).symm
      · rcases List.mem_append.mp ht with z | z
        · exact hne t z
        · rw [List.mem_singleton.mp z]; exact ndE
      · by_cases z : j = i
        · subst z
          have : (S ++ [pl]).getD j [] = pl := by simp [List.getD, hSl]
          rw [this]; exact hl
        · have : (S ++ [pl]).getD j [] = S.getD j [] := by simp only [List.getD]; rw [List.getElem?_append_left (by omega)]
          rw [this]; exact hld j (by omega)
      · rcases List.mem_append.mp hr with z | z
        · exact hr64 r z
        · rw [List.mem_singleton.mp z]; exact hpn
    rintro ys H8 ⟨s8, _, ds2, S2, rfl, hRw2, _, hSl2, hld2, hr2⟩ hE2l y dy ny ndy ney
    rw [List.length_map, hxl2] at hSl2 hld2
    have s9 : Same H8 (upd (upd H8 dy (.own y)) y (.ins A.c_Alike dy [])) := Same.up (Same.new ndy) ny
    have h64 := hG.2.2.1
    have h64' := hG'.2.2.1
    refine ⟨y, dy, E1, E2, S1, S2, rfl, upd_same, ⟨ds1, s9 _ _ (s8 _ _ hE1l), (hRw1.same s8).same s9⟩, by omega, ⟨ds2, s9 _ _ hE2l, hRw2.same s9⟩, by omega, fun a b us us' H10 ha hb nab hus hus' hxx haa hRa hbb hRb kp => ⟨rfl, ?_⟩⟩
    have s10 : Same H8 H10 := fun b o e => kp b o (s9 b o e) (ne_of_none e ny)
    have s08 := s05.trans (s6.trans (s7.trans s8))
    refine kA y a b us us' S1 S2 H10 (s08.free ny) (s08.free (s9.free ha)) (s08.free (s9.free hb)) nab.symm (fun z => (hus a z).2.1 rfl) (fun z => (hus' a z).2.1 rfl) (s08.trans s10) hxx haa hRa hbb hRb ?_ (by omega) hr1 hr2
    unfold alikeB
    rw [allB_of hSl1 hld1, allB_of hSl2 hld2]
    rfl
end
end K05

namespace K05
open PySem L2 TC
theorem sb_test (a b : Nat) : decide (V.int (Builtin.bitAnd ((b : Nat) : Int) ((a : Nat) : Int)) = V.int ((a : Nat) : Int)) = decide (Sb a b) := by
  rw [and_nat]
  by_cases h : Sb a b
  · rw [decide_eq_true h, sub_and.mp h]; simp
  · rw [decide_eq_false h]
    refine decide_eq_false fun z => h (sub_and.mpr ?_)
    injection z with z
    omega
theorem ltB_iff {m : Nat} {ns : List Nat} : ltB m ns = true ↔ ∀ n ∈ ns, n < m := by
  unfold ltB
  rw [List.all_eq_true]
  exact ⟨fun h n hn => of_decide_eq_true (h n hn), fun h n hn => decide_eq_true (h n hn)⟩
/-- a place that there isn't leads nowhere -/
theorem leadB_ltB {ps : List (Nat × Nat)} {pl : List Nat} {a b : Nat} (h : ltB ps.length pl = false) : leadB ps pl a b = false := by
  refine leadB_none ?_
  cases e : leadN ps pl a with
  | none => rfl
  | some k =>
    have := ltB_iff.mpr (leadN_places e)
    rw [h] at this
    cases this
def sp_lsteps : Sp := fun vs H Q _ => ∃ (l d : Addr) (a b : Nat) (ps : List (Nat × Nat)) (pl : List Nat), vs = [.ref l, .int (a : Nat), .int (b : Nat), .ref d] ∧ PrsAt H l ps ∧ H d = some (.lst (nums pl)) ∧ pl.length ≤ 900 ∧ ∀ H', Same H H' → Q (.bl (leadB ps pl a b)) H'
section
variable {P : Program} {w : World} {K : PySem.W.Frag} {mg : Str → Option Value} {base : Heap} {A : Adr}
theorem ok_law_steps (T : Txt K mg A) : FnOk P w K mg base CX0 3 A.f_law_steps A.d_law_steps ["_law_pairs_here", "_law_left", "_law_right_here", "_law_places"] sp_lsteps := by
  have G_law_numbers := ok_law_numbers (P := P) (w := w) (base := base) T
  refine T.F_law_steps.ok sc_law_steps (fun vs H Q E h => ?_) (fun cdv A' outer s H vs Q E hr h => ?_)
  · obtain ⟨l, d, a, b, ps, pl, rfl, _⟩ := h; rfl
  · obtain ⟨l, d, a, b, ps, pl, rfl, ⟨ts, hl, htp⟩, hd, hpl, k⟩ := h
    refine ⟨_, (pss_cons (ps_if (pt_not (pt_val (pe_call G_law_numbers (hr.mono (by decide)) rfl T.m_law_numbers T.F_law_numbers.kp T.b_law_numbers .nil pass0 (pa_cons (pv 3) (pa_cons (pe_callB (call_lenK K) rfl T.z_len bt_len (pa_cons (pv 0) pa_nil)) pa_nil))))) (pss_one (ps_ret pe_bl)) pss_nil)
      (pss_cons (ps_set (i := 4) sc_law_steps.nd rfl (Or.inl rfl) (pv 1))
      (pss_cons (ps_for PassesOwn.never rfl (pi_listK K (pv 3)) (pg_name (i := 5) sc_law_steps.nd rfl (Or.inl rfl))
      (pss_cons (ps_if (pt_cmpR op_ne (pe_op op_and (pv 4) (pe_ix (ix_tupK K) (pe_ix (ix_listK K) (pv 0) (pv 5) (fun _ _ => rfl)) pe_int (fun _ _ => rfl))) (pe_ix (ix_tupK K) (pe_ix (ix_listK K) (pv 0) (pv 5) (fun _ _ => rfl)) pe_int (fun _ _ => rfl)) (nomark _)) (pss_one (ps_ret pe_bl)) pss_nil)
      (pss_one (ps_set (i := 4) sc_law_steps.nd rfl (Or.inl rfl) (pe_op op_or (pv 4) (pe_ix (ix_tupK K) (pe_ix (ix_listK K) (pv 0) (pv 5) (fun _ _ => rfl)) pe_int (fun _ _ => rfl)))))))
      (pss_one (ps_ret (pe_cmpR op_eq (pe_op op_and (pv 4) (pv 2)) (pv 2) (nomark _))))))), ?_⟩
    have hln : (ts.map V.ref).length = ps.length := by rw [List.length_map]; exact htp.len
    refine ⟨_, rfl, _, rfl, l, _, rfl, .inl (SqL.of hl), d, pl, (ts.map V.ref).length, rfl, hd, hpl, fun H1 s1 => ⟨_, rfl, ?_⟩⟩
    rw [hln]
    cases hb : ltB ps.length pl with
    | false =>
      refine iteT ?_
      have z := k H1 s1
      rw [leadB_ltB hb] at z
      exact z
    | true =>
      refine iteF ?_
      have hb' := ltB_iff.mp hb
      have hd1 := s1 _ _ hd
      have hl1 := s1 _ _ hl
      have htp1 := htp.same s1
      refine ⟨_, rfl, _, rfl, d, rfl, ⟨_, SqL.of hd1⟩, for_list (K := K) (a := d) (xs := nums pl) (fun i σ' H' => H' = H1 ∧ i ≤ pl.length ∧ ∃ (kn : Nat) (pv : Option V), leadN ps (pl.take i) a = some kn ∧ σ' = [some (.ref l), some (.int (a : Nat)), some (.int (b : Nat)), some (.ref d), some (.int (kn : Nat)), pv])
        ⟨rfl, Nat.zero_le _, a, none, rfl, rfl⟩ (fun i σ' H' _ ⟨e, _⟩ => by subst e; exact SqL.of hd1) ?_ ?_⟩
      · rintro i x σ' H' hx ⟨rfl, hi, kn, pv, hk, rfl⟩
        obtain ⟨n, hn, rfl⟩ := nums_at hx
        have hi' : i < pl.length := (List.getElem?_eq_some_iff.mp hn).1
        have hT := leadN_take (ps := ps) (k := a) hn
        rw [hk] at hT
        have hlt : n < ps.length := hb' n (List.mem_of_getElem? hn)
        have hgt : (ts.map V.ref)[n]? = some (.ref (ts[n]'(by rw [← hln, List.length_map] at hlt; exact hlt))) := by rw [List.getElem?_map, List.getElem?_eq_getElem (by rw [← hln, List.length_map] at hlt; exact hlt)]; rfl
        obtain ⟨t, q, et, hq, ht⟩ := htp1.get hgt
        rw [et] at hgt
        refine ⟨_, rfl, _, rfl, _, rfl, l, _, (n : Int), _, rfl, rfl, SqL.of hl1, atI_nat hgt, t, _, 0, _, rfl, rfl, SqT.of ht, rfl, _, _, rfl, rfl, _, rfl, _, rfl, l, _, (n : Int), _, rfl, rfl, SqL.of hl1, atI_nat hgt, t, _, 0, _, rfl, rfl, SqT.of ht, rfl, rfl, _, rfl, ?_⟩
        rw [sb_test]
        by_cases hs : Sb q.1 kn
        · rw [decide_eq_true hs]
          refine iteF ?_
          refine ⟨_, rfl, _, rfl, _, rfl, l, _, (n : Int), _, rfl, rfl, SqL.of hl1, atI_nat hgt, t, _, 1, _, rfl, rfl, SqT.of ht, rfl, _, _, rfl, rfl, ?_⟩
          refine ⟨rfl, hi', kn ||| q.2, some (.int (n : Nat)), ?_, ?_⟩
          · rw [hT]; exact leadN_one hq hs
          · rw [← or_nat]; rfl
        · rw [decide_eq_false hs]
          refine iteT ?_
          have e : leadB ps pl a b = false := leadB_none (leadN_none (i := i + 1) (by rw [hT]; exact leadN_one_no hq hs))
          have z := k _ s1
          rw [e] at z
          exact z
      · rintro σ' H' ⟨rfl, _, kn, pv, hk, rfl⟩
        rw [nums_len, List.take_length] at hk
        refine ⟨_, rfl, _, rfl, _, _, rfl, rfl, _, rfl, rfl, ?_⟩
        have z := k _ s1
        rw [leadB_some hk] at z
        rw [sb_test]
        exact z
end
def sp_lrows : Sp := fun vs H Q _ => ∃ (l d1 d2 : Addr) (c a b : Nat) (ps : List (Nat × Nat)) (r1 r2 : List Nat), vs = [.ref l, .int (c : Nat), .int (a : Nat), .int (b : Nat), .ref d1, .ref d2] ∧ c ≤ 6 ∧ PrsAt H l ps ∧ ps.length ≤ 64 ∧ (∀ p ∈ ps, p.1 < 64 ∧ p.2 < 64) ∧ H d1 = some (.lst (nums r1)) ∧ H d2 = some (.lst (nums r2)) ∧ r1.length ≤ 900 ∧ r2.length ≤ 900 ∧ a < 64 ∧ b < 64 ∧
  ∀ H', Same H H' → Q (.bl (lrB c ps a b r1 r2)) H'
theorem ltB_99 (ns : List Nat) : ltB 100 ns = ns.all fun n => decide (n ≤ 99) := by
  unfold ltB
  congr 1
  funext n
  exact decide_eq_decide.mpr (by omega)
section
variable {P : Program} {w : World} {K : PySem.W.Frag} {mg : Str → Option Value} {base : Heap} {A : Adr}
theorem ok_law_rows (T : Txt K mg A) : FnOk P w K mg base CX0 5 A.f_law_rows A.d_law_rows ["_law_pairs_here", "_law_columns", "_law_left", "_law_right_here", "_law_one", "_law_other_here"] sp_lrows := by
  have G_law_numbers := ok_law_numbers (P := P) (w := w) (base := base) T
  have G_law_keeps := ok_law_keeps (P := P) (w := w) (base := base) T
  have G_law_like := ok_law_like (P := P) (w := w) (base := base) T
  refine T.F_law_rows.ok sc_law_rows (fun vs H Q E h => ?_) (fun cdv A' outer s H vs Q E hr h => ?_)
  · obtain ⟨l, d1, d2, c, a, b, ps, r1, r2, rfl, _⟩ := h; rfl
  · obtain ⟨l, d1, d2, c, a, b, ps, r1, r2, rfl, hc6, hP, hpl, hps, h1, h2, hl1, hl2, ha, hb, k⟩ := h
    refine ⟨_, (pss_cons (ps_if (PW.pt (pw_or (pt_not (pt_val (pe_call G_law_numbers (hr.mono (by decide)) rfl T.m_law_numbers T.F_law_numbers.kp T.b_law_numbers .nil pass0 (pa_cons (pv 4) (pa_cons pe_int pa_nil))))) (pw_or (pt_not (pt_val (pe_call G_law_numbers (hr.mono (by decide)) rfl T.m_law_numbers T.F_law_numbers.kp T.b_law_numbers .nil pass0 (pa_cons (pv 5) (pa_cons pe_int pa_nil))))) (pw_or (pt_cmpR op_ne (pe_callB (call_lenK K) rfl T.z_len bt_len (pa_cons (pv 4) pa_nil)) (pv 1) (nomark _)) (pw_or1 (pt_cmpR op_ne (pe_callB (call_lenK K) rfl T.z_len bt_len (pa_cons (pv 5) pa_nil)) (pv 1) (nomark _))))))) (pss_one (ps_ret pe_bl)) pss_nil)
      (pss_cons (ps_if (pt_not (pt_val (pe_callB (call_allK K rfl) rfl T.z_all bt_all (pa_cons (pe_comp ["_law_pairs_here", "_law_columns", "_law_left", "_law_right_here", "_law_one", "_law_other_here"] (defScope s_law_rows) ["_law_rule", "_law_one", "_law_other_here"] [none, some 4, some 5] ⟨rfl, by decide +kernel, by decide +kernel, by decide +kernel, by decide +kernel, by decide +kernel⟩ rfl (pi_listK K (pv 0)) (fun _ _ _ _ _ => (pg_name (i := 0) (by show List.Nodup (["_law_rule", "_law_one", "_law_other_here"] : List Str); decide +kernel) rfl (Or.inl rfl) (Or.inr rfl))) (fun _ _ _ _ _ => pts_nil) (fun _ _ _ _ _ => (pe_call G_law_keeps (hr.mono (by decide)) rfl T.m_law_keeps T.F_law_keeps.kp T.b_law_keeps .nil pass0 (pa_cons (pe_lst (pa_cons (pv 1) (pa_cons (pv 2) pa_nil))) (pa_cons (pv 0) pa_nil))))) pa_nil)))) (pss_one (ps_ret pe_bl)) pss_nil)
      (pss_one (ps_ret (pe_and (pe_call G_law_like (hr.mono (by decide)) rfl T.m_law_like T.F_law_like.kp T.b_law_like .nil pass0 (pa_cons (pv 4) (pa_cons (pv 5) (pa_cons (pv 2) pa_nil)))) (pe_one (pe_not (pe_call G_law_like (hr.mono (by decide)) rfl T.m_law_like T.F_law_like.kp T.b_law_like .nil pass0 (pa_cons (pv 4) (pa_cons (pv 5) (pa_cons (pv 3) pa_nil))))))))))), ?_⟩
    have no : ∀ H', Same H H' → lrB c ps a b r1 r2 = false → Q (.bl false) H' := fun H' s' e => by
      have z := k H' s'
      rw [e] at z
      exact z
    refine ⟨_, rfl, d1, r1, 100, rfl, h1, hl1, fun H1 s1 => ⟨_, rfl, ?_⟩⟩
    rw [ltB_99]
    refine ite2 (fun e1 => ?_) (fun e1 => ?_)
    · refine iteT (no H1 s1 ?_)
      have e1' : (r1.all fun n => decide (n ≤ 99)) = false := by simpa using e1
      unfold lrB rowB
      rw [e1', Bool.and_false, Bool.false_and]
    have e1' : (r1.all fun n => decide (n ≤ 99)) = true := by simpa using e1
    refine ⟨_, rfl, d2, r2, 100, rfl, s1 _ _ h2, hl2, fun H2 s2 => ⟨_, rfl, ?_⟩⟩
    have s02 := s1.trans s2
    rw [ltB_99]
    refine ite2 (fun e2 => ?_) (fun e2 => ?_)
    · refine iteT (no H2 s02 ?_)
      have e2' : (r2.all fun n => decide (n ≤ 99)) = false := by simpa using e2
      unfold lrB rowB
      rw [e2', Bool.and_false, Bool.false_and, Bool.and_false]
    have e2' : (r2.all fun n => decide (n ≤ 99)) = true := by simpa using e2
    refine ⟨_, rfl, d1, _, rfl, .inl (SqL.of (s02 _ _ h1)), _, rfl, rfl, _, rfl, ?_⟩
    rw [nums_len]
    refine ite2 (fun e3 => ?_) (fun e3 => ?_)
    · refine iteT (no H2 s02 ?_)
      have e3' : ¬ r1.length = c := fun z => by rw [z] at e3; simp at e3
      unfold lrB rowB
      rw [decide_eq_false e3', Bool.false_and, Bool.false_and]
    have e3' : r1.length = c := by
      have : V.int ((r1.length : Nat) : Int) = V.int ((c : Nat) : Int) := by simpa using e3
      injection this with this
      omega
    refine ⟨_, rfl, d2, _, rfl, .inl (SqL.of (s02 _ _ h2)), _, rfl, rfl, _, rfl, ?_⟩
    rw [nums_len]
    refine ite2 (fun e4 => ?_) (fun e4 => ?_)
    · refine no H2 s02 ?_
      have e4' : ¬ r2.length = c := fun z => by rw [z] at e4; simp at e4
      unfold lrB rowB
      rw [decide_eq_false e4', Bool.false_and, Bool.false_and, Bool.and_false]
    have e4' : r2.length = c := by
      have : V.int ((r2.length : Nat) : Int) = V.int ((c : Nat) : Int) := by simpa using e4
      injection this with this
      omega
    have eB : lrB c ps a b r1 r2 = ((ps.all fun p => decide (Keeps [r1, r2] p)) && (decide (cellsN r1 a = cellsN r2 a) && !decide (cellsN r1 b = cellsN r2 b))) := by
      unfold lrB rowB
      rw [e1', e2', decide_eq_true e3', decide_eq_true e4']
      rfl
    obtain ⟨ts, hl, htp⟩ := hP.same s02
    have hln : (ts.map V.ref).length = ps.length := by rw [List.length_map]; exact htp.len
    refine ⟨_, rfl, l, rfl, ⟨_, SqL.of hl⟩, fun D hD => comp_list (xs := ts.map V.ref) (fun i ys H' => Same H2 H' ∧ ys = bls ((ps.take i).map fun p => decide (Keeps [r1, r2] p)) ∧ i ≤ ps.length) ⟨Same.new hD, rfl, Nat.zero_le _⟩ (fun i ys H' _ ⟨e, _⟩ => SqL.of (e _ _ hl)) ?_ ?_⟩
    · rintro i x ys H' hx ⟨se, rfl, hi⟩ hDl
      obtain ⟨t, p, rfl, hp, ht⟩ := (htp.same se).get hx
      have hi' : i < ps.length := (List.getElem?_eq_some_iff.mp hp).1
      have hpb := hps p (List.mem_of_getElem? hp)
      have s0 : Same H H' := s02.trans se
      refine yes_mk ?_
      refine ⟨_, rfl, _, rfl, by show 2 ≤ sizeLine; decide, fun q hq => ⟨_, rfl, ?_⟩⟩
      have sq : Same H' (upd H' q (.lst [.ref d1, .ref d2])) := Same.new hq
      refine ⟨q, t, c, [r1, r2], p, rfl, ⟨[d1, d2], upd_same, sq _ _ (s0 _ _ h1), sq _ _ (s0 _ _ h2), trivial⟩, hc6, fun r hr => ?_, sq _ _ ht, hpb.1, hpb.2, ?_⟩
      · have hr' : r = r1 ∨ r = r2 := by simpa using hr
        rcases hr' with rfl | rfl
        · exact e3'
        · exact e4'
      · refine CE1.mk (sq _ _ hDl) (small1000 (by rw [bls_len, List.length_map, List.length_take]; omega)) ⟨Same.up (se.trans sq) hD, ?_, hi'⟩
        rw [map_take _ hp, bls_snoc]
    · rintro ys H3 ⟨se, rfl, _⟩ hDl
      rw [hln, List.take_length] at hDl
      have s03 : Same H H3 := s02.trans se
      refine ⟨D, _, rfl, SqL.of hDl, _, rfl, ?_⟩
      rw [all_map]
      refine ite2 (fun e5 => ?_) (fun e5 => ?_)
      · refine no H3 s03 ?_
        have e5' : (ps.all fun p => decide (Keeps [r1, r2] p)) = false := by simpa using e5
        rw [eB, e5', Bool.false_and]
      have e5' : (ps.all fun p => decide (Keeps [r1, r2] p)) = true := by simpa using e5
      refine ⟨_, rfl, _, rfl, _, rfl, d1, d2, r1, r2, a, rfl, s03 _ _ h1, s03 _ _ h2, by omega, by omega, ha, _, rfl, ?_⟩
      refine ite2 (fun e6 => ?_) (fun e6 => ?_)
      · refine ⟨_, rfl, _, rfl, _, rfl, d1, d2, r1, r2, b, rfl, s03 _ _ h1, s03 _ _ h2, by omega, by omega, hb, _, rfl, ?_⟩
        have z := k H3 s03
        rw [eB, e5', e6, Bool.true_and, Bool.true_and] at z
        exact z
      · have e6' : decide (cellsN r1 a = cellsN r2 a) = false := by simpa using e6
        have z := k H3 s03
        rw [eB, e6', Bool.false_and, Bool.and_false] at z
        exact z
end
end K05

namespace K05
open PySem L2 TC
def sp_lled : Sp := fun vs H Q _ => ∃ (l m d : Addr) (ps qs : List (Nat × Nat)) (S : List (List Nat)), vs = [.ref l, .ref m, .ref d] ∧ PrsAt H l qs ∧ PrsAt H m ps ∧ TblAt H d S ∧ qs.length ≤ 64 ∧ (∀ y ∈ S, y.length ≤ 900) ∧ allB ps qs S = true ∧ ∀ H', Same H H' → Q (.bl true) H'
theorem ap_true {c : Nat} {ps qs : List (Nat × Nat)} {sd pl : Nat} {r1 r2 : List Nat} (h : apartB c ps qs sd pl r1 r2 = true) : ∃ pr, sd ≤ 1 ∧ (if sd = 0 then ps else qs)[pl]? = some pr ∧ lrB c (if sd = 0 then qs else ps) pr.1 pr.2 r1 r2 = true := by
  unfold apartB at h
  rw [Bool.and_eq_true, Bool.and_eq_true, decide_eq_true_iff, decide_eq_true_iff] at h
  obtain ⟨h1, h2, h3⟩ := h
  refine ⟨_, h1, getP_of h2, ?_⟩
  rw [← brk_lr]
  exact h3
def sp_lright5 (CA CP : Addr) : Sp := fun vs H Q _ => ∃ (l m x : Addr) (c : Nat) (ps qs : List (Nat × Nat)), vs = [.ref l, .ref m, .int (c : Nat), .ref x] ∧ PrsAt H l ps ∧ PrsAt H m qs ∧ Good c ps ∧ Good c qs ∧
  ((∃ (a b : Addr) (S S' : List (List Nat)), AlikeAt CA H x a b S S' ∧ alikeB ps qs S S' = true ∧ (∀ y ∈ S, y.length ≤ 64) ∧ ∀ y ∈ S', y.length ≤ 64) ∨ ∃ (a b : Addr) (sd pl : Nat) (r1 r2 : List Nat), ApartAt CP H x a b sd pl r1 r2 ∧ apartB c ps qs sd pl r1 r2 = true ∧ r1.length = c ∧ r2.length = c) ∧ ∀ H', Same H H' → Q (.bl true) H'
section
variable {P : Program} {w : World} {K : PySem.W.Frag} {mg : Str → Option Value} {base : Heap} {A : Adr}
theorem ok_law_led (T : Txt K mg A) : FnOk P w K mg base CX0 5 A.f_law_led A.d_law_led ["_law_pairs_here", "_law_others", "_law_lists"] sp_lled := by
  have G_law_steps := ok_law_steps (P := P) (w := w) (base := base) T
  refine T.F_law_led.ok sc_law_led (fun vs H Q E h => ?_) (fun cdv A' outer s H vs Q E hr h => ?_)
  · obtain ⟨l, m, d, ps, qs, S, rfl, _⟩ := h; rfl
  · obtain ⟨l, m, d, ps, qs, S, rfl, ⟨us, hl, htp⟩, hPm, ⟨ts, hd, hR⟩, hq64, hSr, hal, k⟩ := h
    have hlu : (us.map V.ref).length = qs.length := by rw [List.length_map]; exact htp.len
    have hln : (ts.map V.ref).length = S.length := by rw [List.length_map]; exact hR.len
    unfold allB at hal
    rw [Bool.and_eq_true, decide_eq_true_iff] at hal
    obtain ⟨hlen, hall⟩ := hal
    refine ⟨_, (pss_cons (ps_if (PW.pt (pw_or (pt_not (pt_val (pe_callB (call_isinstK K) rfl T.z_isinstance bt_isinstance (pa_cons (pv 2) (pa_cons (pe_bltn (v := .ty "list") rfl T.z_list bt_list rfl) pa_nil))))) (pw_or1 (pt_cmpR op_ne (pe_callB (call_lenK K) rfl T.z_len bt_len (pa_cons (pv 2) pa_nil)) (pe_callB (call_lenK K) rfl T.z_len bt_len (pa_cons (pv 0) pa_nil)) (nomark _))))) (pss_one (ps_ret pe_bl)) pss_nil)
      (pss_one (ps_ret (pe_callB (call_allK K rfl) rfl T.z_all bt_all (pa_cons (pe_comp ["_law_pairs_here", "_law_others", "_law_lists"] (defScope s_law_led) ["_law_rule", "_law_places", "_law_others"] [none, none, some 1] ⟨rfl, by decide +kernel, by decide +kernel, by decide +kernel, by decide +kernel, by decide +kernel⟩ rfl (pi_zipK K rfl T.z_zip bt_zip (pa_cons (pv 0) (pa_cons (pv 2) pa_nil))) (fun _ _ _ _ _ => pg_tupK K (n := 2) rfl (pgs_cons (pg_name (i := 0) (by show List.Nodup (["_law_rule", "_law_places", "_law_others"] : List Str); decide +kernel) rfl (Or.inl rfl) (Or.inr rfl)) (pgs_cons (pg_name (i := 1) (by show List.Nodup (["_law_rule", "_law_places", "_law_others"] : List Str); decide +kernel) rfl (Or.inl rfl) (Or.inr rfl)) pgs_nil))) (fun _ _ _ _ _ => pts_nil) (fun _ _ _ _ _ => (pe_call G_law_steps (hr.mono (by decide)) rfl T.m_law_steps T.F_law_steps.kp T.b_law_steps .nil pass0 (pa_cons (pv 2) (pa_cons (pe_ix (ix_tupK K) (pv 0) pe_int (fun _ _ => rfl)) (pa_cons (pe_ix (ix_tupK K) (pv 0) pe_int (fun _ _ => rfl)) (pa_cons (pv 1) pa_nil))))))) pa_nil))))), ?_⟩
    refine ⟨_, rfl, _, _, _, true, rfl, .lst hd, kit_list_list, true, rfl, iteF ⟨_, rfl, d, _, rfl, .inl (SqL.of hd), _, rfl, l, _, rfl, .inl (SqL.of hl), rfl, _, rfl, ?_⟩⟩
    rw [hln, hlu, hlen]
    refine ite2 (fun e => absurd e (by simp)) (fun _ => ?_)
    refine ⟨_, rfl, _, rfl, l, d, rfl, ⟨_, SqL.of hl⟩, ⟨_, SqL.of hd⟩, fun D hD => comp_zip (xs := us.map V.ref) (zs := ts.map V.ref) (fun i ys H' => Same H H' ∧ i ≤ qs.length ∧ ys = bls ((List.range i).map fun i => leadB ps (S.getD i []) (qs.getD i (0, 0)).1 (qs.getD i (0, 0)).2)) (by rw [hln, hlu, hlen]) ⟨Same.new hD, Nat.zero_le _, rfl⟩ (fun i ys H' _ ⟨e, _⟩ => ⟨e _ _ hl, e _ _ hd⟩) ?_ ?_⟩
    · rintro i v z ys H2 q hv hz ⟨s2, hi, rfl⟩ hDl hq
      obtain ⟨t, pl, rfl, hpl, ht⟩ := (hR.same s2).get hz
      obtain ⟨u, r, rfl, hr', hu⟩ := (htp.same s2).get hv
      have hi' : i < qs.length := (List.getElem?_eq_some_iff.mp hr').1
      have sq : Same H2 (upd H2 q (.tup [.ref u, .ref t])) := Same.new hq
      refine yes_mk ?_
      refine ⟨_, rfl, _, rfl, u, _, 0, _, rfl, rfl, SqT.of (sq _ _ hu), rfl, _, rfl, u, _, 1, _, rfl, rfl, SqT.of (sq _ _ hu), rfl, _, rfl, m, t, r.1, r.2, ps, pl, rfl, (hPm.same s2).same sq, sq _ _ ht, hSr pl (List.mem_of_getElem? hpl), fun H3 s3 => ?_⟩
      have hD3 := s3 _ _ (sq _ _ hDl)
      refine CE2.mk hD3 (small1000 (by rw [bls_len, List.length_map, List.length_range]; omega)) ⟨Same.up (s2.trans (sq.trans s3)) hD, hi', ?_⟩
      rw [map_range_succ, bls_snoc, getL hpl, getP hr']
    · rintro ys H2 ⟨s2, _, rfl⟩ hDl
      rw [hlu] at hDl
      refine ⟨D, _, rfl, SqL.of hDl, ?_⟩
      rw [all_range, hall]
      exact k H2 s2
theorem ok_law_right (T : Txt K mg A) : FnOk P w K mg base CX0 7 A.f_law_right A.d_law_right ["_law_pairs_here", "_law_others", "_law_columns", "_law_found"] (sp_lright5 A.c_Alike A.c_Apart) := by
  have G_law_led := ok_law_led (P := P) (w := w) (base := base) T
  have G_law_numbers := ok_law_numbers (P := P) (w := w) (base := base) T
  have G_law_rows := ok_law_rows (P := P) (w := w) (base := base) T
  refine T.F_law_right.ok sc_law_right (fun vs H Q E h => ?_) (fun cdv A' outer s H vs Q E hr h => ?_)
  · obtain ⟨l, m, x, c, ps, qs, rfl, _⟩ := h; rfl
  · obtain ⟨l, m, x, c, ps, qs, rfl, hP, hPm, hG, hG', hx, k⟩ := h
    refine ⟨_, (pss_cons (ps_if (PW.pt (pw_or (pt_not (pt_val (pe_callB (call_isinstCK K) rfl T.z_isinstance bt_isinstance (pa_cons (pv 3) (pa_cons (pe_glob (v := .ref A.c_Answer) rfl T.m_Answer rfl) pa_nil))))) (pw_or1 (pt_cmpR op_eq (pe_callB (call_isinstCK K) rfl T.z_isinstance bt_isinstance (pa_cons (pv 3) (pa_cons (pe_glob (v := .ref A.c_Alike) rfl T.m_Alike rfl) pa_nil))) (pe_callB (call_isinstCK K) rfl T.z_isinstance bt_isinstance (pa_cons (pv 3) (pa_cons (pe_glob (v := .ref A.c_Apart) rfl T.m_Apart rfl) pa_nil))) (nomark _))))) (pss_one (ps_ret pe_bl)) pss_nil)
      (pss_cons (ps_set (i := 4) sc_law_right.nd rfl (Or.inl rfl) (pe_lst (pa_cons (pe_callB (call_isinstCK K) rfl T.z_isinstance bt_isinstance (pa_cons (pv 3) (pa_cons (pe_glob (v := .ref A.c_Steps) rfl T.m_Steps rfl) pa_nil))) (pa_cons (pe_callB (call_isinstCK K) rfl T.z_isinstance bt_isinstance (pa_cons (pv 3) (pa_cons (pe_glob (v := .ref A.c_Rows) rfl T.m_Rows rfl) pa_nil))) (pa_cons (pe_callB (call_isinstCK K) rfl T.z_isinstance bt_isinstance (pa_cons (pv 3) (pa_cons (pe_glob (v := .ref A.c_Back) rfl T.m_Back rfl) pa_nil))) (pa_cons (pe_callB (call_isinstCK K) rfl T.z_isinstance bt_isinstance (pa_cons (pv 3) (pa_cons (pe_glob (v := .ref A.c_Lost) rfl T.m_Lost rfl) pa_nil))) pa_nil))))))
      (pss_cons (ps_if (pt_val (pe_callB (call_anyK K rfl) rfl T.z_any bt_any (pa_cons (pv 4) pa_nil))) (pss_one (ps_ret pe_bl)) pss_nil)
      (pss_cons (ps_if (pt_val (pe_callB (call_isinstCK K) rfl T.z_isinstance bt_isinstance (pa_cons (pv 3) (pa_cons (pe_glob (v := .ref A.c_Alike) rfl T.m_Alike rfl) pa_nil)))) (pss_one (ps_ret (pe_and (pe_call G_law_led (hr.mono (by decide)) rfl T.m_law_led T.F_law_led.kp T.b_law_led .nil pass0 (pa_cons (pv 0) (pa_cons (pv 1) (pa_cons (pe_fldK K (pv 3)) pa_nil)))) (pe_one (pe_call G_law_led (hr.mono (by decide)) rfl T.m_law_led T.F_law_led.kp T.b_law_led .nil pass0 (pa_cons (pv 1) (pa_cons (pv 0) (pa_cons (pe_fldK K (pv 3)) pa_nil)))))))) pss_nil)
      (pss_cons (ps_if (PW.pt (pw_or (pt_not (pt_val (pe_call G_law_numbers (hr.mono (by decide)) rfl T.m_law_numbers T.F_law_numbers.kp T.b_law_numbers .nil pass0 (pa_cons (pe_lst (pa_cons (pe_fldK K (pv 3)) pa_nil)) (pa_cons pe_int pa_nil))))) (pw_or1 (pt_not (pt_val (pe_call G_law_numbers (hr.mono (by decide)) rfl T.m_law_numbers T.F_law_numbers.kp T.b_law_numbers .nil pass0 (pa_cons (pe_lst (pa_cons (pe_fldK K (pv 3)) pa_nil)) (pa_cons (pe_callB (call_lenK K) rfl T.z_len bt_len (pa_cons (pe_ix (ix_listK K) (pe_lst (pa_cons (pv 0) (pa_cons (pv 1) pa_nil))) (pe_fldK K (pv 3)) (fun _ _ => rfl)) pa_nil)) pa_nil)))))))) (pss_one (ps_ret pe_bl)) pss_nil)
      (pss_cons (ps_asg (pe_ix (ix_listK K) (pe_ix (ix_listK K) (pe_lst (pa_cons (pv 0) (pa_cons (pv 1) pa_nil))) (pe_fldK K (pv 3)) (fun _ _ => rfl)) (pe_fldK K (pv 3)) (fun _ _ => rfl)) (pg_tupK K (n := 2) rfl (pgs_cons (pg_name (i := 5) sc_law_right.nd rfl (Or.inl rfl)) (pgs_cons (pg_name (i := 6) sc_law_right.nd rfl (Or.inl rfl)) pgs_nil))))
      (pss_one (ps_ret (pe_call G_law_rows (hr.mono (by decide)) rfl T.m_law_rows T.F_law_rows.kp T.b_law_rows .nil pass0 (pa_cons (pe_ix (ix_listK K) (pe_lst (pa_cons (pv 1) (pa_cons (pv 0) pa_nil))) (pe_fldK K (pv 3)) (fun _ _ => rfl)) (pa_cons (pv 2) (pa_cons (pv 5) (pa_cons (pv 6) (pa_cons (pe_fldK K (pv 3)) (pa_cons (pe_fldK K (pv 3)) pa_nil))))))))))))))), ?_⟩
    rcases hx with ⟨a, b, S, S', ⟨⟨dx, hx⟩, hT, hT'⟩, hal, hSr, hSr'⟩ | ⟨a, b, sd, pl, r1, r2, ⟨⟨dx, hx⟩, h1, h2⟩, hap, hl1, hl2⟩
    · have ty : ∀ H', Same H H' → TyOf K H' (.ref x) (.ref A.c_Alike) := fun H' s' => T.ty_Alike.ty T.cl_Alike (s' _ _ hx)
      have t0 := ty H (Same.refl _)
      refine ⟨_, rfl, _, _, _, true, rfl, t0, T.ki_Alike_Answer, true, rfl, iteF ?_⟩
      refine ⟨_, rfl, _, _, _, true, rfl, t0, T.ki_Alike_Alike, _, rfl, _, _, _, false, rfl, t0, T.ki_Alike_Apart, rfl, false, rfl, iteF ?_⟩
      refine ⟨_, rfl, _, _, _, false, rfl, t0, T.ki_Alike_Steps, _, rfl, _, _, _, false, rfl, t0, T.ki_Alike_Rows, _, rfl, _, _, _, false, rfl, t0, T.ki_Alike_Back, _, rfl, _, _, _, false, rfl, t0, T.ki_Alike_Lost, by show 4 ≤ sizeLine; decide, fun q hq => ?_⟩
      have sq : Same H (upd H q (.lst [.bl false, .bl false, .bl false, .bl false])) := Same.new hq
      refine ⟨_, rfl, q, [false, false, false, false], rfl, SqL.of upd_same, _, rfl, iteF ?_⟩
      refine ⟨_, rfl, _, _, _, true, rfl, ty _ sq, T.ki_Alike_Alike, true, rfl, iteT ?_⟩
      generalize upd H q (.lst [.bl false, .bl false, .bl false, .bl false]) = H1 at sq ⊢
      unfold alikeB at hal
      rw [Bool.and_eq_true] at hal
      refine ⟨_, rfl, _, rfl, _, rfl, x, A.c_Alike, dx, _, _, rfl, sq _ _ hx, T.cl_Alike, T.na_Alike_there, fldK_there _ _, l, m, a, qs, ps, S, rfl, hP.same sq, hPm.same sq, hT.same sq, hG.2.2.1, fun y hy => by have := hSr y hy; omega, hal.1, fun H2 s2 => ⟨true, rfl, iteT ?_⟩⟩
      have s02 := sq.trans s2
      exact ⟨_, rfl, _, rfl, _, rfl, x, A.c_Alike, dx, _, _, rfl, s02 _ _ hx, T.cl_Alike, T.na_Alike_back, fldK_back _ _, m, l, b, ps, qs, S', rfl, hPm.same s02, hP.same s02, hT'.same s02, hG'.2.2.1, fun y hy => by have := hSr' y hy; omega, hal.2, fun H3 s3 => k H3 (s02.trans s3)⟩
    · have ty : ∀ H', Same H H' → TyOf K H' (.ref x) (.ref A.c_Apart) := fun H' s' => T.ty_Apart.ty T.cl_Apart (s' _ _ hx)
      have t0 := ty H (Same.refl _)
      refine ⟨_, rfl, _, _, _, true, rfl, t0, T.ki_Apart_Answer, true, rfl, iteF ?_⟩
      refine ⟨_, rfl, _, _, _, false, rfl, t0, T.ki_Apart_Alike, _, rfl, _, _, _, true, rfl, t0, T.ki_Apart_Apart, rfl, false, rfl, iteF ?_⟩
      refine ⟨_, rfl, _, _, _, false, rfl, t0, T.ki_Apart_Steps, _, rfl, _, _, _, false, rfl, t0, T.ki_Apart_Rows, _, rfl, _, _, _, false, rfl, t0, T.ki_Apart_Back, _, rfl, _, _, _, false, rfl, t0, T.ki_Apart_Lost, by show 4 ≤ sizeLine; decide, fun q hq => ?_⟩
      have sq : Same H (upd H q (.lst [.bl false, .bl false, .bl false, .bl false])) := Same.new hq
      refine ⟨_, rfl, q, [false, false, false, false], rfl, SqL.of upd_same, _, rfl, iteF ?_⟩
      refine ⟨_, rfl, _, _, _, false, rfl, ty _ sq, T.ki_Apart_Alike, false, rfl, iteF ?_⟩
      generalize upd H q (.lst [.bl false, .bl false, .bl false, .bl false]) = H1 at sq ⊢
      obtain ⟨pr, hsd, epr, hlr⟩ := ap_true hap
      have hGo1 : Good c (if sd = 0 then ps else qs) := by split <;> assumption
      have hGo2 : Good c (if sd = 0 then qs else ps) := by split <;> assumption
      have hprm := hGo1.2.2.2 pr (List.mem_of_getElem? epr)
      have h64 : 2 ^ c ≤ 64 := Nat.pow_le_pow_right (by decide) hG.2.1
      have hc6 := hG.2.1
      obtain ⟨v1, v2, ev1, ev2, hP1, hP2⟩ : ∃ v1 v2 : Addr, ([V.ref l, V.ref m] : List V)[sd]? = some (.ref v1) ∧ ([V.ref m, V.ref l] : List V)[sd]? = some (.ref v2) ∧ PrsAt H v1 (if sd = 0 then ps else qs) ∧ PrsAt H v2 (if sd = 0 then qs else ps) := by
        have h : sd = 0 ∨ sd = 1 := by omega
        rcases h with rfl | rfl
        · exact ⟨l, m, rfl, rfl, hP, hPm⟩
        · exact ⟨m, l, rfl, rfl, hPm, hP⟩
      refine ⟨_, rfl, x, A.c_Apart, dx, _, _, rfl, sq _ _ hx, T.cl_Apart, T.na_Apart_side, fldP_side _ _ _ _, by show 1 ≤ sizeLine; decide, fun q1 hq1 => ⟨q1, [sd], 2, rfl, upd_same, by show 1 ≤ 900; decide, fun H2 s2 => ⟨_, rfl, ?_⟩⟩⟩
      rw [show ltB 2 [sd] = true by unfold ltB; simp; omega]
      have s02 := sq.trans ((Same.new hq1).trans s2)
      refine iteF ⟨_, rfl, x, A.c_Apart, dx, _, _, rfl, s02 _ _ hx, T.cl_Apart, T.na_Apart_place, fldP_place _ _ _ _, by show 1 ≤ sizeLine; decide, fun q2 hq2 => ⟨_, rfl, _, rfl, by show 2 ≤ sizeLine; decide, fun q3 hq3 => ?_⟩⟩
      have s3 : Same H2 (upd H2 q2 (.lst [.int (pl : Nat)])) := Same.new hq2
      have k2 : (upd H2 q2 (.lst [.int (pl : Nat)])) q2 = some (.lst (nums [pl])) := upd_same
      generalize upd H2 q2 (.lst [.int (pl : Nat)]) = H3 at s3 k2 hq3 ⊢
      have s4 : Same H3 (upd H3 q3 (.lst [.ref l, .ref m])) := Same.new hq3
      have k3 : (upd H3 q3 (.lst [.ref l, .ref m])) q3 = some (.lst [.ref l, .ref m]) := upd_same
      generalize upd H3 q3 (.lst [.ref l, .ref m]) = H4 at s4 k3 ⊢
      have s04 := s02.trans (s3.trans s4)
      obtain ⟨t1, hv1, ht1⟩ := hP1.same s04
      have hlt : (t1.map V.ref).length = (if sd = 0 then ps else qs).length := by rw [List.length_map]; exact ht1.len
      have hpl : pl < (if sd = 0 then ps else qs).length := (List.getElem?_eq_some_iff.mp epr).1
      refine ⟨_, rfl, x, A.c_Apart, dx, _, _, rfl, s04 _ _ hx, T.cl_Apart, T.na_Apart_side, fldP_side _ _ _ _, q3, _, (sd : Int), _, rfl, rfl, SqL.of k3, atI_nat ev1, v1, _, rfl, .inl (SqL.of hv1), q2, [pl], (t1.map V.ref).length, rfl, s4 _ _ k2, by show 1 ≤ 900; decide, fun H5 s5 => ⟨_, rfl, ?_⟩⟩
      rw [show ltB (t1.map V.ref).length [pl] = true by unfold ltB; rw [hlt]; simp only [List.all_cons, List.all_nil, Bool.and_true, decide_eq_true_eq]; exact hpl]
      refine iteF ?_
      have s05 := s04.trans s5
      refine ⟨_, rfl, _, rfl, by show 2 ≤ sizeLine; decide, fun q4 hq4 => ?_⟩
      have s6 : Same H5 (upd H5 q4 (.lst [.ref l, .ref m])) := Same.new hq4
      have k4 : (upd H5 q4 (.lst [.ref l, .ref m])) q4 = some (.lst [.ref l, .ref m]) := upd_same
      generalize upd H5 q4 (.lst [.ref l, .ref m]) = H6 at s6 k4 ⊢
      have s06 := s05.trans s6
      have hv16 := s6 _ _ (s5 _ _ hv1)
      have ht16 := (ht1.same s5).same s6
      have hpt : pl < t1.length := by rw [ht1.len]; exact hpl
      have hget : (t1.map V.ref)[pl]? = some (.ref t1[pl]) := by rw [List.getElem?_map, List.getElem?_eq_getElem hpt]; rfl
      obtain ⟨t, pr', et, epr', ht⟩ := ht16.get hget
      rw [et] at hget
      rw [epr] at epr'
      cases epr'
      refine ⟨_, rfl, x, A.c_Apart, dx, _, _, rfl, s06 _ _ hx, T.cl_Apart, T.na_Apart_side, fldP_side _ _ _ _, q4, _, (sd : Int), _, rfl, rfl, SqL.of k4, atI_nat ev1, _, rfl, x, A.c_Apart, dx, _, _, rfl, s06 _ _ hx, T.cl_Apart, T.na_Apart_place, fldP_place _ _ _ _, v1, _, (pl : Int), _, rfl, rfl, SqL.of hv16, atI_nat hget, t, _, rfl, SqT.of ht, rfl, _, _, rfl, _, _, rfl, rfl, ?_⟩
      refine ⟨_, rfl, _, rfl, by show 2 ≤ sizeLine; decide, fun q5 hq5 => ?_⟩
      have s7 : Same H6 (upd H6 q5 (.lst [.ref m, .ref l])) := Same.new hq5
      have k5 : (upd H6 q5 (.lst [.ref m, .ref l])) q5 = some (.lst [.ref m, .ref l]) := upd_same
      generalize upd H6 q5 (.lst [.ref m, .ref l]) = H7 at s7 k5 ⊢
      have s07 := s06.trans s7
      refine ⟨_, rfl, x, A.c_Apart, dx, _, _, rfl, s07 _ _ hx, T.cl_Apart, T.na_Apart_side, fldP_side _ _ _ _, q5, _, (sd : Int), _, rfl, rfl, SqL.of k5, atI_nat ev2, _, rfl, _, rfl, _, rfl, _, rfl, x, A.c_Apart, dx, _, _, rfl, s07 _ _ hx, T.cl_Apart, T.na_Apart_one, fldP_one _ _ _ _, _, rfl, x, A.c_Apart, dx, _, _, rfl, s07 _ _ hx, T.cl_Apart, T.na_Apart_other, fldP_other _ _ _ _, v2, a, b, c, pr.1, pr.2, (if sd = 0 then qs else ps), r1, r2, rfl, hc6, hP2.same s07, hGo2.2.2.1, (fun p hp => ⟨by have := (hGo2.2.2.2 p hp).1; omega, by have := (hGo2.2.2.2 p hp).2; omega⟩), s07 _ _ h1, s07 _ _ h2, by omega, by omega, by omega, by omega, fun H8 s8 => ?_⟩
      rw [hlr]
      exact k H8 (s07.trans s8)
end
end K05

namespace K05
open PySem L2 TC
theorem cut_to (xs : List V) (i : Nat) (h : i ≤ xs.length) : cutV xs none (some (i : Int)) = xs.take i := by
  unfold cutV
  rw [HT.sIx_none, HT.sIx_nat, List.drop_zero, Nat.sub_zero, Nat.min_eq_left h]
theorem cut_from (xs : List V) (i : Nat) (h : i + 1 ≤ xs.length) : cutV xs (some ((i : Int) + 1)) none = xs.drop (i + 1) := by
  unfold cutV
  have e : ((i : Int) + 1) = ((i + 1 : Nat) : Int) := by omega
  rw [e, HT.sIx_none, HT.sIx_nat, Nat.min_eq_left h]
  exact List.take_of_length_le (by rw [List.length_drop]; omega)
theorem Tps.app {H : Hp} : ∀ {ts us : List Addr} {ps qs : List (Nat × Nat)}, Tps H ts ps → Tps H us qs → Tps H (ts ++ us) (ps ++ qs)
  | [], _, [], _, _, h => h
  | _ :: _, _, _ :: _, _, ⟨h, t⟩, g => ⟨h, Tps.app t g⟩
  | [], _, _ :: _, _, h, _ => h.elim
  | _ :: _, _, [], _, h, _ => h.elim
theorem Tps.take {H : Hp} : ∀ {ts : List Addr} {ps : List (Nat × Nat)} (n : Nat), Tps H ts ps → Tps H (ts.take n) (ps.take n)
  | [], [], 0, _ => trivial
  | _ :: _, _ :: _, 0, _ => trivial
  | [], [], _ + 1, _ => trivial
  | _ :: _, _ :: _, n + 1, ⟨h, t⟩ => ⟨h, Tps.take n t⟩
  | [], _ :: _, _, h => h.elim
  | _ :: _, [], _, h => h.elim
theorem Tps.drop {H : Hp} : ∀ {ts : List Addr} {ps : List (Nat × Nat)} (n : Nat), Tps H ts ps → Tps H (ts.drop n) (ps.drop n)
  | _, _, 0, h => h
  | [], [], _ + 1, _ => trivial
  | _ :: _, _ :: _, n + 1, ⟨_, t⟩ => Tps.drop n t
  | [], _ :: _, _ + 1, h => h.elim
  | _ :: _, [], _ + 1, h => h.elim
theorem Tps.rev {H : Hp} : ∀ {ts : List Addr} {ps : List (Nat × Nat)}, Tps H ts ps → Tps H ts.reverse ps.reverse
  | [], [], _ => trivial
  | t :: ts, q :: L, ⟨h, r⟩ => by
    rw [List.reverse_cons, List.reverse_cons]
    exact Tps.app (Tps.rev r) ⟨h, trivial⟩
  | [], _ :: _, h => h.elim
  | _ :: _, [], h => h.elim
def sp_lother : Sp := fun vs H Q _ => ∃ (l : Addr) (c : Nat) (cell : Int) (ps : List (Nat × Nat)), vs = [.ref l, .int (c : Nat), .int cell] ∧ PrsAt H l ps ∧ ps.length ≤ 6 ∧ c ≤ 6 ∧ (∀ p ∈ ps, p.1 < 2 ^ c ∧ p.2 < 2 ^ c) ∧
  ∀ (d : Addr) (qs : List (Nat × Nat)) (H' : Hp), H d = none → Same H H' → PrsAt H' d qs → qs.length ≤ 7 → (∀ q ∈ qs, q.1 < 2 ^ c ∧ q.2 < 2 ^ c) → Q (.ref d) H'
section
variable {P : Program} {w : World} {K : PySem.W.Frag} {mg : Str → Option Value} {base : Heap} {A : Adr}
theorem ok_law_other (T : Txt K mg A) : FnOk P w K mg base CX0 7 A.f_law_other A.d_law_other ["_law_pairs_here", "_law_columns", "_law_cell"] sp_lother := by
  have G_law_pairs := ok_law_pairs (P := P) (w := w) (base := base) T
  have G_law_set := ok_law_set (P := P) (w := w) (base := base) T
  have G_law_told := ok_law_told (P := P) (w := w) (base := base) T
  refine T.F_law_other.ok sc_law_other (fun vs H Q E h => ?_) (fun cdv A' outer s H vs Q E hr h => ?_)
  · obtain ⟨l, c, cell, ps, rfl, _⟩ := h; rfl
  · obtain ⟨l, c, cell, ps, rfl, hP, hp6, hc6, hps, k⟩ := h
    obtain ⟨ts, hl, htp⟩ := id hP
    have hln : (ts.map V.ref).length = ps.length := by rw [List.length_map]; exact htp.len
    have hps2 : ∀ p ∈ ps, p.2 < 2 ^ c := fun p hp => (hps p hp).2
    refine ⟨_, (pss_cons (ps_set (i := 3) sc_law_other.nd rfl (Or.inl rfl) (pe_op op_mod (pv 2) pe_int))
      (pss_cons (ps_if (pt_cmpR op_eq (pv 3) pe_int (nomark _)) (pss_one (ps_ret (pe_call G_law_pairs (hr.mono (by decide)) rfl T.m_law_pairs T.F_law_pairs.kp T.b_law_pairs .nil pass0 (pa_cons (pe_op op_fdiv (pv 2) pe_int) (pa_cons (pv 1) (pa_cons pe_int pa_nil)))))) pss_nil)
      (pss_cons (ps_if (PW.pt (pw_and (pt_cmpR op_eq (pv 3) pe_int (nomark _)) (pw_and1 (pt_cmpR (op_neD hr.units) (pv 0) (pe_lst pa_nil) (nomark _))))) (pss_cons (ps_set (i := 4) sc_law_other.nd rfl (Or.inl rfl) (pe_op op_mod (pe_op op_fdiv (pv 2) pe_int) (pe_callB (call_lenK K) rfl T.z_len bt_len (pa_cons (pv 0) pa_nil))))
      (pss_one (ps_ret (pe_op op_cat (pe_slice (sl_listK K) (pv 0) po_none (po_some (pv 4))) (pe_slice (sl_listK K) (pv 0) (po_some (pe_op op_add (pv 4) pe_int)) po_none))))) pss_nil)
      (pss_cons (ps_set (i := 5) sc_law_other.nd rfl (Or.inl rfl) (pe_call G_law_set (hr.mono (by decide)) rfl T.m_law_set T.F_law_set.kp T.b_law_set .nil pass0 (pa_cons (pe_op op_fdiv (pv 2) pe_int) (pa_cons (pv 1) pa_nil))))
      (pss_one (ps_ret (pe_op op_cat (pe_revK K (pv 0) (po_some (pe_un un_neg pe_int))) (pe_lst (pa_cons (pe_tup (pa_cons (pv 5) (pa_cons (pe_call G_law_told (hr.mono (by decide)) rfl T.m_law_told T.F_law_told.kp T.b_law_told .nil pass0 (pa_cons (pv 0) (pa_cons (pv 5) pa_nil))) pa_nil))) pa_nil))))))))), ?_⟩
    refine ⟨_, rfl, cell, 4, rfl, rfl, (by show (0 : Int) < 4; decide), ?_⟩
    refine ⟨_, rfl, rfl, _, rfl, ?_⟩
    refine ite2 (fun _ => ?_) (fun _ => ?_)
    · refine ⟨_, rfl, cell, 4, rfl, rfl, ⟨by decide, by decide⟩, _, rfl, _, c, 6, rfl, hc6, by decide, fun d qs H1 hd s1 hQ hql hqs => ?_⟩
      exact k d qs H1 hd s1 hQ (by omega) hqs
    -- the last two rows
    suffices rest : ∀ (H1 : Hp) (o4 : Option V), Same H H1 → tSeq _ _ { nx := fun x H' => Q V.non H', rt := Q } [some (.ref l), some (.int (c : Nat)), some (.int cell), some (.int (cell % 4)), o4, none] H1 by
      refine ⟨_, rfl, rfl, _, rfl, ?_⟩
      refine ite2 (fun _ => ?_) (fun _ => ?_)
      · refine ⟨_, rfl, Nat.zero_le _, fun z hz => ?_⟩
        have s1 : Same H (upd H z (.lst [])) := Same.new hz
        have dP : (PyData.list (ps.map pairD)).depth ≤ 60 := by
          show PyData.depthAll (ps.map pairD) + 1 ≤ 60
          have := depth_pairs ps
          omega
        refine ⟨.list (ps.map pairD), .list (([] : List (Nat × Nat)).map pairD), prs_dt (hP.same s1), .lst upd_same .nil, lay_pairs ps, rfl, dP, _, rfl, ?_⟩
        rw [if_pos rfl]
        generalize upd H z (.lst []) = H1 at s1 ⊢
        cases ps with
        | nil => exact iteF (rest H1 none s1)
        | cons p0 ps0 =>
          refine iteT ?_
          have hn0 : 0 < (p0 :: ps0).length := Nat.succ_pos _
          generalize p0 :: ps0 = ps at hP hp6 hps htp hln hps2 hn0
          refine ⟨_, rfl, cell, 4, rfl, rfl, ⟨by decide, by decide⟩, _, rfl, l, _, rfl, .inl (SqL.of (s1 _ _ hl)), _, _, rfl, rfl, ?_, ?_⟩
          · rw [hln]; show (0 : Int) < (ps.length : Int); omega
          rw [hln]
          obtain ⟨j, hj, hjl⟩ : ∃ j : Nat, cell / 4 % (ps.length : Int) = (j : Int) ∧ j < ps.length := by
            have h0 : (0 : Int) < ps.length := by omega
            have h1 := Int.emod_nonneg (cell / 4) (show (ps.length : Int) ≠ 0 by omega)
            have h2 := Int.emod_lt_of_pos (cell / 4) h0
            exact ⟨(cell / 4 % (ps.length : Int)).toNat, by omega, by omega⟩
          rw [show (fun i j : Int => V.int (i % j)) (cell / 4) (ps.length : Int) = V.int (j : Int) from congrArg V.int hj]
          have hl1 := s1 _ _ hl
          refine ⟨_, rfl, _, rfl, (j : Int), rfl, l, _, rfl, SqL.of hl1, fun g1 hg1 => ?_⟩
          have s2 : Same H1 (upd H1 g1 (.lst (cutV (ts.map V.ref) none (some (j : Int))))) := Same.new hg1
          have k1 : (upd H1 g1 (.lst (cutV (ts.map V.ref) none (some (j : Int))))) g1 = some (.lst ((ts.take j).map V.ref)) := by rw [upd_same, cut_to _ _ (by omega), List.map_take]
          generalize upd H1 g1 (.lst (cutV (ts.map V.ref) none (some (j : Int)))) = H2 at s2 k1 ⊢
          refine ⟨_, rfl, _, rfl, (j : Int), 1, rfl, rfl, _, rfl, l, _, rfl, SqL.of (s2 _ _ hl1), fun g2 hg2 => ?_⟩
          have s3 : Same H2 (upd H2 g2 (.lst (cutV (ts.map V.ref) (some ((j : Int) + 1)) none))) := Same.new hg2
          have k2 : (upd H2 g2 (.lst (cutV (ts.map V.ref) (some ((j : Int) + 1)) none))) g2 = some (.lst ((ts.drop (j + 1)).map V.ref)) := by rw [upd_same, cut_from _ _ (by omega), List.map_drop]
          generalize upd H2 g2 (.lst (cutV (ts.map V.ref) (some ((j : Int) + 1)) none)) = H3 at s3 k2 ⊢
          have hl6 : (ps.take j ++ ps.drop (j + 1)).length ≤ 7 := by rw [List.length_append, List.length_take, List.length_drop]; omega
          have htl := htp.len
          refine ⟨g1, g2, _, _, rfl, rfl, s3 _ _ k1, k2, by rw [List.length_map, List.length_map, List.length_take, List.length_drop]; exact Nat.le_of_lt (small1000 (by omega)), fun d hd => ?_⟩
          have s4 : Same H3 (upd H3 d (.lst ((ts.take j).map V.ref ++ (ts.drop (j + 1)).map V.ref))) := Same.new hd
          have s04 := s1.trans (s2.trans (s3.trans s4))
          refine k d (ps.take j ++ ps.drop (j + 1)) _ (s1.free (s2.free (s3.free hd))) s04 ⟨ts.take j ++ ts.drop (j + 1), by rw [upd_same, List.map_append], Tps.app ((htp.same s04).take j) ((htp.same s04).drop (j + 1))⟩ hl6 fun q hq => ?_
          rcases List.mem_append.mp hq with z | z
          · exact hps q (List.mem_of_mem_take z)
          · exact hps q (List.mem_of_mem_drop z)
      · exact rest H none (Same.refl _)
    intro H1 o4 s1
    refine ⟨_, rfl, cell, 4, rfl, rfl, ⟨by decide, by decide⟩, _, rfl, _, c, rfl, hc6, fun sm hsm => ?_⟩
    have hl1 := s1 _ _ hl
    refine ⟨_, rfl, (1 : Int), rfl, (-1 : Int), rfl, rfl, l, _, rfl, SqL.of hl1, fun g1 hg1 => ?_⟩
    have s2 : Same H1 (upd H1 g1 (.lst (ts.map V.ref).reverse)) := Same.new hg1
    have k1 : (upd H1 g1 (.lst (ts.map V.ref).reverse)) g1 = some (.lst (ts.reverse.map V.ref)) := by rw [upd_same, List.map_reverse]
    generalize upd H1 g1 (.lst (ts.map V.ref).reverse) = H2 at s2 k1 ⊢
    have s02 := s1.trans s2
    refine ⟨_, rfl, _, rfl, _, rfl, l, sm, ps, rfl, hP.same s02, by show 2 ≤ sizeLine; decide, fun t ht => ⟨by show 1 ≤ sizeLine; decide, fun g2 hg2 => ?_⟩⟩
    have s3 : Same H2 (upd H2 t (.tup [.int (sm : Nat), .int (cl ps sm : Nat)])) := Same.new ht
    have k3 : (upd H2 t (.tup [.int (sm : Nat), .int (cl ps sm : Nat)])) t = some (.tup [.int (sm : Nat), .int (cl ps sm : Nat)]) := upd_same
    generalize upd H2 t (.tup [.int (sm : Nat), .int (cl ps sm : Nat)]) = H3 at s3 k3 hg2 ⊢
    have s4 : Same H3 (upd H3 g2 (.lst [.ref t])) := Same.new hg2
    have k4 : (upd H3 g2 (.lst [.ref t])) g2 = some (.lst [.ref t]) := upd_same
    generalize upd H3 g2 (.lst [.ref t]) = H4 at s4 k4 ⊢
    have htl := htp.len
    refine ⟨g1, g2, _, _, rfl, rfl, s4 _ _ (s3 _ _ k1), k4, by rw [List.length_map, List.length_reverse]; exact Nat.le_of_lt (small1000 (by show ts.length + 1 ≤ 1000; omega)), fun d hd => ?_⟩
    have s5 : Same H4 (upd H4 d (.lst (ts.reverse.map V.ref ++ [.ref t]))) := Same.new hd
    have s05 := s02.trans (s3.trans (s4.trans s5))
    refine k d (ps.reverse ++ [(sm, cl ps sm)]) _ (s02.free (s3.free (s4.free hd))) s05 ⟨ts.reverse ++ [t], by rw [upd_same, List.map_append]; rfl, Tps.app (htp.same s05).rev ⟨s5 _ _ (s4 _ _ k3), trivial⟩⟩ (by rw [List.length_append, List.length_reverse]; show ps.length + 1 ≤ 7; omega) fun q hq => ?_
    rcases List.mem_append.mp hq with z | z
    · exact hps q (List.mem_reverse.mp z)
    · rw [List.mem_singleton.mp z]; exact ⟨hsm, cl_lt hps2 hsm⟩
end
end K05

namespace K05
open PySem L2 TC
def sp_law (K : PySem.W.Frag) : Sp := fun vs H Q _ => ∃ (a : Addr) (ns : List Int), vs = [.ref a] ∧ SqL K H a (ns.map V.int) ∧ ns.length ≤ 63 ∧ ∀ H', Q (.bl true) H'
def sp_unlike (CR : Addr) : Sp := fun vs H Q _ => ∃ (p m p' m' : Addr) (c c' : Nat) (ps qs : List (Nat × Nat)), vs = [.ref p, .ref p'] ∧ RulesAt CR H p m c ps ∧ Good c ps ∧ RulesAt CR H p' m' c' qs ∧ Good c' qs ∧ c ≠ c' ∧ ∀ H', Same H H' → Q (.bl true) H'
/-- what stands through the law -/
structure Main (K : PySem.W.Frag) (C : Addr) (a l l' x m x' m' : Addr) (ns : List Int) (c : Nat) (ps qs : List (Nat × Nat)) (H : Hp) : Prop where
  sc : SqL K H a (ns.map V.int)
  pr : PrsAt H l ps
  pq : PrsAt H l' qs
  ru : RulesAt C H x m c ps
  rq : RulesAt C H x' m' c qs
theorem Main.same {K : PySem.W.Frag} {C a l l' x m x' m' : Addr} {ns : List Int} {c : Nat} {ps qs : List (Nat × Nat)} {H H' : Hp} (M : Main K C a l l' x m x' m' ns c ps qs H) (e : Same H H') : Main K C a l l' x m x' m' ns c ps qs H' := ⟨e.seq M.sc, M.pr.same e, M.pq.same e, M.ru.same e, M.rq.same e⟩
theorem alike_more {ps qs : List (Nat × Nat)} {S S' : List (List Nat)} (h : alikeB ps qs S S' = true) : alikeB ps qs (S ++ [[]]) S' = false := by
  unfold alikeB allB at h
  rw [Bool.and_eq_true, Bool.and_eq_true, decide_eq_true_iff] at h
  unfold alikeB allB
  have h1 := h.1.1
  have h2 : ¬ (S ++ [([] : List Nat)]).length = ps.length := by
    rw [List.length_append]
    show ¬ S.length + 1 = _
    omega
  rw [decide_eq_false h2]
  rfl
theorem apart_clear {c : Nat} {ps qs : List (Nat × Nat)} {sd pl : Nat} {r2 : List Nat} (hc : 1 ≤ c) : apartB c ps qs sd pl [] r2 = false := by
  cases e : apartB c ps qs sd pl [] r2 with
  | false => rfl
  | true =>
    obtain ⟨pr, _, _, h⟩ := ap_true e
    unfold lrB at h
    rw [Bool.and_eq_true] at h
    have h1 := h.1
    unfold rowB at h1
    simp at h1
    omega
theorem apart_self {c : Nat} {ps : List (Nat × Nat)} {sd pl : Nat} {r1 r2 : List Nat} (h : apartB c ps ps sd pl r1 r2 = true) : False := by
  obtain ⟨pr, _, e, h⟩ := ap_true h
  rw [show (if sd = 0 then ps else ps) = ps by split <;> rfl] at e h
  unfold lrB at h
  simp only [Bool.and_eq_true, decide_eq_true_eq, Bool.not_eq_true', decide_eq_false_iff_not, List.all_eq_true] at h
  obtain ⟨_, _, hk, h1, h2⟩ := h
  exact h2 (hk pr (List.mem_of_getElem? e) r1 (by simp) r2 (by simp) h1)
section
variable {P : Program} {w : World} {K : PySem.W.Frag} {mg : Str → Option Value} {base : Heap} {A : Adr}
theorem ok_law_of (T : Txt K mg A) (G_law_unlike : FnOk P w K mg base CX0 11 A.f_law_unlike A.d_law_unlike ["_law_one", "_law_other_here"] (sp_unlike A.c_Rules)) : FnOk P w K mg base CX0 13 A.f_law A.d_law ["_law_script"] (sp_law K) := by
  have G_law_cell_at := ok_law_cell_at (P := P) (w := w) (base := base) T
  have G_law_pairs := ok_law_pairs (P := P) (w := w) (base := base) T
  have G_law_other := ok_law_other (P := P) (w := w) (base := base) T
  have G_law_right := ok_law_right (P := P) (w := w) (base := base) T
  have G_Rules_init := ok_Rules_init (P := P) (w := w) (base := base) T
  have G_alike := ok_alike (P := P) (w := w) (base := base) T
  have G_Alike_shows := ok_Alike_shows (P := P) (w := w) (base := base) T
  have G_Apart_shows := ok_Apart_shows (P := P) (w := w) (base := base) T
  refine T.F_law.ok sc_law (fun vs H Q E h => ?_) (fun cdv A' outer s H vs Q E hr h => ?_)
  · obtain ⟨a, ns, rfl, _⟩ := h; rfl
  · obtain ⟨a, ns, rfl, hS, hlen, k⟩ := h
    refine ⟨_, (pss_cons (ps_set (i := 1) sc_law.nd rfl (Or.inl rfl) (pe_ix (ix_tupK K) (pe_tup (pa_cons pe_int (pa_cons pe_int (pa_cons pe_int (pa_cons pe_int (pa_cons pe_int (pa_cons pe_int (pa_cons pe_int (pa_cons pe_int pa_nil))))))))) (pe_op op_mod (pe_call G_law_cell_at (hr.mono (by decide)) rfl T.m_law_cell_at T.F_law_cell_at.kp T.b_law_cell_at .nil pass0 (pa_cons (pv 0) (pa_cons pe_int pa_nil))) pe_int) (fun _ _ => rfl)))
      (pss_cons (ps_set (i := 2) sc_law.nd rfl (Or.inl rfl) (pe_call G_law_pairs (hr.mono (by decide)) rfl T.m_law_pairs T.F_law_pairs.kp T.b_law_pairs .nil pass0 (pa_cons (pe_call G_law_cell_at (hr.mono (by decide)) rfl T.m_law_cell_at T.F_law_cell_at.kp T.b_law_cell_at .nil pass0 (pa_cons (pv 0) (pa_cons pe_int pa_nil))) (pa_cons (pv 1) (pa_cons pe_int pa_nil)))))
      (pss_cons (ps_set (i := 3) sc_law.nd rfl (Or.inl rfl) (pe_call G_law_other (hr.mono (by decide)) rfl T.m_law_other T.F_law_other.kp T.b_law_other .nil pass0 (pa_cons (pv 2) (pa_cons (pv 1) (pa_cons (pe_call G_law_cell_at (hr.mono (by decide)) rfl T.m_law_cell_at T.F_law_cell_at.kp T.b_law_cell_at .nil pass0 (pa_cons (pv 0) (pa_cons pe_int pa_nil))) pa_nil)))))
      (pss_cons (ps_par (i := 4) (j := 5) rfl sc_law.nd rfl rfl (by decide) rfl rfl (pa_cons (pe_make T.mk_Rules G_Rules_init (hr.mono (by decide)) rfl T.m_Rules T.b_Rules_init .nil pass0 (pa_cons (pv 1) (pa_cons (pv 2) pa_nil))) (pa_cons (pe_make T.mk_Rules G_Rules_init (hr.mono (by decide)) rfl T.m_Rules T.b_Rules_init .nil pass0 (pa_cons (pv 1) (pa_cons (pv 3) pa_nil))) pa_nil)) rfl)
      (pss_cons (ps_for PassesOwn.never rfl (pi_range1 rfl T.z_range (pa_cons pe_int pa_nil)) (pg_name (i := 6) sc_law.nd rfl (Or.inl rfl))
      (pss_cons (ps_set (i := 7) sc_law.nd rfl (Or.inl rfl) (pe_call G_alike (hr.mono (by decide)) rfl T.m_alike T.F_alike.kp T.b_alike .nil pass0 (pa_cons (pv 4) (pa_cons (pv 5) pa_nil))))
      (pss_cons (ps_if (PW.pt (pw_or (pt_not (pt_val (pe_call G_law_right (hr.mono (by decide)) rfl T.m_law_right T.F_law_right.kp T.b_law_right .nil pass0 (pa_cons (pv 2) (pa_cons (pv 3) (pa_cons (pv 1) (pa_cons (pv 7) pa_nil))))))) (pw_or1 (pt_cmpR op_isntB (pe_either (pe_meth (pv 7) T.cl_Alike T.mt_Alike_shows G_Alike_shows (hr.mono (by decide)) T.b_Alike_shows .nil pass0 (pa_cons (pv 4) (pa_cons (pv 5) pa_nil))) (pe_meth (pv 7) T.cl_Apart T.mt_Apart_shows G_Apart_shows (hr.mono (by decide)) T.b_Apart_shows .nil pass0 (pa_cons (pv 4) (pa_cons (pv 5) pa_nil)))) pe_bl (nomark _))))) (pss_one (ps_ret pe_bl)) pss_nil)
      (pss_cons (ps_if (pt_val (pe_callB (call_isinstCK K) rfl T.z_isinstance bt_isinstance (pa_cons (pv 7) (pa_cons (pe_glob (v := .ref A.c_Alike) rfl T.m_Alike rfl) pa_nil)))) (pss_one (ps_expr (pe_appendK K (pe_fldK K (pv 7)) (pa_cons (pe_lst pa_nil) pa_nil)))) (pss_one (ps_expr (pe_clearK K (pe_fldK K (pv 7))))))
      (pss_one (ps_if (pt_cmpR op_isntB (pe_either (pe_meth (pv 7) T.cl_Alike T.mt_Alike_shows G_Alike_shows (hr.mono (by decide)) T.b_Alike_shows .nil pass0 (pa_cons (pv 4) (pa_cons (pv 5) pa_nil))) (pe_meth (pv 7) T.cl_Apart T.mt_Apart_shows G_Apart_shows (hr.mono (by decide)) T.b_Apart_shows .nil pass0 (pa_cons (pv 4) (pa_cons (pv 5) pa_nil)))) pe_bl (nomark _)) (pss_one (ps_ret pe_bl)) pss_nil))))))
      (pss_cons (ps_if (pt_not (pt_val (pe_call G_law_right (hr.mono (by decide)) rfl T.m_law_right T.F_law_right.kp T.b_law_right .nil pass0 (pa_cons (pv 3) (pa_cons (pv 2) (pa_cons (pv 1) (pa_cons (pe_call G_alike (hr.mono (by decide)) rfl T.m_alike T.F_alike.kp T.b_alike .nil pass0 (pa_cons (pv 5) (pa_cons (pv 4) pa_nil))) pa_nil))))))) (pss_one (ps_ret pe_bl)) pss_nil)
      (pss_one (ps_ret (pe_and (pe_call G_law_unlike (hr.mono (by decide)) rfl T.m_law_unlike T.F_law_unlike.kp T.b_law_unlike .nil pass0 (pa_cons (pv 4) (pa_cons (pe_make T.mk_Rules G_Rules_init (hr.mono (by decide)) rfl T.m_Rules T.b_Rules_init .nil pass0 (pa_cons (pe_op op_add pe_int (pe_op op_mod (pv 1) pe_int)) (pa_cons (pe_lst pa_nil) pa_nil))) pa_nil))) (pe_one (pe_callB (call_isinstCK K) rfl T.z_isinstance bt_isinstance (pa_cons (pe_call G_alike (hr.mono (by decide)) rfl T.m_alike T.F_alike.kp T.b_alike .nil pass0 (pa_cons (pv 4) (pa_cons (pv 4) pa_nil))) (pa_cons (pe_glob (v := .ref A.c_Alike) rfl T.m_Alike rfl) pa_nil))))))))))))), ?_⟩
    refine ⟨by show 8 ≤ sizeLine; decide, fun tp htp0 => ⟨_, rfl, a, ns, 0, rfl, (Same.new htp0).seq hS, fun x0 => ⟨x0, 8, rfl, rfl, (by show (0 : Int) < 8; decide), ?_⟩⟩⟩
    obtain ⟨c, hc1, hc6, ec⟩ := menu x0
    refine ⟨tp, _, _, _, rfl, rfl, SqT.of upd_same, ec, ?_⟩
    have hS1 : SqL K (upd H tp (.tup [V.int 3, V.int 4, V.int 2, V.int 5, V.int 3, V.int 4, V.int 1, V.int 6])) a (ns.map V.int) := (Same.new htp0).seq hS
    generalize (upd H tp (.tup [V.int 3, V.int 4, V.int 2, V.int 5, V.int 3, V.int 4, V.int 1, V.int 6])) = H1 at hS1 ⊢
    refine ⟨_, rfl, a, ns, 1, rfl, hS1, fun x1 => ⟨_, rfl, x1, c, 6, rfl, hc6, by decide, fun l ps H2 hl s2 hP hp6 hps => ?_⟩⟩
    have hG : Good c ps := ⟨hc1, hc6, by omega, hps⟩
    refine ⟨_, rfl, _, rfl, _, rfl, a, ns, 2, rfl, s2.seq hS1, fun x2 => ⟨l, c, x2, ps, rfl, hP, hp6, hc6, hps, fun l' qs H3 hl' s3 hQ hq7 hqs => ?_⟩⟩
    have hG' : Good c qs := ⟨hc1, hc6, by omega, hqs⟩
    refine ⟨_, rfl, _, rfl, fun x dx nx ndx nex => ?_⟩
    have s4 : Same H3 (upd (upd H3 dx (.own x)) x (.ins A.c_Rules dx [])) := Same.up (Same.new ndx) nx
    refine ⟨x, dx, l, c, ps, rfl, upd_same, (hP.same s3).same s4, hG, fun m H4 hm hR kp => ⟨rfl, ?_⟩⟩
    have t4 : Same H3 H4 := fun b o e => kp b o (s4 b o e) (ne_of_none e nx)
    refine ⟨_, rfl, _, rfl, fun x' dx' nx' ndx' nex' => ?_⟩
    have s5 : Same H4 (upd (upd H4 dx' (.own x')) x' (.ins A.c_Rules dx' [])) := Same.up (Same.new ndx') nx'
    refine ⟨x', dx', l', c, qs, rfl, upd_same, (hQ.same t4).same s5, hG', fun m' H5 hm' hR' kp' => ⟨rfl, _, _, rfl, ?_⟩⟩
    have t5 : Same H4 H5 := fun b o e => kp' b o (s5 b o e) (ne_of_none e nx')
    have t35 := t4.trans t5
    have M5 : Main K A.c_Rules a l l' x m x' m' ns c ps qs H5 := ⟨(s2.trans (s3.trans t35)).seq hS1, (hP.same s3).same t35, hQ.same t35, hR.same t5, hR'⟩
    -- twice
    refine ⟨2, rfl, by decide, by decide, for_range (lo := 0) (n := 2) (fun i σ' H' => Main K A.c_Rules a l l' x m x' m' ns c ps qs H' ∧ ∃ o6 o7 : Option V, σ' = [some (.ref a), some (.int (c : Nat)), some (.ref l), some (.ref l'), some (.ref x), some (.ref x'), o6, o7]) ⟨M5, none, none, rfl⟩ ?_ ?_⟩
    · rintro i σ' H6 hi ⟨M, o6, o7, rfl⟩
      refine ⟨_, rfl, _, rfl, x, m, x', m', c, ps, qs, rfl, M.ru, hG, M.rq, hG', fun f ta tb us us' S S' H7 hf hta htb nba nau nau' s7 hfx hfa hRa hfb hRb hal hS64 hSr hSr' => ?_, fun f ta tb sd pl r1 r2 H7 hf hta htb nab s7 hAp hap hl1 hl2 => ?_⟩
      · have M7 := M.same s7
        obtain ⟨df, hf7⟩ := hfx
        refine ⟨_, rfl, _, rfl, _, rfl, _, rfl, l, l', f, c, ps, qs, rfl, M7.pr, M7.pq, hG, hG', .inl ⟨ta, tb, S, S', ⟨⟨df, hf7⟩, ⟨us, hfa, hRa⟩, ⟨us', hfb, hRb⟩⟩, hal, hSr, hSr'⟩, fun H8 s8 => ⟨_, rfl, iteF ?_⟩⟩
        have M8 := M7.same s8
        refine .inl ⟨_, rfl, f, df, _, rfl, s8 _ _ hf7, fldK_no _ _ (by decide +kernel) (by decide +kernel), _, rfl, _, rfl, f, ta, tb, x, m, x', m', c, ps, qs, S, S', rfl, ⟨⟨df, s8 _ _ hf7⟩, ⟨us, s8 _ _ hfa, hRa.same s8⟩, ⟨us', s8 _ _ hfb, hRb.same s8⟩⟩, M8.ru, hG, M8.rq, hG', fun H9 s9 => ⟨_, true, rfl, rfl, _, rfl, ?_⟩⟩
        rw [hal]
        refine iteF ?_
        have s79 := s8.trans s9
        have hf9 := s79 _ _ hf7
        have ha9 := s79 _ _ hfa
        refine ⟨_, rfl, _, _, _, true, rfl, T.ty_Alike.ty T.cl_Alike hf9, T.ki_Alike_Alike, true, rfl, iteT ?_⟩
        refine ⟨_, rfl, f, A.c_Alike, df, _, _, rfl, hf9, T.cl_Alike, T.na_Alike_there, fldK_there _ _, .inl ⟨rfl, _, SqL.of ha9⟩, Nat.zero_le _, fun e he => ?_⟩
        have s10 : Same H9 (upd H9 e (.lst [])) := Same.new he
        have ke : (upd H9 e (.lst [])) e = some (.lst (nums [])) := upd_same
        have nea : ta ≠ e := ne_of_none ha9 he
        generalize upd H9 e (.lst []) = H10 at s10 ke ⊢
        have t10 := s79.trans s10
        refine ⟨ta, _, _, rfl, rfl, t10 _ _ hfa, small1000 (by rw [List.length_map, hRa.len]; omega), ?_⟩
        have nfa : f ≠ ta := ne_of hf7 hfa (by intro z; cases z)
        have s11 : Same H6 (upd H10 ta (.lst (us.map V.ref ++ [.ref e]))) := Same.up (s7.trans t10) hta
        have hA11 : AlikeAt A.c_Alike (upd H10 ta (.lst (us.map V.ref ++ [.ref e]))) f ta tb (S ++ [[]]) S' := ⟨⟨df, by rw [upd_ne nfa]; exact t10 _ _ hf7⟩, ⟨us ++ [e], by rw [upd_same, List.map_append]; rfl, Rws.upd (Rws.snoc ke (hRa.same t10)) fun z => by
          rcases List.mem_append.mp z with z | z
          · exact nau z
          · exact nea (List.mem_singleton.mp z)⟩, ⟨us', by rw [upd_ne nba]; exact t10 _ _ hfb, Rws.upd (hRb.same t10) nau'⟩⟩
        generalize upd H10 ta (.lst (us.map V.ref ++ [.ref e])) = H11 at s11 hA11 ⊢
        have M11 := M.same s11
        obtain ⟨⟨df', hf11⟩, _⟩ := id hA11
        refine .inl ⟨_, rfl, f, df', _, rfl, hf11, fldK_no _ _ (by decide +kernel) (by decide +kernel), _, rfl, _, rfl, f, ta, tb, x, m, x', m', c, ps, qs, _, S', rfl, hA11, M11.ru, hG, M11.rq, hG', fun H12 s12 => ⟨_, false, rfl, rfl, _, rfl, ?_⟩⟩
        rw [alike_more hal]
        exact iteF ⟨M11.same s12, _, _, rfl⟩
      · have M7 := M.same s7
        obtain ⟨⟨df, hf7⟩, h1, h2⟩ := id hAp
        refine ⟨_, rfl, _, rfl, _, rfl, _, rfl, l, l', f, c, ps, qs, rfl, M7.pr, M7.pq, hG, hG', .inr ⟨ta, tb, sd, pl, r1, r2, hAp, hap, hl1, hl2⟩, fun H8 s8 => ⟨_, rfl, iteF ?_⟩⟩
        have M8 := M7.same s8
        refine .inr ⟨_, rfl, f, df, _, rfl, s8 _ _ hf7, fldP_no _ _ _ _ (by decide +kernel) (by decide +kernel) (by decide +kernel) (by decide +kernel), _, rfl, _, rfl, f, ta, tb, x, m, x', m', c, sd, pl, ps, qs, r1, r2, rfl, hAp.same s8, M8.ru, hG, M8.rq, hG', fun H9 s9 => ⟨_, true, rfl, rfl, _, rfl, ?_⟩⟩
        rw [hap]
        refine iteF ?_
        have s79 := s8.trans s9
        have hf9 := s79 _ _ hf7
        have h19 := s79 _ _ h1
        refine ⟨_, rfl, _, _, _, false, rfl, T.ty_Apart.ty T.cl_Apart hf9, T.ki_Apart_Alike, false, rfl, iteF ?_⟩
        refine ⟨_, rfl, f, A.c_Apart, df, _, _, rfl, hf9, T.cl_Apart, T.na_Apart_one, fldP_one _ _ _ _, .inl ⟨rfl, _, SqL.of h19⟩, ta, _, rfl, rfl, h19, ?_⟩
        have nfa : f ≠ ta := ne_of hf9 h19 (by intro z; cases z)
        have s11 : Same H6 (upd H9 ta (.lst [])) := Same.up (s7.trans s79) hta
        have hA11 : ApartAt A.c_Apart (upd H9 ta (.lst [])) f ta tb sd pl [] r2 := ⟨⟨df, by rw [upd_ne nfa]; exact hf9⟩, upd_same, by rw [upd_ne nab.symm]; exact s79 _ _ h2⟩
        generalize upd H9 ta (.lst []) = H11 at s11 hA11 ⊢
        have M11 := M.same s11
        obtain ⟨⟨df', hf11⟩, _⟩ := id hA11
        refine .inr ⟨_, rfl, f, df', _, rfl, hf11, fldP_no _ _ _ _ (by decide +kernel) (by decide +kernel) (by decide +kernel) (by decide +kernel), _, rfl, _, rfl, f, ta, tb, x, m, x', m', c, sd, pl, ps, qs, [], r2, rfl, hA11, M11.ru, hG, M11.rq, hG', fun H12 s12 => ⟨_, false, rfl, rfl, _, rfl, ?_⟩⟩
        rw [apart_clear hc1]
        exact iteF ⟨M11.same s12, _, _, rfl⟩
    rintro σ' H6 ⟨M, o6, o7, rfl⟩
    suffices fin : ∀ H', Same H6 H' → tSeq _ _ { nx := fun x H' => Q V.non H', rt := Q } [some (.ref a), some (.int (c : Nat)), some (.ref l), some (.ref l'), some (.ref x), some (.ref x'), o6, o7] H' by
      refine ⟨_, rfl, _, rfl, _, rfl, _, rfl, _, rfl, x', m', x, m, c, qs, ps, rfl, M.rq, hG', M.ru, hG, fun f ta tb us us' S S' H7 hf hta htb nba nau nau' s7 hfx hfa hRa hfb hRb hal hS64 hSr hSr' => ?_, fun f ta tb sd pl r1 r2 H7 hf hta htb nab s7 hAp hap hl1 hl2 => ?_⟩
      · have M7 := M.same s7
        exact ⟨l', l, f, c, qs, ps, rfl, M7.pq, M7.pr, hG', hG, .inl ⟨ta, tb, S, S', ⟨hfx, ⟨us, hfa, hRa⟩, ⟨us', hfb, hRb⟩⟩, hal, hSr, hSr'⟩, fun H8 s8 => ⟨_, rfl, iteF (fin H8 (s7.trans s8))⟩⟩
      · have M7 := M.same s7
        exact ⟨l', l, f, c, qs, ps, rfl, M7.pq, M7.pr, hG', hG, .inr ⟨ta, tb, sd, pl, r1, r2, hAp, hap, hl1, hl2⟩, fun H8 s8 => ⟨_, rfl, iteF (fin H8 (s7.trans s8))⟩⟩
    intro H7 s7
    have M7 := M.same s7
    refine ⟨_, rfl, _, rfl, (c : Int), 6, rfl, rfl, (by show (0 : Int) < 6; decide), 1, _, rfl, rfl, Nat.zero_le _, fun z hz y dy ny ndy ney => ?_⟩
    have s8 : Same H7 (upd H7 z (.lst [])) := Same.new hz
    have kz : (upd H7 z (.lst [])) z = some (.lst []) := upd_same
    generalize upd H7 z (.lst []) = H8 at s8 kz ny ndy ⊢
    have s9 : Same H8 (upd (upd H8 dy (.own y)) y (.ins A.c_Rules dy [])) := Same.up (Same.new ndy) ny
    have hG2 : Good (1 + c % 6) [] := ⟨by omega, by omega, Nat.zero_le _, fun p hp => by simp at hp⟩
    refine ⟨y, dy, z, 1 + c % 6, [], rfl, upd_same, ⟨[], s9 _ _ kz, trivial⟩, hG2, fun my H9 hmy hRy kp2 => ⟨rfl, ?_⟩⟩
    have t9 : Same H8 H9 := fun b o e => kp2 b o (s9 b o e) (ne_of_none e ny)
    have s79 := s8.trans t9
    refine ⟨x, m, y, my, c, 1 + c % 6, ps, [], rfl, M7.ru.same s79, hG, hRy, hG2, by omega, fun H10 s10 => ⟨true, rfl, iteT ?_⟩⟩
    have M10 := M7.same (s79.trans s10)
    refine ⟨_, rfl, _, rfl, x, m, x, m, c, ps, ps, rfl, M10.ru, hG, M10.ru, hG, fun f ta tb us us' S S' H11 hf hta htb nba nau nau' s11 hfx hfa hRa hfb hRb hal hS64 hSr hSr' => ?_, fun f ta tb sd pl r1 r2 H11 hf hta htb nab s11 hAp hap hl1 hl2 => (apart_self hap).elim⟩
    obtain ⟨df, hf11⟩ := hfx
    exact ⟨_, _, _, true, rfl, T.ty_Alike.ty T.cl_Alike hf11, T.ki_Alike_Alike, k _⟩
end
end K05

namespace K05
open PySem L2 TC
def sp_alikex (CU CR : Addr) : Sp := fun vs H _ E => ∃ (p m p' m' : Addr) (c c' : Nat) (ps qs : List (Nat × Nat)), vs = [.ref p, .ref p'] ∧ RulesAt CR H p m c ps ∧ RulesAt CR H p' m' c' qs ∧ c ≠ c' ∧ ∀ e, E e (some CU) H
section
variable {P : Program} {w : World} {K : PySem.W.Frag} {mg : Str → Option Value} {base : Heap} {A : Adr}
theorem ok_alike_x (T : Txt K mg A) : FnOk P w K mg base (CXE P w) 9 A.f_alike A.d_alike ["one", "other"] (sp_alikex A.c_Unlike A.c_Rules) := by
  refine T.F_alike.okE sc_alike (fun vs H Q E h => ?_) (fun cdv A' outer s H vs Q E hr h => ?_)
  · obtain ⟨p, m, p', m', c, c', ps, qs, rfl, _⟩ := h; rfl
  · obtain ⟨p, m, p', m', c, c', ps, qs, rfl, hR, hR', hne, k⟩ := h
    obtain ⟨⟨dp, hp⟩, _⟩ := id hR
    obtain ⟨⟨dp', hp'⟩, _⟩ := id hR'
    refine ⟨_, (pss_cons (ps_if (pt_cmpR op_ne (pe_fldK K (pv 0)) (pe_fldK K (pv 1)) (nomark _)) (pss_one (ps_raise (C := A.c_Unlike) rfl rfl T.m_Unlike T.xi_Unlike PySem.F.excBase_ValueError (by decide +kernel) PySem.F.excBase_ValueError raises_cx (pa_cons pe_str pa_nil))) pss_nil) pss_never), ?_⟩
    refine ⟨_, rfl, p, A.c_Rules, dp, _, _, rfl, hp, T.cl_Rules, T.na_Rules_columns, flds_columns _ _, _, rfl, p', A.c_Rules, dp', _, _, rfl, hp', T.cl_Rules, T.na_Rules_columns, flds_columns _ _, rfl, _, rfl, ?_⟩
    refine ite2 (fun _ => ?_) (fun e => ?_)
    · exact ⟨by show 1 ≤ sizeLine; decide, k⟩
    · exact absurd (by rw [decide_eq_false (fun z => hne (by have := V.int.inj z; omega))]; rfl) e
theorem ok_law_unlike (T : Txt K mg A) : FnOk P w K mg base CX0 11 A.f_law_unlike A.d_law_unlike ["_law_one", "_law_other_here"] (sp_unlike A.c_Rules) := by
  have G_alike_x := ok_alike_x (P := P) (w := w) (base := base) T
  refine T.F_law_unlike.ok sc_law_unlike (fun vs H Q E h => ?_) (fun cdv A' outer s H vs Q E hr h => ?_)
  · obtain ⟨p, m, p', m', c, c', ps, qs, rfl, _⟩ := h; rfl
  · obtain ⟨p, m, p', m', c, c', ps, qs, rfl, hR, hG, hR', hG', hne, k⟩ := h
    refine ⟨_, (pss_cons (ps_try (C := A.c_Unlike) (D := A.c_TellError) (i := 2) rfl rfl rfl T.m_TellError T.xi_Unlike T.xi_TellError (by decide +kernel) T.up_Unlike_TellError sc_law_unlike.nd rfl rfl (fun a => (pss_cons (ps_set (i := 3) sc_law_unlike.nd rfl (Or.inl rfl) (pe_lst (pa_cons (pe_callB (call_isinstEK K) rfl T.z_isinstance bt_isinstance (pa_cons (pv 2) (pa_cons (pe_glob (v := .ref A.c_BadRules) rfl T.m_BadRules rfl) pa_nil))) (pa_cons (pe_callB (call_isinstEK K) rfl T.z_isinstance bt_isinstance (pa_cons (pv 2) (pa_cons (pe_glob (v := .ref A.c_BadSet) rfl T.m_BadSet rfl) pa_nil))) (pa_cons (pe_callB (call_isinstEK K) rfl T.z_isinstance bt_isinstance (pa_cons (pv 2) (pa_cons (pe_glob (v := .ref A.c_BadParts) rfl T.m_BadParts rfl) pa_nil))) pa_nil)))))
      (pss_cons (ps_set (i := 3) sc_law_unlike.nd rfl (Or.inl rfl) (pe_op op_cat (pv 3) (pe_lst (pa_cons (pe_callB (call_isinstEK K) rfl T.z_isinstance bt_isinstance (pa_cons (pv 2) (pa_cons (pe_glob (v := .ref A.c_BadTable) rfl T.m_BadTable rfl) pa_nil))) (pa_cons (pe_callB (call_isinstEK K) rfl T.z_isinstance bt_isinstance (pa_cons (pv 2) (pa_cons (pe_glob (v := .ref A.c_BadText) rfl T.m_BadText rfl) pa_nil))) pa_nil)))))
      (pss_one (ps_ret (pe_and (pe_callB (call_isinstEK K) rfl T.z_isinstance bt_isinstance (pa_cons (pv 2) (pa_cons (pe_glob (v := .ref A.c_Unlike) rfl T.m_Unlike rfl) pa_nil))) (pe_and (pe_callB (call_isinstEK K) rfl T.z_isinstance bt_isinstance (pa_cons (pv 2) (pa_cons (pe_bltn (v := .ty "ValueError") rfl T.z_ValueError bt_ValueError rfl) pa_nil))) (pe_one (pe_not (pe_callB (call_anyHK K (a := a) rfl) rfl T.z_any bt_any (pa_cons (pv 3) pa_nil)))))))))))
      (fun _ _ _ hp => (pss_one (ps_expr (pe_call G_alike_x (hr.mono (by decide)) rfl T.m_alike T.F_alike.kp T.b_alike .nil hp (pa_cons (pv 0) (pa_cons (pv 1) pa_nil)))))))
      (pss_one (ps_ret pe_bl))), ?_⟩
    refine ⟨_, rfl, _, rfl, p, m, p', m', c, c', ps, qs, rfl, hR, hR', hne, fun e => ⟨rfl, fun a _ ha => ?_⟩⟩
    have s0 : Same H (upd H a (ErrO a A.c_Unlike)) := Same.new ha
    have he : (upd H a (ErrO a A.c_Unlike)) a = some (ErrO a A.c_Unlike) := upd_same
    generalize upd H a (ErrO a A.c_Unlike) = H0 at s0 he ⊢
    refine ⟨_, rfl, a, _, _, _, false, rfl, he, T.et_Unlike, .inr ⟨_, rfl, rfl⟩, T.ki_Unlike_BadRules, _, rfl, a, _, _, _, false, rfl, he, T.et_Unlike, .inr ⟨_, rfl, rfl⟩, T.ki_Unlike_BadSet,
      _, rfl, a, _, _, _, false, rfl, he, T.et_Unlike, .inr ⟨_, rfl, rfl⟩, T.ki_Unlike_BadParts, by show 3 ≤ sizeLine; decide, fun l1 hl1 => ?_⟩
    have s1 : Same H0 (upd H0 l1 (.lst [.bl false, .bl false, .bl false])) := Same.new hl1
    have k1 : (upd H0 l1 (.lst [.bl false, .bl false, .bl false])) l1 = some (.lst [.bl false, .bl false, .bl false]) := upd_same
    generalize upd H0 l1 (.lst [.bl false, .bl false, .bl false]) = H1 at s1 k1 ⊢
    have he1 := s1 _ _ he
    refine ⟨_, rfl, _, rfl, a, _, _, _, false, rfl, he1, T.et_Unlike, .inr ⟨_, rfl, rfl⟩, T.ki_Unlike_BadTable, _, rfl, a, _, _, _, false, rfl, he1, T.et_Unlike, .inr ⟨_, rfl, rfl⟩, T.ki_Unlike_BadText, by show 2 ≤ sizeLine; decide, fun l2 hl2 => ?_⟩
    have s2 : Same H1 (upd H1 l2 (.lst [.bl false, .bl false])) := Same.new hl2
    have k2 : (upd H1 l2 (.lst [.bl false, .bl false])) l2 = some (.lst [.bl false, .bl false]) := upd_same
    generalize upd H1 l2 (.lst [.bl false, .bl false]) = H2 at s2 k2 ⊢
    refine ⟨l1, l2, _, _, rfl, rfl, s2 _ _ k1, k2, by show 5 ≤ sizeLine; decide, fun l3 hl3 => ?_⟩
    have s3 : Same H2 (upd H2 l3 (.lst ([.bl false, .bl false, .bl false] ++ [.bl false, .bl false]))) := Same.new hl3
    have k3 : (upd H2 l3 (.lst ([.bl false, .bl false, .bl false] ++ [.bl false, .bl false]))) l3 = some (.lst ([false, false, false, false, false].map V.bl)) := upd_same
    generalize upd H2 l3 (.lst ([.bl false, .bl false, .bl false] ++ [.bl false, .bl false])) = H3 at s3 k3 ⊢
    have he3 := s3 _ _ (s2 _ _ he1)
    refine ⟨_, rfl, a, _, _, _, true, rfl, he3, T.et_Unlike, .inr ⟨_, rfl, rfl⟩, T.ki_Unlike_Unlike, true, rfl, iteT ?_⟩
    refine ⟨_, rfl, a, _, _, _, true, rfl, he3, T.et_Unlike, .inl ⟨_, rfl, rfl⟩, T.kv_Unlike, true, rfl, iteT ?_⟩
    exact ⟨_, rfl, l3, _, _, rfl, SqL.of k3, he3, _, rfl, k H3 (s0.trans (s1.trans (s2.trans s3)))⟩
theorem ok_law (T : Txt K mg A) : FnOk P w K mg base CX0 13 A.f_law A.d_law ["_law_script"] (sp_law K) := ok_law_of T (ok_law_unlike T)
end
end K05

namespace K05
open PySem L2 TC
theorem all_mk {l : PySem.W.OpenLaw} {w : World} {K : PySem.W.Frag} {h : Heap} {mg : Str → Option Value} {fa C_Steps C_Rows C_Alike C_Apart C_Rules f_is_number f_is_list f_is_count f_all_columns f_is_set f_is_rule f_are_rules f_is_row f_is_table f_is_within f_cells f_keeps f_keeps_all f_row_of f_Steps_init f_Rows_init f_Alike_init f_Alike_shows f_Apart_init f_Apart_shows f_is_place f_lead f_all_lead f_break_alone f_Rules_init f_Rules_rules f_spread f_follows f_steps_to f_first_useful f_alike f_law_cell_at f_law_draw f_law_set f_law_pairs f_law_told f_law_like f_law_keeps f_law_numbers f_law_steps f_law_rows f_law_led f_law_right f_law_other f_law_unlike f_law C_Back C_Lost C_Answer C_BadRules C_BadSet C_BadParts C_Unlike C_BadTable C_BadText C_TellError : Addr} (X : K.In h) (G : h.Ns mainGlobals mg) (hfa : mg "law" = some (.ref fa))
    (aC_Steps : PySem.W.nsIn K mainGlobals "Steps" = some (some (.ref C_Steps)))
    (aC_Rows : PySem.W.nsIn K mainGlobals "Rows" = some (some (.ref C_Rows)))
    (aC_Alike : PySem.W.nsIn K mainGlobals "Alike" = some (some (.ref C_Alike)))
    (aC_Apart : PySem.W.nsIn K mainGlobals "Apart" = some (some (.ref C_Apart)))
    (aC_Rules : PySem.W.nsIn K mainGlobals "Rules" = some (some (.ref C_Rules)))
    (a_is_number : PySem.W.nsIn K mainGlobals "is_number" = some (some (.ref f_is_number)))
    {od_is_number an_is_number : Option Addr} {sl_is_number : Array (Option Value)} {oc_is_number kV_is_number dc_is_number pm_is_number cd_is_number ct_is_number : Value}
    (l_is_number : K.lookup f_is_number = some ⟨oc_is_number, od_is_number, .func (PySem.W.fnOf "is_number" "is_number" (defArgs s_is_number) (defBody s_is_number) (defScope s_is_number) .none kV_is_number dc_is_number pm_is_number an_is_number cd_is_number ct_is_number), sl_is_number⟩)
    (c_is_number : PySem.W.codeIn K cd_is_number "is_number" = true)
    (k_is_number : PySem.W.keepIn K (.ref f_is_number) = true)
    (a_is_list : PySem.W.nsIn K mainGlobals "is_list" = some (some (.ref f_is_list)))
    {od_is_list an_is_list : Option Addr} {sl_is_list : Array (Option Value)} {oc_is_list kV_is_list dc_is_list pm_is_list cd_is_list ct_is_list : Value}
    (l_is_list : K.lookup f_is_list = some ⟨oc_is_list, od_is_list, .func (PySem.W.fnOf "is_list" "is_list" (defArgs s_is_list) (defBody s_is_list) (defScope s_is_list) .none kV_is_list dc_is_list pm_is_list an_is_list cd_is_list ct_is_list), sl_is_list⟩)
    (c_is_list : PySem.W.codeIn K cd_is_list "is_list" = true)
    (k_is_list : PySem.W.keepIn K (.ref f_is_list) = true)
    (a_is_count : PySem.W.nsIn K mainGlobals "is_count" = some (some (.ref f_is_count)))
    {od_is_count an_is_count : Option Addr} {sl_is_count : Array (Option Value)} {oc_is_count kV_is_count dc_is_count pm_is_count cd_is_count ct_is_count : Value}
    (l_is_count : K.lookup f_is_count = some ⟨oc_is_count, od_is_count, .func (PySem.W.fnOf "is_count" "is_count" (defArgs s_is_count) (defBody s_is_count) (defScope s_is_count) .none kV_is_count dc_is_count pm_is_count an_is_count cd_is_count ct_is_count), sl_is_count⟩)
    (c_is_count : PySem.W.codeIn K cd_is_count "is_count" = true)
    (k_is_count : PySem.W.keepIn K (.ref f_is_count) = true)
    (a_all_columns : PySem.W.nsIn K mainGlobals "all_columns" = some (some (.ref f_all_columns)))
    {od_all_columns an_all_columns : Option Addr} {sl_all_columns : Array (Option Value)} {oc_all_columns kV_all_columns dc_all_columns pm_all_columns cd_all_columns ct_all_columns : Value}
    (l_all_columns : K.lookup f_all_columns = some ⟨oc_all_columns, od_all_columns, .func (PySem.W.fnOf "all_columns" "all_columns" (defArgs s_all_columns) (defBody s_all_columns) (defScope s_all_columns) .none kV_all_columns dc_all_columns pm_all_columns an_all_columns cd_all_columns ct_all_columns), sl_all_columns⟩)
    (c_all_columns : PySem.W.codeIn K cd_all_columns "all_columns" = true)
    (k_all_columns : PySem.W.keepIn K (.ref f_all_columns) = true)
    (a_is_set : PySem.W.nsIn K mainGlobals "is_set" = some (some (.ref f_is_set)))
    {od_is_set an_is_set : Option Addr} {sl_is_set : Array (Option Value)} {oc_is_set kV_is_set dc_is_set pm_is_set cd_is_set ct_is_set : Value}
    (l_is_set : K.lookup f_is_set = some ⟨oc_is_set, od_is_set, .func (PySem.W.fnOf "is_set" "is_set" (defArgs s_is_set) (defBody s_is_set) (defScope s_is_set) .none kV_is_set dc_is_set pm_is_set an_is_set cd_is_set ct_is_set), sl_is_set⟩)
    (c_is_set : PySem.W.codeIn K cd_is_set "is_set" = true)
    (k_is_set : PySem.W.keepIn K (.ref f_is_set) = true)
    (a_is_rule : PySem.W.nsIn K mainGlobals "is_rule" = some (some (.ref f_is_rule)))
    {od_is_rule an_is_rule : Option Addr} {sl_is_rule : Array (Option Value)} {oc_is_rule kV_is_rule dc_is_rule pm_is_rule cd_is_rule ct_is_rule : Value}
    (l_is_rule : K.lookup f_is_rule = some ⟨oc_is_rule, od_is_rule, .func (PySem.W.fnOf "is_rule" "is_rule" (defArgs s_is_rule) (defBody s_is_rule) (defScope s_is_rule) .none kV_is_rule dc_is_rule pm_is_rule an_is_rule cd_is_rule ct_is_rule), sl_is_rule⟩)
    (c_is_rule : PySem.W.codeIn K cd_is_rule "is_rule" = true)
    (k_is_rule : PySem.W.keepIn K (.ref f_is_rule) = true)
    (a_are_rules : PySem.W.nsIn K mainGlobals "are_rules" = some (some (.ref f_are_rules)))
    {od_are_rules an_are_rules : Option Addr} {sl_are_rules : Array (Option Value)} {oc_are_rules kV_are_rules dc_are_rules pm_are_rules cd_are_rules ct_are_rules : Value}
    (l_are_rules : K.lookup f_are_rules = some ⟨oc_are_rules, od_are_rules, .func (PySem.W.fnOf "are_rules" "are_rules" (defArgs s_are_rules) (defBody s_are_rules) (defScope s_are_rules) .none kV_are_rules dc_are_rules pm_are_rules an_are_rules cd_are_rules ct_are_rules), sl_are_rules⟩)
    (c_are_rules : PySem.W.codeIn K cd_are_rules "are_rules" = true)
    (k_are_rules : PySem.W.keepIn K (.ref f_are_rules) = true)
    (a_is_row : PySem.W.nsIn K mainGlobals "is_row" = some (some (.ref f_is_row)))
    {od_is_row an_is_row : Option Addr} {sl_is_row : Array (Option Value)} {oc_is_row kV_is_row dc_is_row pm_is_row cd_is_row ct_is_row : Value}
    (l_is_row : K.lookup f_is_row = some ⟨oc_is_row, od_is_row, .func (PySem.W.fnOf "is_row" "is_row" (defArgs s_is_row) (defBody s_is_row) (defScope s_is_row) .none kV_is_row dc_is_row pm_is_row an_is_row cd_is_row ct_is_row), sl_is_row⟩)
    (c_is_row : PySem.W.codeIn K cd_is_row "is_row" = true)
    (k_is_row : PySem.W.keepIn K (.ref f_is_row) = true)
    (a_is_table : PySem.W.nsIn K mainGlobals "is_table" = some (some (.ref f_is_table)))
    {od_is_table an_is_table : Option Addr} {sl_is_table : Array (Option Value)} {oc_is_table kV_is_table dc_is_table pm_is_table cd_is_table ct_is_table : Value}
    (l_is_table : K.lookup f_is_table = some ⟨oc_is_table, od_is_table, .func (PySem.W.fnOf "is_table" "is_table" (defArgs s_is_table) (defBody s_is_table) (defScope s_is_table) .none kV_is_table dc_is_table pm_is_table an_is_table cd_is_table ct_is_table), sl_is_table⟩)
    (c_is_table : PySem.W.codeIn K cd_is_table "is_table" = true)
    (k_is_table : PySem.W.keepIn K (.ref f_is_table) = true)
    (a_is_within : PySem.W.nsIn K mainGlobals "is_within" = some (some (.ref f_is_within)))
    {od_is_within an_is_within : Option Addr} {sl_is_within : Array (Option Value)} {oc_is_within kV_is_within dc_is_within pm_is_within cd_is_within ct_is_within : Value}
    (l_is_within : K.lookup f_is_within = some ⟨oc_is_within, od_is_within, .func (PySem.W.fnOf "is_within" "is_within" (defArgs s_is_within) (defBody s_is_within) (defScope s_is_within) .none kV_is_within dc_is_within pm_is_within an_is_within cd_is_within ct_is_within), sl_is_within⟩)
    (c_is_within : PySem.W.codeIn K cd_is_within "is_within" = true)
    (k_is_within : PySem.W.keepIn K (.ref f_is_within) = true)
    (a_cells : PySem.W.nsIn K mainGlobals "cells" = some (some (.ref f_cells)))
    {od_cells an_cells : Option Addr} {sl_cells : Array (Option Value)} {oc_cells kV_cells dc_cells pm_cells cd_cells ct_cells : Value}
    (l_cells : K.lookup f_cells = some ⟨oc_cells, od_cells, .func (PySem.W.fnOf "cells" "cells" (defArgs s_cells) (defBody s_cells) (defScope s_cells) .none kV_cells dc_cells pm_cells an_cells cd_cells ct_cells), sl_cells⟩)
    (c_cells : PySem.W.codeIn K cd_cells "cells" = true)
    (k_cells : PySem.W.keepIn K (.ref f_cells) = true)
    (a_keeps : PySem.W.nsIn K mainGlobals "keeps" = some (some (.ref f_keeps)))
    {od_keeps an_keeps : Option Addr} {sl_keeps : Array (Option Value)} {oc_keeps kV_keeps dc_keeps pm_keeps cd_keeps ct_keeps : Value}
    (l_keeps : K.lookup f_keeps = some ⟨oc_keeps, od_keeps, .func (PySem.W.fnOf "keeps" "keeps" (defArgs s_keeps) (defBody s_keeps) (defScope s_keeps) .none kV_keeps dc_keeps pm_keeps an_keeps cd_keeps ct_keeps), sl_keeps⟩)
    (c_keeps : PySem.W.codeIn K cd_keeps "keeps" = true)
    (k_keeps : PySem.W.keepIn K (.ref f_keeps) = true)
    (a_keeps_all : PySem.W.nsIn K mainGlobals "keeps_all" = some (some (.ref f_keeps_all)))
    {od_keeps_all an_keeps_all : Option Addr} {sl_keeps_all : Array (Option Value)} {oc_keeps_all kV_keeps_all dc_keeps_all pm_keeps_all cd_keeps_all ct_keeps_all : Value}
    (l_keeps_all : K.lookup f_keeps_all = some ⟨oc_keeps_all, od_keeps_all, .func (PySem.W.fnOf "keeps_all" "keeps_all" (defArgs s_keeps_all) (defBody s_keeps_all) (defScope s_keeps_all) .none kV_keeps_all dc_keeps_all pm_keeps_all an_keeps_all cd_keeps_all ct_keeps_all), sl_keeps_all⟩)
    (c_keeps_all : PySem.W.codeIn K cd_keeps_all "keeps_all" = true)
    (k_keeps_all : PySem.W.keepIn K (.ref f_keeps_all) = true)
    (a_row_of : PySem.W.nsIn K mainGlobals "row_of" = some (some (.ref f_row_of)))
    {od_row_of an_row_of : Option Addr} {sl_row_of : Array (Option Value)} {oc_row_of kV_row_of dc_row_of pm_row_of cd_row_of ct_row_of : Value}
    (l_row_of : K.lookup f_row_of = some ⟨oc_row_of, od_row_of, .func (PySem.W.fnOf "row_of" "row_of" (defArgs s_row_of) (defBody s_row_of) (defScope s_row_of) .none kV_row_of dc_row_of pm_row_of an_row_of cd_row_of ct_row_of), sl_row_of⟩)
    (c_row_of : PySem.W.codeIn K cd_row_of "row_of" = true)
    (k_row_of : PySem.W.keepIn K (.ref f_row_of) = true)
    (a_Steps_init : PySem.W.findIn K (.ref C_Steps) "__init__" = some (some (.ref f_Steps_init)))
    (i_Steps_init : PySem.W.isFn K (.ref f_Steps_init) = true)
    {od_Steps_init an_Steps_init : Option Addr} {sl_Steps_init : Array (Option Value)} {oc_Steps_init kV_Steps_init dc_Steps_init pm_Steps_init cd_Steps_init ct_Steps_init : Value}
    (l_Steps_init : K.lookup f_Steps_init = some ⟨oc_Steps_init, od_Steps_init, .func (PySem.W.fnOf "__init__" "Steps.__init__" (defArgs s_Steps_init) (defBody s_Steps_init) (defScope s_Steps_init) .none kV_Steps_init dc_Steps_init pm_Steps_init an_Steps_init cd_Steps_init ct_Steps_init), sl_Steps_init⟩)
    (c_Steps_init : PySem.W.codeIn K cd_Steps_init "Steps.__init__" = true)
    (k_Steps_init : PySem.W.keepIn K (.ref f_Steps_init) = true)
    (a_Rows_init : PySem.W.findIn K (.ref C_Rows) "__init__" = some (some (.ref f_Rows_init)))
    (i_Rows_init : PySem.W.isFn K (.ref f_Rows_init) = true)
    {od_Rows_init an_Rows_init : Option Addr} {sl_Rows_init : Array (Option Value)} {oc_Rows_init kV_Rows_init dc_Rows_init pm_Rows_init cd_Rows_init ct_Rows_init : Value}
    (l_Rows_init : K.lookup f_Rows_init = some ⟨oc_Rows_init, od_Rows_init, .func (PySem.W.fnOf "__init__" "Rows.__init__" (defArgs s_Rows_init) (defBody s_Rows_init) (defScope s_Rows_init) .none kV_Rows_init dc_Rows_init pm_Rows_init an_Rows_init cd_Rows_init ct_Rows_init), sl_Rows_init⟩)
    (c_Rows_init : PySem.W.codeIn K cd_Rows_init "Rows.__init__" = true)
    (k_Rows_init : PySem.W.keepIn K (.ref f_Rows_init) = true)
    (a_Alike_init : PySem.W.findIn K (.ref C_Alike) "__init__" = some (some (.ref f_Alike_init)))
    (i_Alike_init : PySem.W.isFn K (.ref f_Alike_init) = true)
    {od_Alike_init an_Alike_init : Option Addr} {sl_Alike_init : Array (Option Value)} {oc_Alike_init kV_Alike_init dc_Alike_init pm_Alike_init cd_Alike_init ct_Alike_init : Value}
    (l_Alike_init : K.lookup f_Alike_init = some ⟨oc_Alike_init, od_Alike_init, .func (PySem.W.fnOf "__init__" "Alike.__init__" (defArgs s_Alike_init) (defBody s_Alike_init) (defScope s_Alike_init) .none kV_Alike_init dc_Alike_init pm_Alike_init an_Alike_init cd_Alike_init ct_Alike_init), sl_Alike_init⟩)
    (c_Alike_init : PySem.W.codeIn K cd_Alike_init "Alike.__init__" = true)
    (k_Alike_init : PySem.W.keepIn K (.ref f_Alike_init) = true)
    (a_Alike_shows : PySem.W.findIn K (.ref C_Alike) "shows" = some (some (.ref f_Alike_shows)))
    (i_Alike_shows : PySem.W.isFn K (.ref f_Alike_shows) = true)
    {od_Alike_shows an_Alike_shows : Option Addr} {sl_Alike_shows : Array (Option Value)} {oc_Alike_shows kV_Alike_shows dc_Alike_shows pm_Alike_shows cd_Alike_shows ct_Alike_shows : Value}
    (l_Alike_shows : K.lookup f_Alike_shows = some ⟨oc_Alike_shows, od_Alike_shows, .func (PySem.W.fnOf "shows" "Alike.shows" (defArgs s_Alike_shows) (defBody s_Alike_shows) (defScope s_Alike_shows) .none kV_Alike_shows dc_Alike_shows pm_Alike_shows an_Alike_shows cd_Alike_shows ct_Alike_shows), sl_Alike_shows⟩)
    (c_Alike_shows : PySem.W.codeIn K cd_Alike_shows "Alike.shows" = true)
    (k_Alike_shows : PySem.W.keepIn K (.ref f_Alike_shows) = true)
    (a_Apart_init : PySem.W.findIn K (.ref C_Apart) "__init__" = some (some (.ref f_Apart_init)))
    (i_Apart_init : PySem.W.isFn K (.ref f_Apart_init) = true)
    {od_Apart_init an_Apart_init : Option Addr} {sl_Apart_init : Array (Option Value)} {oc_Apart_init kV_Apart_init dc_Apart_init pm_Apart_init cd_Apart_init ct_Apart_init : Value}
    (l_Apart_init : K.lookup f_Apart_init = some ⟨oc_Apart_init, od_Apart_init, .func (PySem.W.fnOf "__init__" "Apart.__init__" (defArgs s_Apart_init) (defBody s_Apart_init) (defScope s_Apart_init) .none kV_Apart_init dc_Apart_init pm_Apart_init an_Apart_init cd_Apart_init ct_Apart_init), sl_Apart_init⟩)
    (c_Apart_init : PySem.W.codeIn K cd_Apart_init "Apart.__init__" = true)
    (k_Apart_init : PySem.W.keepIn K (.ref f_Apart_init) = true)
    (a_Apart_shows : PySem.W.findIn K (.ref C_Apart) "shows" = some (some (.ref f_Apart_shows)))
    (i_Apart_shows : PySem.W.isFn K (.ref f_Apart_shows) = true)
    {od_Apart_shows an_Apart_shows : Option Addr} {sl_Apart_shows : Array (Option Value)} {oc_Apart_shows kV_Apart_shows dc_Apart_shows pm_Apart_shows cd_Apart_shows ct_Apart_shows : Value}
    (l_Apart_shows : K.lookup f_Apart_shows = some ⟨oc_Apart_shows, od_Apart_shows, .func (PySem.W.fnOf "shows" "Apart.shows" (defArgs s_Apart_shows) (defBody s_Apart_shows) (defScope s_Apart_shows) .none kV_Apart_shows dc_Apart_shows pm_Apart_shows an_Apart_shows cd_Apart_shows ct_Apart_shows), sl_Apart_shows⟩)
    (c_Apart_shows : PySem.W.codeIn K cd_Apart_shows "Apart.shows" = true)
    (k_Apart_shows : PySem.W.keepIn K (.ref f_Apart_shows) = true)
    (a_is_place : PySem.W.nsIn K mainGlobals "is_place" = some (some (.ref f_is_place)))
    {od_is_place an_is_place : Option Addr} {sl_is_place : Array (Option Value)} {oc_is_place kV_is_place dc_is_place pm_is_place cd_is_place ct_is_place : Value}
    (l_is_place : K.lookup f_is_place = some ⟨oc_is_place, od_is_place, .func (PySem.W.fnOf "is_place" "is_place" (defArgs s_is_place) (defBody s_is_place) (defScope s_is_place) .none kV_is_place dc_is_place pm_is_place an_is_place cd_is_place ct_is_place), sl_is_place⟩)
    (c_is_place : PySem.W.codeIn K cd_is_place "is_place" = true)
    (k_is_place : PySem.W.keepIn K (.ref f_is_place) = true)
    (a_lead : PySem.W.nsIn K mainGlobals "lead" = some (some (.ref f_lead)))
    {od_lead an_lead : Option Addr} {sl_lead : Array (Option Value)} {oc_lead kV_lead dc_lead pm_lead cd_lead ct_lead : Value}
    (l_lead : K.lookup f_lead = some ⟨oc_lead, od_lead, .func (PySem.W.fnOf "lead" "lead" (defArgs s_lead) (defBody s_lead) (defScope s_lead) .none kV_lead dc_lead pm_lead an_lead cd_lead ct_lead), sl_lead⟩)
    (c_lead : PySem.W.codeIn K cd_lead "lead" = true)
    (k_lead : PySem.W.keepIn K (.ref f_lead) = true)
    (a_all_lead : PySem.W.nsIn K mainGlobals "all_lead" = some (some (.ref f_all_lead)))
    {od_all_lead an_all_lead : Option Addr} {sl_all_lead : Array (Option Value)} {oc_all_lead kV_all_lead dc_all_lead pm_all_lead cd_all_lead ct_all_lead : Value}
    (l_all_lead : K.lookup f_all_lead = some ⟨oc_all_lead, od_all_lead, .func (PySem.W.fnOf "all_lead" "all_lead" (defArgs s_all_lead) (defBody s_all_lead) (defScope s_all_lead) .none kV_all_lead dc_all_lead pm_all_lead an_all_lead cd_all_lead ct_all_lead), sl_all_lead⟩)
    (c_all_lead : PySem.W.codeIn K cd_all_lead "all_lead" = true)
    (k_all_lead : PySem.W.keepIn K (.ref f_all_lead) = true)
    (a_break_alone : PySem.W.nsIn K mainGlobals "break_alone" = some (some (.ref f_break_alone)))
    {od_break_alone an_break_alone : Option Addr} {sl_break_alone : Array (Option Value)} {oc_break_alone kV_break_alone dc_break_alone pm_break_alone cd_break_alone ct_break_alone : Value}
    (l_break_alone : K.lookup f_break_alone = some ⟨oc_break_alone, od_break_alone, .func (PySem.W.fnOf "break_alone" "break_alone" (defArgs s_break_alone) (defBody s_break_alone) (defScope s_break_alone) .none kV_break_alone dc_break_alone pm_break_alone an_break_alone cd_break_alone ct_break_alone), sl_break_alone⟩)
    (c_break_alone : PySem.W.codeIn K cd_break_alone "break_alone" = true)
    (k_break_alone : PySem.W.keepIn K (.ref f_break_alone) = true)
    (a_Rules_init : PySem.W.findIn K (.ref C_Rules) "__init__" = some (some (.ref f_Rules_init)))
    (i_Rules_init : PySem.W.isFn K (.ref f_Rules_init) = true)
    {od_Rules_init an_Rules_init : Option Addr} {sl_Rules_init : Array (Option Value)} {oc_Rules_init kV_Rules_init dc_Rules_init pm_Rules_init cd_Rules_init ct_Rules_init : Value}
    (l_Rules_init : K.lookup f_Rules_init = some ⟨oc_Rules_init, od_Rules_init, .func (PySem.W.fnOf "__init__" "Rules.__init__" (defArgs s_Rules_init) (defBody s_Rules_init) (defScope s_Rules_init) .none kV_Rules_init dc_Rules_init pm_Rules_init an_Rules_init cd_Rules_init ct_Rules_init), sl_Rules_init⟩)
    (c_Rules_init : PySem.W.codeIn K cd_Rules_init "Rules.__init__" = true)
    (k_Rules_init : PySem.W.keepIn K (.ref f_Rules_init) = true)
    (a_Rules_rules : PySem.W.findIn K (.ref C_Rules) "rules" = some (some (.ref f_Rules_rules)))
    (i_Rules_rules : PySem.W.isFn K (.ref f_Rules_rules) = true)
    {od_Rules_rules an_Rules_rules : Option Addr} {sl_Rules_rules : Array (Option Value)} {oc_Rules_rules kV_Rules_rules dc_Rules_rules pm_Rules_rules cd_Rules_rules ct_Rules_rules : Value}
    (l_Rules_rules : K.lookup f_Rules_rules = some ⟨oc_Rules_rules, od_Rules_rules, .func (PySem.W.fnOf "rules" "Rules.rules" (defArgs s_Rules_rules) (defBody s_Rules_rules) (defScope s_Rules_rules) .none kV_Rules_rules dc_Rules_rules pm_Rules_rules an_Rules_rules cd_Rules_rules ct_Rules_rules), sl_Rules_rules⟩)
    (c_Rules_rules : PySem.W.codeIn K cd_Rules_rules "Rules.rules" = true)
    (k_Rules_rules : PySem.W.keepIn K (.ref f_Rules_rules) = true)
    (a_spread : PySem.W.nsIn K mainGlobals "spread" = some (some (.ref f_spread)))
    {od_spread an_spread : Option Addr} {sl_spread : Array (Option Value)} {oc_spread kV_spread dc_spread pm_spread cd_spread ct_spread : Value}
    (l_spread : K.lookup f_spread = some ⟨oc_spread, od_spread, .func (PySem.W.fnOf "spread" "spread" (defArgs s_spread) (defBody s_spread) (defScope s_spread) .none kV_spread dc_spread pm_spread an_spread cd_spread ct_spread), sl_spread⟩)
    (c_spread : PySem.W.codeIn K cd_spread "spread" = true)
    (k_spread : PySem.W.keepIn K (.ref f_spread) = true)
    (a_follows : PySem.W.nsIn K mainGlobals "follows" = some (some (.ref f_follows)))
    {od_follows an_follows : Option Addr} {sl_follows : Array (Option Value)} {oc_follows kV_follows dc_follows pm_follows cd_follows ct_follows : Value}
    (l_follows : K.lookup f_follows = some ⟨oc_follows, od_follows, .func (PySem.W.fnOf "follows" "follows" (defArgs s_follows) (defBody s_follows) (defScope s_follows) .none kV_follows dc_follows pm_follows an_follows cd_follows ct_follows), sl_follows⟩)
    (c_follows : PySem.W.codeIn K cd_follows "follows" = true)
    (k_follows : PySem.W.keepIn K (.ref f_follows) = true)
    (a_steps_to : PySem.W.nsIn K mainGlobals "steps_to" = some (some (.ref f_steps_to)))
    {od_steps_to an_steps_to : Option Addr} {sl_steps_to : Array (Option Value)} {oc_steps_to kV_steps_to dc_steps_to pm_steps_to cd_steps_to ct_steps_to : Value}
    (l_steps_to : K.lookup f_steps_to = some ⟨oc_steps_to, od_steps_to, .func (PySem.W.fnOf "steps_to" "steps_to" (defArgs s_steps_to) (defBody s_steps_to) (defScope s_steps_to) .none kV_steps_to dc_steps_to pm_steps_to an_steps_to cd_steps_to ct_steps_to), sl_steps_to⟩)
    (c_steps_to : PySem.W.codeIn K cd_steps_to "steps_to" = true)
    (k_steps_to : PySem.W.keepIn K (.ref f_steps_to) = true)
    (a_first_useful : PySem.W.nsIn K mainGlobals "first_useful" = some (some (.ref f_first_useful)))
    {od_first_useful an_first_useful : Option Addr} {sl_first_useful : Array (Option Value)} {oc_first_useful kV_first_useful dc_first_useful pm_first_useful cd_first_useful ct_first_useful : Value}
    (l_first_useful : K.lookup f_first_useful = some ⟨oc_first_useful, od_first_useful, .func (PySem.W.fnOf "first_useful" "first_useful" (defArgs s_first_useful) (defBody s_first_useful) (defScope s_first_useful) .none kV_first_useful dc_first_useful pm_first_useful an_first_useful cd_first_useful ct_first_useful), sl_first_useful⟩)
    (c_first_useful : PySem.W.codeIn K cd_first_useful "first_useful" = true)
    (k_first_useful : PySem.W.keepIn K (.ref f_first_useful) = true)
    (a_alike : PySem.W.nsIn K mainGlobals "alike" = some (some (.ref f_alike)))
    {od_alike an_alike : Option Addr} {sl_alike : Array (Option Value)} {oc_alike kV_alike dc_alike pm_alike cd_alike ct_alike : Value}
    (l_alike : K.lookup f_alike = some ⟨oc_alike, od_alike, .func (PySem.W.fnOf "alike" "alike" (defArgs s_alike) (defBody s_alike) (defScope s_alike) .none kV_alike dc_alike pm_alike an_alike cd_alike ct_alike), sl_alike⟩)
    (c_alike : PySem.W.codeIn K cd_alike "alike" = true)
    (k_alike : PySem.W.keepIn K (.ref f_alike) = true)
    (a_law_cell_at : PySem.W.nsIn K mainGlobals "_law_cell_at" = some (some (.ref f_law_cell_at)))
    {od_law_cell_at an_law_cell_at : Option Addr} {sl_law_cell_at : Array (Option Value)} {oc_law_cell_at kV_law_cell_at dc_law_cell_at pm_law_cell_at cd_law_cell_at ct_law_cell_at : Value}
    (l_law_cell_at : K.lookup f_law_cell_at = some ⟨oc_law_cell_at, od_law_cell_at, .func (PySem.W.fnOf "_law_cell_at" "_law_cell_at" (defArgs s_law_cell_at) (defBody s_law_cell_at) (defScope s_law_cell_at) .none kV_law_cell_at dc_law_cell_at pm_law_cell_at an_law_cell_at cd_law_cell_at ct_law_cell_at), sl_law_cell_at⟩)
    (c_law_cell_at : PySem.W.codeIn K cd_law_cell_at "_law_cell_at" = true)
    (k_law_cell_at : PySem.W.keepIn K (.ref f_law_cell_at) = true)
    (a_law_draw : PySem.W.nsIn K mainGlobals "_law_draw" = some (some (.ref f_law_draw)))
    {od_law_draw an_law_draw : Option Addr} {sl_law_draw : Array (Option Value)} {oc_law_draw kV_law_draw dc_law_draw pm_law_draw cd_law_draw ct_law_draw : Value}
    (l_law_draw : K.lookup f_law_draw = some ⟨oc_law_draw, od_law_draw, .func (PySem.W.fnOf "_law_draw" "_law_draw" (defArgs s_law_draw) (defBody s_law_draw) (defScope s_law_draw) .none kV_law_draw dc_law_draw pm_law_draw an_law_draw cd_law_draw ct_law_draw), sl_law_draw⟩)
    (c_law_draw : PySem.W.codeIn K cd_law_draw "_law_draw" = true)
    (k_law_draw : PySem.W.keepIn K (.ref f_law_draw) = true)
    (a_law_set : PySem.W.nsIn K mainGlobals "_law_set" = some (some (.ref f_law_set)))
    {od_law_set an_law_set : Option Addr} {sl_law_set : Array (Option Value)} {oc_law_set kV_law_set dc_law_set pm_law_set cd_law_set ct_law_set : Value}
    (l_law_set : K.lookup f_law_set = some ⟨oc_law_set, od_law_set, .func (PySem.W.fnOf "_law_set" "_law_set" (defArgs s_law_set) (defBody s_law_set) (defScope s_law_set) .none kV_law_set dc_law_set pm_law_set an_law_set cd_law_set ct_law_set), sl_law_set⟩)
    (c_law_set : PySem.W.codeIn K cd_law_set "_law_set" = true)
    (k_law_set : PySem.W.keepIn K (.ref f_law_set) = true)
    (a_law_pairs : PySem.W.nsIn K mainGlobals "_law_pairs" = some (some (.ref f_law_pairs)))
    {od_law_pairs an_law_pairs : Option Addr} {sl_law_pairs : Array (Option Value)} {oc_law_pairs kV_law_pairs dc_law_pairs pm_law_pairs cd_law_pairs ct_law_pairs : Value}
    (l_law_pairs : K.lookup f_law_pairs = some ⟨oc_law_pairs, od_law_pairs, .func (PySem.W.fnOf "_law_pairs" "_law_pairs" (defArgs s_law_pairs) (defBody s_law_pairs) (defScope s_law_pairs) .none kV_law_pairs dc_law_pairs pm_law_pairs an_law_pairs cd_law_pairs ct_law_pairs), sl_law_pairs⟩)
    (c_law_pairs : PySem.W.codeIn K cd_law_pairs "_law_pairs" = true)
    (k_law_pairs : PySem.W.keepIn K (.ref f_law_pairs) = true)
    (a_law_told : PySem.W.nsIn K mainGlobals "_law_told" = some (some (.ref f_law_told)))
    {od_law_told an_law_told : Option Addr} {sl_law_told : Array (Option Value)} {oc_law_told kV_law_told dc_law_told pm_law_told cd_law_told ct_law_told : Value}
    (l_law_told : K.lookup f_law_told = some ⟨oc_law_told, od_law_told, .func (PySem.W.fnOf "_law_told" "_law_told" (defArgs s_law_told) (defBody s_law_told) (defScope s_law_told) .none kV_law_told dc_law_told pm_law_told an_law_told cd_law_told ct_law_told), sl_law_told⟩)
    (c_law_told : PySem.W.codeIn K cd_law_told "_law_told" = true)
    (k_law_told : PySem.W.keepIn K (.ref f_law_told) = true)
    (a_law_like : PySem.W.nsIn K mainGlobals "_law_like" = some (some (.ref f_law_like)))
    {od_law_like an_law_like : Option Addr} {sl_law_like : Array (Option Value)} {oc_law_like kV_law_like dc_law_like pm_law_like cd_law_like ct_law_like : Value}
    (l_law_like : K.lookup f_law_like = some ⟨oc_law_like, od_law_like, .func (PySem.W.fnOf "_law_like" "_law_like" (defArgs s_law_like) (defBody s_law_like) (defScope s_law_like) .none kV_law_like dc_law_like pm_law_like an_law_like cd_law_like ct_law_like), sl_law_like⟩)
    (c_law_like : PySem.W.codeIn K cd_law_like "_law_like" = true)
    (k_law_like : PySem.W.keepIn K (.ref f_law_like) = true)
    (a_law_keeps : PySem.W.nsIn K mainGlobals "_law_keeps" = some (some (.ref f_law_keeps)))
    {od_law_keeps an_law_keeps : Option Addr} {sl_law_keeps : Array (Option Value)} {oc_law_keeps kV_law_keeps dc_law_keeps pm_law_keeps cd_law_keeps ct_law_keeps : Value}
    (l_law_keeps : K.lookup f_law_keeps = some ⟨oc_law_keeps, od_law_keeps, .func (PySem.W.fnOf "_law_keeps" "_law_keeps" (defArgs s_law_keeps) (defBody s_law_keeps) (defScope s_law_keeps) .none kV_law_keeps dc_law_keeps pm_law_keeps an_law_keeps cd_law_keeps ct_law_keeps), sl_law_keeps⟩)
    (c_law_keeps : PySem.W.codeIn K cd_law_keeps "_law_keeps" = true)
    (k_law_keeps : PySem.W.keepIn K (.ref f_law_keeps) = true)
    (a_law_numbers : PySem.W.nsIn K mainGlobals "_law_numbers" = some (some (.ref f_law_numbers)))
    {od_law_numbers an_law_numbers : Option Addr} {sl_law_numbers : Array (Option Value)} {oc_law_numbers kV_law_numbers dc_law_numbers pm_law_numbers cd_law_numbers ct_law_numbers : Value}
    (l_law_numbers : K.lookup f_law_numbers = some ⟨oc_law_numbers, od_law_numbers, .func (PySem.W.fnOf "_law_numbers" "_law_numbers" (defArgs s_law_numbers) (defBody s_law_numbers) (defScope s_law_numbers) .none kV_law_numbers dc_law_numbers pm_law_numbers an_law_numbers cd_law_numbers ct_law_numbers), sl_law_numbers⟩)
    (c_law_numbers : PySem.W.codeIn K cd_law_numbers "_law_numbers" = true)
    (k_law_numbers : PySem.W.keepIn K (.ref f_law_numbers) = true)
    (a_law_steps : PySem.W.nsIn K mainGlobals "_law_steps" = some (some (.ref f_law_steps)))
    {od_law_steps an_law_steps : Option Addr} {sl_law_steps : Array (Option Value)} {oc_law_steps kV_law_steps dc_law_steps pm_law_steps cd_law_steps ct_law_steps : Value}
    (l_law_steps : K.lookup f_law_steps = some ⟨oc_law_steps, od_law_steps, .func (PySem.W.fnOf "_law_steps" "_law_steps" (defArgs s_law_steps) (defBody s_law_steps) (defScope s_law_steps) .none kV_law_steps dc_law_steps pm_law_steps an_law_steps cd_law_steps ct_law_steps), sl_law_steps⟩)
    (c_law_steps : PySem.W.codeIn K cd_law_steps "_law_steps" = true)
    (k_law_steps : PySem.W.keepIn K (.ref f_law_steps) = true)
    (a_law_rows : PySem.W.nsIn K mainGlobals "_law_rows" = some (some (.ref f_law_rows)))
    {od_law_rows an_law_rows : Option Addr} {sl_law_rows : Array (Option Value)} {oc_law_rows kV_law_rows dc_law_rows pm_law_rows cd_law_rows ct_law_rows : Value}
    (l_law_rows : K.lookup f_law_rows = some ⟨oc_law_rows, od_law_rows, .func (PySem.W.fnOf "_law_rows" "_law_rows" (defArgs s_law_rows) (defBody s_law_rows) (defScope s_law_rows) .none kV_law_rows dc_law_rows pm_law_rows an_law_rows cd_law_rows ct_law_rows), sl_law_rows⟩)
    (c_law_rows : PySem.W.codeIn K cd_law_rows "_law_rows" = true)
    (k_law_rows : PySem.W.keepIn K (.ref f_law_rows) = true)
    (a_law_led : PySem.W.nsIn K mainGlobals "_law_led" = some (some (.ref f_law_led)))
    {od_law_led an_law_led : Option Addr} {sl_law_led : Array (Option Value)} {oc_law_led kV_law_led dc_law_led pm_law_led cd_law_led ct_law_led : Value}
    (l_law_led : K.lookup f_law_led = some ⟨oc_law_led, od_law_led, .func (PySem.W.fnOf "_law_led" "_law_led" (defArgs s_law_led) (defBody s_law_led) (defScope s_law_led) .none kV_law_led dc_law_led pm_law_led an_law_led cd_law_led ct_law_led), sl_law_led⟩)
    (c_law_led : PySem.W.codeIn K cd_law_led "_law_led" = true)
    (k_law_led : PySem.W.keepIn K (.ref f_law_led) = true)
    (a_law_right : PySem.W.nsIn K mainGlobals "_law_right" = some (some (.ref f_law_right)))
    {od_law_right an_law_right : Option Addr} {sl_law_right : Array (Option Value)} {oc_law_right kV_law_right dc_law_right pm_law_right cd_law_right ct_law_right : Value}
    (l_law_right : K.lookup f_law_right = some ⟨oc_law_right, od_law_right, .func (PySem.W.fnOf "_law_right" "_law_right" (defArgs s_law_right) (defBody s_law_right) (defScope s_law_right) .none kV_law_right dc_law_right pm_law_right an_law_right cd_law_right ct_law_right), sl_law_right⟩)
    (c_law_right : PySem.W.codeIn K cd_law_right "_law_right" = true)
    (k_law_right : PySem.W.keepIn K (.ref f_law_right) = true)
    (a_law_other : PySem.W.nsIn K mainGlobals "_law_other" = some (some (.ref f_law_other)))
    {od_law_other an_law_other : Option Addr} {sl_law_other : Array (Option Value)} {oc_law_other kV_law_other dc_law_other pm_law_other cd_law_other ct_law_other : Value}
    (l_law_other : K.lookup f_law_other = some ⟨oc_law_other, od_law_other, .func (PySem.W.fnOf "_law_other" "_law_other" (defArgs s_law_other) (defBody s_law_other) (defScope s_law_other) .none kV_law_other dc_law_other pm_law_other an_law_other cd_law_other ct_law_other), sl_law_other⟩)
    (c_law_other : PySem.W.codeIn K cd_law_other "_law_other" = true)
    (k_law_other : PySem.W.keepIn K (.ref f_law_other) = true)
    (a_law_unlike : PySem.W.nsIn K mainGlobals "_law_unlike" = some (some (.ref f_law_unlike)))
    {od_law_unlike an_law_unlike : Option Addr} {sl_law_unlike : Array (Option Value)} {oc_law_unlike kV_law_unlike dc_law_unlike pm_law_unlike cd_law_unlike ct_law_unlike : Value}
    (l_law_unlike : K.lookup f_law_unlike = some ⟨oc_law_unlike, od_law_unlike, .func (PySem.W.fnOf "_law_unlike" "_law_unlike" (defArgs s_law_unlike) (defBody s_law_unlike) (defScope s_law_unlike) .none kV_law_unlike dc_law_unlike pm_law_unlike an_law_unlike cd_law_unlike ct_law_unlike), sl_law_unlike⟩)
    (c_law_unlike : PySem.W.codeIn K cd_law_unlike "_law_unlike" = true)
    (k_law_unlike : PySem.W.keepIn K (.ref f_law_unlike) = true)
    (a_law : PySem.W.nsIn K mainGlobals "law" = some (some (.ref f_law)))
    {od_law an_law : Option Addr} {sl_law : Array (Option Value)} {oc_law kV_law dc_law pm_law cd_law ct_law : Value}
    (l_law : K.lookup f_law = some ⟨oc_law, od_law, .func (PySem.W.fnOf "law" "law" (defArgs s_law) (defBody s_law) (defScope s_law) .none kV_law dc_law pm_law an_law cd_law ct_law), sl_law⟩)
    (c_law : PySem.W.codeIn K cd_law "law" = true)
    (k_law : PySem.W.keepIn K (.ref f_law) = true)
    (pg_Steps : PySem.W.plainGet K C_Steps Str.empty = true)
    (hd_Steps : PySem.W.hasDictIn K C_Steps = true)
    (po_Steps : PySem.W.plainOver K C_Steps = true)
    (sa_Steps : PySem.W.findIn K (.ref C_Steps) "__setattr__" = some (some (.builtin "object.__setattr__")))
    (mk_Steps : PySem.W.makesIn K C_Steps = true)
    (kc_Steps : PySem.W.keepIn K (.ref C_Steps) = true)
    (na_Steps_places : PySem.W.findIn K (.ref C_Steps) "places" = some none)
    (pg_Rows : PySem.W.plainGet K C_Rows Str.empty = true)
    (hd_Rows : PySem.W.hasDictIn K C_Rows = true)
    (po_Rows : PySem.W.plainOver K C_Rows = true)
    (sa_Rows : PySem.W.findIn K (.ref C_Rows) "__setattr__" = some (some (.builtin "object.__setattr__")))
    (mk_Rows : PySem.W.makesIn K C_Rows = true)
    (kc_Rows : PySem.W.keepIn K (.ref C_Rows) = true)
    (na_Rows_one : PySem.W.findIn K (.ref C_Rows) "one" = some none)
    (na_Rows_other : PySem.W.findIn K (.ref C_Rows) "other" = some none)
    (pg_Alike : PySem.W.plainGet K C_Alike Str.empty = true)
    (hd_Alike : PySem.W.hasDictIn K C_Alike = true)
    (po_Alike : PySem.W.plainOver K C_Alike = true)
    (sa_Alike : PySem.W.findIn K (.ref C_Alike) "__setattr__" = some (some (.builtin "object.__setattr__")))
    (mk_Alike : PySem.W.makesIn K C_Alike = true)
    (kc_Alike : PySem.W.keepIn K (.ref C_Alike) = true)
    (na_Alike_there : PySem.W.findIn K (.ref C_Alike) "there" = some none)
    (na_Alike_back : PySem.W.findIn K (.ref C_Alike) "back" = some none)
    (pg_Apart : PySem.W.plainGet K C_Apart Str.empty = true)
    (hd_Apart : PySem.W.hasDictIn K C_Apart = true)
    (po_Apart : PySem.W.plainOver K C_Apart = true)
    (sa_Apart : PySem.W.findIn K (.ref C_Apart) "__setattr__" = some (some (.builtin "object.__setattr__")))
    (mk_Apart : PySem.W.makesIn K C_Apart = true)
    (kc_Apart : PySem.W.keepIn K (.ref C_Apart) = true)
    (na_Apart_side : PySem.W.findIn K (.ref C_Apart) "side" = some none)
    (na_Apart_place : PySem.W.findIn K (.ref C_Apart) "place" = some none)
    (na_Apart_one : PySem.W.findIn K (.ref C_Apart) "one" = some none)
    (na_Apart_other : PySem.W.findIn K (.ref C_Apart) "other" = some none)
    (pg_Rules : PySem.W.plainGet K C_Rules Str.empty = true)
    (hd_Rules : PySem.W.hasDictIn K C_Rules = true)
    (po_Rules : PySem.W.plainOver K C_Rules = true)
    (sa_Rules : PySem.W.findIn K (.ref C_Rules) "__setattr__" = some (some (.builtin "object.__setattr__")))
    (mk_Rules : PySem.W.makesIn K C_Rules = true)
    (kc_Rules : PySem.W.keepIn K (.ref C_Rules) = true)
    (na_Rules_columns : PySem.W.findIn K (.ref C_Rules) "columns" = some none)
    (na_Rules_pairs : PySem.W.findIn K (.ref C_Rules) "pairs" = some none)
    (aC_Back : PySem.W.nsIn K mainGlobals "Back" = some (some (.ref C_Back)))
    (aC_Lost : PySem.W.nsIn K mainGlobals "Lost" = some (some (.ref C_Lost)))
    (aC_Answer : PySem.W.nsIn K mainGlobals "Answer" = some (some (.ref C_Answer)))
    (aC_BadRules : PySem.W.nsIn K mainGlobals "BadRules" = some (some (.ref C_BadRules)))
    (aC_BadSet : PySem.W.nsIn K mainGlobals "BadSet" = some (some (.ref C_BadSet)))
    (aC_BadParts : PySem.W.nsIn K mainGlobals "BadParts" = some (some (.ref C_BadParts)))
    (aC_Unlike : PySem.W.nsIn K mainGlobals "Unlike" = some (some (.ref C_Unlike)))
    (aC_BadTable : PySem.W.nsIn K mainGlobals "BadTable" = some (some (.ref C_BadTable)))
    (aC_BadText : PySem.W.nsIn K mainGlobals "BadText" = some (some (.ref C_BadText)))
    (aC_TellError : PySem.W.nsIn K mainGlobals "TellError" = some (some (.ref C_TellError)))
    (t1_Steps : PySem.W.findIn K (.ref C_Steps) "__class__" = some (some (.builtin "object.__class__")))
    (t2_Steps : PySem.W.specialIn K (.builtin "object.__class__") "__get__" = some (some (.builtin "getset_descriptor.__get__")))
    (t3_Steps : PySem.W.takesIn K (.builtin "object.__class__") = some true)
    (t4_Steps : PySem.W.mroIn K C_Steps (.type "object") = some true)
    (ki_Steps_Rows : PySem.W.kitOne K (.ref C_Steps) (.ref C_Rows) = some false)
    (ki_Steps_Alike : PySem.W.kitOne K (.ref C_Steps) (.ref C_Alike) = some false)
    (ki_Steps_Steps : PySem.W.kitOne K (.ref C_Steps) (.ref C_Steps) = some true)
    (ki_Steps_Back : PySem.W.kitOne K (.ref C_Steps) (.ref C_Back) = some false)
    (ki_Steps_Lost : PySem.W.kitOne K (.ref C_Steps) (.ref C_Lost) = some false)
    (ki_Steps_Answer : PySem.W.kitOne K (.ref C_Steps) (.ref C_Answer) = some true)
    (ki_Steps_Apart : PySem.W.kitOne K (.ref C_Steps) (.ref C_Apart) = some false)
    (ki_Steps_BadRules : PySem.W.kitOne K (.ref C_Steps) (.ref C_BadRules) = some false)
    (ki_Steps_BadSet : PySem.W.kitOne K (.ref C_Steps) (.ref C_BadSet) = some false)
    (ki_Steps_BadParts : PySem.W.kitOne K (.ref C_Steps) (.ref C_BadParts) = some false)
    (ki_Steps_Unlike : PySem.W.kitOne K (.ref C_Steps) (.ref C_Unlike) = some false)
    (ki_Steps_BadTable : PySem.W.kitOne K (.ref C_Steps) (.ref C_BadTable) = some false)
    (ki_Steps_BadText : PySem.W.kitOne K (.ref C_Steps) (.ref C_BadText) = some false)
    (t1_Rows : PySem.W.findIn K (.ref C_Rows) "__class__" = some (some (.builtin "object.__class__")))
    (t2_Rows : PySem.W.specialIn K (.builtin "object.__class__") "__get__" = some (some (.builtin "getset_descriptor.__get__")))
    (t3_Rows : PySem.W.takesIn K (.builtin "object.__class__") = some true)
    (t4_Rows : PySem.W.mroIn K C_Rows (.type "object") = some true)
    (ki_Rows_Rows : PySem.W.kitOne K (.ref C_Rows) (.ref C_Rows) = some true)
    (ki_Rows_Alike : PySem.W.kitOne K (.ref C_Rows) (.ref C_Alike) = some false)
    (ki_Rows_Steps : PySem.W.kitOne K (.ref C_Rows) (.ref C_Steps) = some false)
    (ki_Rows_Back : PySem.W.kitOne K (.ref C_Rows) (.ref C_Back) = some false)
    (ki_Rows_Lost : PySem.W.kitOne K (.ref C_Rows) (.ref C_Lost) = some false)
    (ki_Rows_Answer : PySem.W.kitOne K (.ref C_Rows) (.ref C_Answer) = some true)
    (ki_Rows_Apart : PySem.W.kitOne K (.ref C_Rows) (.ref C_Apart) = some false)
    (ki_Rows_BadRules : PySem.W.kitOne K (.ref C_Rows) (.ref C_BadRules) = some false)
    (ki_Rows_BadSet : PySem.W.kitOne K (.ref C_Rows) (.ref C_BadSet) = some false)
    (ki_Rows_BadParts : PySem.W.kitOne K (.ref C_Rows) (.ref C_BadParts) = some false)
    (ki_Rows_Unlike : PySem.W.kitOne K (.ref C_Rows) (.ref C_Unlike) = some false)
    (ki_Rows_BadTable : PySem.W.kitOne K (.ref C_Rows) (.ref C_BadTable) = some false)
    (ki_Rows_BadText : PySem.W.kitOne K (.ref C_Rows) (.ref C_BadText) = some false)
    (t1_Alike : PySem.W.findIn K (.ref C_Alike) "__class__" = some (some (.builtin "object.__class__")))
    (t2_Alike : PySem.W.specialIn K (.builtin "object.__class__") "__get__" = some (some (.builtin "getset_descriptor.__get__")))
    (t3_Alike : PySem.W.takesIn K (.builtin "object.__class__") = some true)
    (t4_Alike : PySem.W.mroIn K C_Alike (.type "object") = some true)
    (ki_Alike_Rows : PySem.W.kitOne K (.ref C_Alike) (.ref C_Rows) = some false)
    (ki_Alike_Alike : PySem.W.kitOne K (.ref C_Alike) (.ref C_Alike) = some true)
    (ki_Alike_Steps : PySem.W.kitOne K (.ref C_Alike) (.ref C_Steps) = some false)
    (ki_Alike_Back : PySem.W.kitOne K (.ref C_Alike) (.ref C_Back) = some false)
    (ki_Alike_Lost : PySem.W.kitOne K (.ref C_Alike) (.ref C_Lost) = some false)
    (ki_Alike_Answer : PySem.W.kitOne K (.ref C_Alike) (.ref C_Answer) = some true)
    (ki_Alike_Apart : PySem.W.kitOne K (.ref C_Alike) (.ref C_Apart) = some false)
    (ki_Alike_BadRules : PySem.W.kitOne K (.ref C_Alike) (.ref C_BadRules) = some false)
    (ki_Alike_BadSet : PySem.W.kitOne K (.ref C_Alike) (.ref C_BadSet) = some false)
    (ki_Alike_BadParts : PySem.W.kitOne K (.ref C_Alike) (.ref C_BadParts) = some false)
    (ki_Alike_Unlike : PySem.W.kitOne K (.ref C_Alike) (.ref C_Unlike) = some false)
    (ki_Alike_BadTable : PySem.W.kitOne K (.ref C_Alike) (.ref C_BadTable) = some false)
    (ki_Alike_BadText : PySem.W.kitOne K (.ref C_Alike) (.ref C_BadText) = some false)
    (t1_Apart : PySem.W.findIn K (.ref C_Apart) "__class__" = some (some (.builtin "object.__class__")))
    (t2_Apart : PySem.W.specialIn K (.builtin "object.__class__") "__get__" = some (some (.builtin "getset_descriptor.__get__")))
    (t3_Apart : PySem.W.takesIn K (.builtin "object.__class__") = some true)
    (t4_Apart : PySem.W.mroIn K C_Apart (.type "object") = some true)
    (ki_Apart_Rows : PySem.W.kitOne K (.ref C_Apart) (.ref C_Rows) = some false)
    (ki_Apart_Alike : PySem.W.kitOne K (.ref C_Apart) (.ref C_Alike) = some false)
    (ki_Apart_Steps : PySem.W.kitOne K (.ref C_Apart) (.ref C_Steps) = some false)
    (ki_Apart_Back : PySem.W.kitOne K (.ref C_Apart) (.ref C_Back) = some false)
    (ki_Apart_Lost : PySem.W.kitOne K (.ref C_Apart) (.ref C_Lost) = some false)
    (ki_Apart_Answer : PySem.W.kitOne K (.ref C_Apart) (.ref C_Answer) = some true)
    (ki_Apart_Apart : PySem.W.kitOne K (.ref C_Apart) (.ref C_Apart) = some true)
    (ki_Apart_BadRules : PySem.W.kitOne K (.ref C_Apart) (.ref C_BadRules) = some false)
    (ki_Apart_BadSet : PySem.W.kitOne K (.ref C_Apart) (.ref C_BadSet) = some false)
    (ki_Apart_BadParts : PySem.W.kitOne K (.ref C_Apart) (.ref C_BadParts) = some false)
    (ki_Apart_Unlike : PySem.W.kitOne K (.ref C_Apart) (.ref C_Unlike) = some false)
    (ki_Apart_BadTable : PySem.W.kitOne K (.ref C_Apart) (.ref C_BadTable) = some false)
    (ki_Apart_BadText : PySem.W.kitOne K (.ref C_Apart) (.ref C_BadText) = some false)
    (t1_Unlike : PySem.W.findIn K (.ref C_Unlike) "__class__" = some (some (.builtin "object.__class__")))
    (t2_Unlike : PySem.W.specialIn K (.builtin "object.__class__") "__get__" = some (some (.builtin "getset_descriptor.__get__")))
    (t3_Unlike : PySem.W.takesIn K (.builtin "object.__class__") = some true)
    (t4_Unlike : PySem.W.mroIn K C_Unlike (.type "object") = some true)
    (ki_Unlike_Rows : PySem.W.kitOne K (.ref C_Unlike) (.ref C_Rows) = some false)
    (ki_Unlike_Alike : PySem.W.kitOne K (.ref C_Unlike) (.ref C_Alike) = some false)
    (ki_Unlike_Steps : PySem.W.kitOne K (.ref C_Unlike) (.ref C_Steps) = some false)
    (ki_Unlike_Back : PySem.W.kitOne K (.ref C_Unlike) (.ref C_Back) = some false)
    (ki_Unlike_Lost : PySem.W.kitOne K (.ref C_Unlike) (.ref C_Lost) = some false)
    (ki_Unlike_Answer : PySem.W.kitOne K (.ref C_Unlike) (.ref C_Answer) = some false)
    (ki_Unlike_Apart : PySem.W.kitOne K (.ref C_Unlike) (.ref C_Apart) = some false)
    (ki_Unlike_BadRules : PySem.W.kitOne K (.ref C_Unlike) (.ref C_BadRules) = some false)
    (ki_Unlike_BadSet : PySem.W.kitOne K (.ref C_Unlike) (.ref C_BadSet) = some false)
    (ki_Unlike_BadParts : PySem.W.kitOne K (.ref C_Unlike) (.ref C_BadParts) = some false)
    (ki_Unlike_Unlike : PySem.W.kitOne K (.ref C_Unlike) (.ref C_Unlike) = some true)
    (ki_Unlike_BadTable : PySem.W.kitOne K (.ref C_Unlike) (.ref C_BadTable) = some false)
    (ki_Unlike_BadText : PySem.W.kitOne K (.ref C_Unlike) (.ref C_BadText) = some false)
    (xi_Unlike : PySem.W.excIn K C_Unlike [.type "ValueError", .type "Exception", .type "BaseException", .type "object"] "ValueError.__new__" = true)
    (ga_Unlike : PySem.W.findIn K (.ref C_Unlike) "__getattribute__" = some (some (.builtin "BaseException.__getattribute__")))
    (gh_Unlike : PySem.W.findIn K (.ref C_Unlike) "__getattr__" = some none)
    (mb_Unlike : PySem.W.mroIn K C_Unlike (.type "BaseException") = some true)
    (ki_Unlike_VE : PySem.W.kitOne K (.ref C_Unlike) (.type "ValueError") = some true)
    (xi_TellError : PySem.W.excIn K C_TellError [.type "ValueError", .type "Exception", .type "BaseException", .type "object"] "ValueError.__new__" = true)
    (up_Unlike_TellError : PySem.W.mroIn K C_Unlike (.ref C_TellError) = some true)
    (z_ValueError : PySem.W.nsIn K mainGlobals "ValueError" = some none)
    (z_all : PySem.W.nsIn K mainGlobals "all" = some none)
    (z_any : PySem.W.nsIn K mainGlobals "any" = some none)
    (z_bool : PySem.W.nsIn K mainGlobals "bool" = some none)
    (z_enumerate : PySem.W.nsIn K mainGlobals "enumerate" = some none)
    (z_int : PySem.W.nsIn K mainGlobals "int" = some none)
    (z_isinstance : PySem.W.nsIn K mainGlobals "isinstance" = some none)
    (z_len : PySem.W.nsIn K mainGlobals "len" = some none)
    (z_list : PySem.W.nsIn K mainGlobals "list" = some none)
    (z_range : PySem.W.nsIn K mainGlobals "range" = some none)
    (z_tuple : PySem.W.nsIn K mainGlobals "tuple" = some none)
    (z_zip : PySem.W.nsIn K mainGlobals "zip" = some none)
    {t_MOST_COLUMNS : Tok} (g_MOST_COLUMNS : PySem.W.nsIn K mainGlobals "MOST_COLUMNS" = some (some (.int 6 t_MOST_COLUMNS)))
    {t_MOST_RULES : Tok} (g_MOST_RULES : PySem.W.nsIn K mainGlobals "MOST_RULES" = some (some (.int 64 t_MOST_RULES)))
    {t_MOST_ROWS : Tok} (g_MOST_ROWS : PySem.W.nsIn K mainGlobals "MOST_ROWS" = some (some (.int 64 t_MOST_ROWS)))
    {t_MOST_NUMBER : Tok} (g_MOST_NUMBER : PySem.W.nsIn K mainGlobals "MOST_NUMBER" = some (some (.int 99 t_MOST_NUMBER)))
    : ∃ fd : FuncData, (∀ (s : Shared) (v : Value), BindsTo s fd ⟨[v], []⟩ [("_law_script", v)]) ∧ ∀ base : Heap, K.In base → base.Ns mainGlobals mg → FnOk l.prog w K mg base CX0 13 fa fd ["_law_script"] (sp_law K) := by
  have e := hfa.symm.trans (PySem.W.mg_of X G a_law)
  cases e
  have T : Txt K mg ⟨f_is_number, (PySem.W.fnOf "is_number" "is_number" (defArgs s_is_number) (defBody s_is_number) (defScope s_is_number) .none kV_is_number dc_is_number pm_is_number an_is_number cd_is_number ct_is_number), f_is_list, (PySem.W.fnOf "is_list" "is_list" (defArgs s_is_list) (defBody s_is_list) (defScope s_is_list) .none kV_is_list dc_is_list pm_is_list an_is_list cd_is_list ct_is_list), f_is_count, (PySem.W.fnOf "is_count" "is_count" (defArgs s_is_count) (defBody s_is_count) (defScope s_is_count) .none kV_is_count dc_is_count pm_is_count an_is_count cd_is_count ct_is_count), f_all_columns, (PySem.W.fnOf "all_columns" "all_columns" (defArgs s_all_columns) (defBody s_all_columns) (defScope s_all_columns) .none kV_all_columns dc_all_columns pm_all_columns an_all_columns cd_all_columns ct_all_columns), f_is_set, (PySem.W.fnOf "is_set" "is_set" (defArgs s_is_set) (defBody s_is_set) (defScope s_is_set) .none kV_is_set dc_is_set pm_is_set an_is_set cd_is_set ct_is_set), f_is_rule, (PySem.W.fnOf "is_rule" "is_rule" (defArgs s_is_rule) (defBody s_is_rule) (defScope s_is_rule) .none kV_is_rule dc_is_rule pm_is_rule an_is_rule cd_is_rule ct_is_rule), f_are_rules, (PySem.W.fnOf "are_rules" "are_rules" (defArgs s_are_rules) (defBody s_are_rules) (defScope s_are_rules) .none kV_are_rules dc_are_rules pm_are_rules an_are_rules cd_are_rules ct_are_rules), f_is_row, (PySem.W.fnOf "is_row" "is_row" (defArgs s_is_row) (defBody s_is_row) (defScope s_is_row) .none kV_is_row dc_is_row pm_is_row an_is_row cd_is_row ct_is_row), f_is_table, (PySem.W.fnOf "is_table" "is_table" (defArgs s_is_table) (defBody s_is_table) (defScope s_is_table) .none kV_is_table dc_is_table pm_is_table an_is_table cd_is_table ct_is_table), f_is_within, (PySem.W.fnOf "is_within" "is_within" (defArgs s_is_within) (defBody s_is_within) (defScope s_is_within) .none kV_is_within dc_is_within pm_is_within an_is_within cd_is_within ct_is_within), f_cells, (PySem.W.fnOf "cells" "cells" (defArgs s_cells) (defBody s_cells) (defScope s_cells) .none kV_cells dc_cells pm_cells an_cells cd_cells ct_cells), f_keeps, (PySem.W.fnOf "keeps" "keeps" (defArgs s_keeps) (defBody s_keeps) (defScope s_keeps) .none kV_keeps dc_keeps pm_keeps an_keeps cd_keeps ct_keeps), f_keeps_all, (PySem.W.fnOf "keeps_all" "keeps_all" (defArgs s_keeps_all) (defBody s_keeps_all) (defScope s_keeps_all) .none kV_keeps_all dc_keeps_all pm_keeps_all an_keeps_all cd_keeps_all ct_keeps_all), f_row_of, (PySem.W.fnOf "row_of" "row_of" (defArgs s_row_of) (defBody s_row_of) (defScope s_row_of) .none kV_row_of dc_row_of pm_row_of an_row_of cd_row_of ct_row_of), f_Steps_init, (PySem.W.fnOf "__init__" "Steps.__init__" (defArgs s_Steps_init) (defBody s_Steps_init) (defScope s_Steps_init) .none kV_Steps_init dc_Steps_init pm_Steps_init an_Steps_init cd_Steps_init ct_Steps_init), f_Rows_init, (PySem.W.fnOf "__init__" "Rows.__init__" (defArgs s_Rows_init) (defBody s_Rows_init) (defScope s_Rows_init) .none kV_Rows_init dc_Rows_init pm_Rows_init an_Rows_init cd_Rows_init ct_Rows_init), f_Alike_init, (PySem.W.fnOf "__init__" "Alike.__init__" (defArgs s_Alike_init) (defBody s_Alike_init) (defScope s_Alike_init) .none kV_Alike_init dc_Alike_init pm_Alike_init an_Alike_init cd_Alike_init ct_Alike_init), f_Alike_shows, (PySem.W.fnOf "shows" "Alike.shows" (defArgs s_Alike_shows) (defBody s_Alike_shows) (defScope s_Alike_shows) .none kV_Alike_shows dc_Alike_shows pm_Alike_shows an_Alike_shows cd_Alike_shows ct_Alike_shows), f_Apart_init, (PySem.W.fnOf "__init__" "Apart.__init__" (defArgs s_Apart_init) (defBody s_Apart_init) (defScope s_Apart_init) .none kV_Apart_init dc_Apart_init pm_Apart_init an_Apart_init cd_Apart_init ct_Apart_init), f_Apart_shows, (PySem.W.fnOf "shows" "Apart.shows" (defArgs s_Apart_shows) (defBody s_Apart_shows) (defScope s_Apart_shows) .none kV_Apart_shows dc_Apart_shows pm_Apart_shows an_Apart_shows cd_Apart_shows ct_Apart_shows), f_is_place, (PySem.W.fnOf "is_place" "is_place" (defArgs s_is_place) (defBody s_is_place) (defScope s_is_place) .none kV_is_place dc_is_place pm_is_place an_is_place cd_is_place ct_is_place), f_lead, (PySem.W.fnOf "lead" "lead" (defArgs s_lead) (defBody s_lead) (defScope s_lead) .none kV_lead dc_lead pm_lead an_lead cd_lead ct_lead), f_all_lead, (PySem.W.fnOf "all_lead" "all_lead" (defArgs s_all_lead) (defBody s_all_lead) (defScope s_all_lead) .none kV_all_lead dc_all_lead pm_all_lead an_all_lead cd_all_lead ct_all_lead), f_break_alone, (PySem.W.fnOf "break_alone" "break_alone" (defArgs s_break_alone) (defBody s_break_alone) (defScope s_break_alone) .none kV_break_alone dc_break_alone pm_break_alone an_break_alone cd_break_alone ct_break_alone), f_Rules_init, (PySem.W.fnOf "__init__" "Rules.__init__" (defArgs s_Rules_init) (defBody s_Rules_init) (defScope s_Rules_init) .none kV_Rules_init dc_Rules_init pm_Rules_init an_Rules_init cd_Rules_init ct_Rules_init), f_Rules_rules, (PySem.W.fnOf "rules" "Rules.rules" (defArgs s_Rules_rules) (defBody s_Rules_rules) (defScope s_Rules_rules) .none kV_Rules_rules dc_Rules_rules pm_Rules_rules an_Rules_rules cd_Rules_rules ct_Rules_rules), f_spread, (PySem.W.fnOf "spread" "spread" (defArgs s_spread) (defBody s_spread) (defScope s_spread) .none kV_spread dc_spread pm_spread an_spread cd_spread ct_spread), f_follows, (PySem.W.fnOf "follows" "follows" (defArgs s_follows) (defBody s_follows) (defScope s_follows) .none kV_follows dc_follows pm_follows an_follows cd_follows ct_follows), f_steps_to, (PySem.W.fnOf "steps_to" "steps_to" (defArgs s_steps_to) (defBody s_steps_to) (defScope s_steps_to) .none kV_steps_to dc_steps_to pm_steps_to an_steps_to cd_steps_to ct_steps_to), f_first_useful, (PySem.W.fnOf "first_useful" "first_useful" (defArgs s_first_useful) (defBody s_first_useful) (defScope s_first_useful) .none kV_first_useful dc_first_useful pm_first_useful an_first_useful cd_first_useful ct_first_useful), f_alike, (PySem.W.fnOf "alike" "alike" (defArgs s_alike) (defBody s_alike) (defScope s_alike) .none kV_alike dc_alike pm_alike an_alike cd_alike ct_alike), f_law_cell_at, (PySem.W.fnOf "_law_cell_at" "_law_cell_at" (defArgs s_law_cell_at) (defBody s_law_cell_at) (defScope s_law_cell_at) .none kV_law_cell_at dc_law_cell_at pm_law_cell_at an_law_cell_at cd_law_cell_at ct_law_cell_at), f_law_draw, (PySem.W.fnOf "_law_draw" "_law_draw" (defArgs s_law_draw) (defBody s_law_draw) (defScope s_law_draw) .none kV_law_draw dc_law_draw pm_law_draw an_law_draw cd_law_draw ct_law_draw), f_law_set, (PySem.W.fnOf "_law_set" "_law_set" (defArgs s_law_set) (defBody s_law_set) (defScope s_law_set) .none kV_law_set dc_law_set pm_law_set an_law_set cd_law_set ct_law_set), f_law_pairs, (PySem.W.fnOf "_law_pairs" "_law_pairs" (defArgs s_law_pairs) (defBody s_law_pairs) (defScope s_law_pairs) .none kV_law_pairs dc_law_pairs pm_law_pairs an_law_pairs cd_law_pairs ct_law_pairs), f_law_told, (PySem.W.fnOf "_law_told" "_law_told" (defArgs s_law_told) (defBody s_law_told) (defScope s_law_told) .none kV_law_told dc_law_told pm_law_told an_law_told cd_law_told ct_law_told), f_law_like, (PySem.W.fnOf "_law_like" "_law_like" (defArgs s_law_like) (defBody s_law_like) (defScope s_law_like) .none kV_law_like dc_law_like pm_law_like an_law_like cd_law_like ct_law_like), f_law_keeps, (PySem.W.fnOf "_law_keeps" "_law_keeps" (defArgs s_law_keeps) (defBody s_law_keeps) (defScope s_law_keeps) .none kV_law_keeps dc_law_keeps pm_law_keeps an_law_keeps cd_law_keeps ct_law_keeps), f_law_numbers, (PySem.W.fnOf "_law_numbers" "_law_numbers" (defArgs s_law_numbers) (defBody s_law_numbers) (defScope s_law_numbers) .none kV_law_numbers dc_law_numbers pm_law_numbers an_law_numbers cd_law_numbers ct_law_numbers), f_law_steps, (PySem.W.fnOf "_law_steps" "_law_steps" (defArgs s_law_steps) (defBody s_law_steps) (defScope s_law_steps) .none kV_law_steps dc_law_steps pm_law_steps an_law_steps cd_law_steps ct_law_steps), f_law_rows, (PySem.W.fnOf "_law_rows" "_law_rows" (defArgs s_law_rows) (defBody s_law_rows) (defScope s_law_rows) .none kV_law_rows dc_law_rows pm_law_rows an_law_rows cd_law_rows ct_law_rows), f_law_led, (PySem.W.fnOf "_law_led" "_law_led" (defArgs s_law_led) (defBody s_law_led) (defScope s_law_led) .none kV_law_led dc_law_led pm_law_led an_law_led cd_law_led ct_law_led), f_law_right, (PySem.W.fnOf "_law_right" "_law_right" (defArgs s_law_right) (defBody s_law_right) (defScope s_law_right) .none kV_law_right dc_law_right pm_law_right an_law_right cd_law_right ct_law_right), f_law_other, (PySem.W.fnOf "_law_other" "_law_other" (defArgs s_law_other) (defBody s_law_other) (defScope s_law_other) .none kV_law_other dc_law_other pm_law_other an_law_other cd_law_other ct_law_other), f_law_unlike, (PySem.W.fnOf "_law_unlike" "_law_unlike" (defArgs s_law_unlike) (defBody s_law_unlike) (defScope s_law_unlike) .none kV_law_unlike dc_law_unlike pm_law_unlike an_law_unlike cd_law_unlike ct_law_unlike), fa, (PySem.W.fnOf "law" "law" (defArgs s_law) (defBody s_law) (defScope s_law) .none kV_law dc_law pm_law an_law cd_law ct_law), C_Steps, C_Rows, C_Alike, C_Apart, C_Rules, C_Back, C_Lost, C_Answer, C_BadRules, C_BadSet, C_BadParts, C_Unlike, C_BadTable, C_BadText, C_TellError⟩ := by
    constructor
    · exact fun_mk (st := s_is_number) l_is_number c_is_number k_is_number
    · exact (fun_mk (st := s_is_number) l_is_number c_is_number k_is_number).binds (ps := ["value", "least", "most"]) fun _ _ _ _ _ _ us hl => match us, hl with | [_, _, _], _ => rfl
    · exact PySem.W.mg_of X G a_is_number
    · exact fun_mk (st := s_is_list) l_is_list c_is_list k_is_list
    · exact (fun_mk (st := s_is_list) l_is_list c_is_list k_is_list).binds (ps := ["value", "least", "most"]) fun _ _ _ _ _ _ us hl => match us, hl with | [_, _, _], _ => rfl
    · exact PySem.W.mg_of X G a_is_list
    · exact fun_mk (st := s_is_count) l_is_count c_is_count k_is_count
    · exact (fun_mk (st := s_is_count) l_is_count c_is_count k_is_count).binds (ps := ["columns"]) fun _ _ _ _ _ _ us hl => match us, hl with | [_], _ => rfl
    · exact PySem.W.mg_of X G a_is_count
    · exact fun_mk (st := s_all_columns) l_all_columns c_all_columns k_all_columns
    · exact (fun_mk (st := s_all_columns) l_all_columns c_all_columns k_all_columns).binds (ps := ["columns"]) fun _ _ _ _ _ _ us hl => match us, hl with | [_], _ => rfl
    · exact PySem.W.mg_of X G a_all_columns
    · exact fun_mk (st := s_is_set) l_is_set c_is_set k_is_set
    · exact (fun_mk (st := s_is_set) l_is_set c_is_set k_is_set).binds (ps := ["value", "columns"]) fun _ _ _ _ _ _ us hl => match us, hl with | [_, _], _ => rfl
    · exact PySem.W.mg_of X G a_is_set
    · exact fun_mk (st := s_is_rule) l_is_rule c_is_rule k_is_rule
    · exact (fun_mk (st := s_is_rule) l_is_rule c_is_rule k_is_rule).binds (ps := ["value", "columns"]) fun _ _ _ _ _ _ us hl => match us, hl with | [_, _], _ => rfl
    · exact PySem.W.mg_of X G a_is_rule
    · exact fun_mk (st := s_are_rules) l_are_rules c_are_rules k_are_rules
    · exact (fun_mk (st := s_are_rules) l_are_rules c_are_rules k_are_rules).binds (ps := ["value", "columns"]) fun _ _ _ _ _ _ us hl => match us, hl with | [_, _], _ => rfl
    · exact PySem.W.mg_of X G a_are_rules
    · exact fun_mk (st := s_is_row) l_is_row c_is_row k_is_row
    · exact (fun_mk (st := s_is_row) l_is_row c_is_row k_is_row).binds (ps := ["value", "columns"]) fun _ _ _ _ _ _ us hl => match us, hl with | [_, _], _ => rfl
    · exact PySem.W.mg_of X G a_is_row
    · exact fun_mk (st := s_is_table) l_is_table c_is_table k_is_table
    · exact (fun_mk (st := s_is_table) l_is_table c_is_table k_is_table).binds (ps := ["value", "columns"]) fun _ _ _ _ _ _ us hl => match us, hl with | [_, _], _ => rfl
    · exact PySem.W.mg_of X G a_is_table
    · exact fun_mk (st := s_is_within) l_is_within c_is_within k_is_within
    · exact (fun_mk (st := s_is_within) l_is_within c_is_within k_is_within).binds (ps := ["some", "whole"]) fun _ _ _ _ _ _ us hl => match us, hl with | [_, _], _ => rfl
    · exact PySem.W.mg_of X G a_is_within
    · exact fun_mk (st := s_cells) l_cells c_cells k_cells
    · exact (fun_mk (st := s_cells) l_cells c_cells k_cells).binds (ps := ["row", "some"]) fun _ _ _ _ _ _ us hl => match us, hl with | [_, _], _ => rfl
    · exact PySem.W.mg_of X G a_cells
    · exact fun_mk (st := s_keeps) l_keeps c_keeps k_keeps
    · exact (fun_mk (st := s_keeps) l_keeps c_keeps k_keeps).binds (ps := ["table", "rule"]) fun _ _ _ _ _ _ us hl => match us, hl with | [_, _], _ => rfl
    · exact PySem.W.mg_of X G a_keeps
    · exact fun_mk (st := s_keeps_all) l_keeps_all c_keeps_all k_keeps_all
    · exact (fun_mk (st := s_keeps_all) l_keeps_all c_keeps_all k_keeps_all).binds (ps := ["table", "pairs"]) fun _ _ _ _ _ _ us hl => match us, hl with | [_, _], _ => rfl
    · exact PySem.W.mg_of X G a_keeps_all
    · exact fun_mk (st := s_row_of) l_row_of c_row_of k_row_of
    · exact (fun_mk (st := s_row_of) l_row_of c_row_of k_row_of).binds (ps := ["columns", "some", "number"]) fun _ _ _ _ _ _ us hl => match us, hl with | [_, _, _], _ => rfl
    · exact PySem.W.mg_of X G a_row_of
    · exact fun_mk (st := s_Steps_init) l_Steps_init c_Steps_init k_Steps_init
    · exact (fun_mk (st := s_Steps_init) l_Steps_init c_Steps_init k_Steps_init).binds (ps := ["self", "places"]) fun _ _ _ _ _ _ us hl => match us, hl with | [_, _], _ => rfl
    · exact ⟨mk_Steps, a_Steps_init, i_Steps_init, kc_Steps⟩
    · exact fun_mk (st := s_Rows_init) l_Rows_init c_Rows_init k_Rows_init
    · exact (fun_mk (st := s_Rows_init) l_Rows_init c_Rows_init k_Rows_init).binds (ps := ["self", "one", "other"]) fun _ _ _ _ _ _ us hl => match us, hl with | [_, _, _], _ => rfl
    · exact ⟨mk_Rows, a_Rows_init, i_Rows_init, kc_Rows⟩
    · exact fun_mk (st := s_Alike_init) l_Alike_init c_Alike_init k_Alike_init
    · exact (fun_mk (st := s_Alike_init) l_Alike_init c_Alike_init k_Alike_init).binds (ps := ["self", "there", "back"]) fun _ _ _ _ _ _ us hl => match us, hl with | [_, _, _], _ => rfl
    · exact ⟨mk_Alike, a_Alike_init, i_Alike_init, kc_Alike⟩
    · exact fun_mk (st := s_Alike_shows) l_Alike_shows c_Alike_shows k_Alike_shows
    · exact (fun_mk (st := s_Alike_shows) l_Alike_shows c_Alike_shows k_Alike_shows).binds (ps := ["self", "one", "other"]) fun _ _ _ _ _ _ us hl => match us, hl with | [_, _, _], _ => rfl
    · exact ⟨a_Alike_shows, i_Alike_shows, k_Alike_shows⟩
    · exact fun_mk (st := s_Apart_init) l_Apart_init c_Apart_init k_Apart_init
    · exact (fun_mk (st := s_Apart_init) l_Apart_init c_Apart_init k_Apart_init).binds (ps := ["self", "side", "place", "one", "other"]) fun _ _ _ _ _ _ us hl => match us, hl with | [_, _, _, _, _], _ => rfl
    · exact ⟨mk_Apart, a_Apart_init, i_Apart_init, kc_Apart⟩
    · exact fun_mk (st := s_Apart_shows) l_Apart_shows c_Apart_shows k_Apart_shows
    · exact (fun_mk (st := s_Apart_shows) l_Apart_shows c_Apart_shows k_Apart_shows).binds (ps := ["self", "one", "other"]) fun _ _ _ _ _ _ us hl => match us, hl with | [_, _, _], _ => rfl
    · exact ⟨a_Apart_shows, i_Apart_shows, k_Apart_shows⟩
    · exact fun_mk (st := s_is_place) l_is_place c_is_place k_is_place
    · exact (fun_mk (st := s_is_place) l_is_place c_is_place k_is_place).binds (ps := ["value", "things"]) fun _ _ _ _ _ _ us hl => match us, hl with | [_, _], _ => rfl
    · exact PySem.W.mg_of X G a_is_place
    · exact fun_mk (st := s_lead) l_lead c_lead k_lead
    · exact (fun_mk (st := s_lead) l_lead c_lead k_lead).binds (ps := ["places", "rules", "left", "right"]) fun _ _ _ _ _ _ us hl => match us, hl with | [_, _, _, _], _ => rfl
    · exact PySem.W.mg_of X G a_lead
    · exact fun_mk (st := s_all_lead) l_all_lead c_all_lead k_all_lead
    · exact (fun_mk (st := s_all_lead) l_all_lead c_all_lead k_all_lead).binds (ps := ["lists", "rules", "others"]) fun _ _ _ _ _ _ us hl => match us, hl with | [_, _, _], _ => rfl
    · exact PySem.W.mg_of X G a_all_lead
    · exact fun_mk (st := s_break_alone) l_break_alone c_break_alone k_break_alone
    · exact (fun_mk (st := s_break_alone) l_break_alone c_break_alone k_break_alone).binds (ps := ["rows", "rules", "rule"]) fun _ _ _ _ _ _ us hl => match us, hl with | [_, _, _], _ => rfl
    · exact PySem.W.mg_of X G a_break_alone
    · exact fun_mk (st := s_Rules_init) l_Rules_init c_Rules_init k_Rules_init
    · exact (fun_mk (st := s_Rules_init) l_Rules_init c_Rules_init k_Rules_init).binds (ps := ["self", "columns", "rules"]) fun _ _ _ _ _ _ us hl => match us, hl with | [_, _, _], _ => rfl
    · exact ⟨mk_Rules, a_Rules_init, i_Rules_init, kc_Rules⟩
    · exact fun_mk (st := s_Rules_rules) l_Rules_rules c_Rules_rules k_Rules_rules
    · exact (fun_mk (st := s_Rules_rules) l_Rules_rules c_Rules_rules k_Rules_rules).binds (ps := ["self"]) fun _ _ _ _ _ _ us hl => match us, hl with | [_], _ => rfl
    · exact ⟨a_Rules_rules, i_Rules_rules, k_Rules_rules⟩
    · exact fun_mk (st := s_spread) l_spread c_spread k_spread
    · exact (fun_mk (st := s_spread) l_spread c_spread k_spread).binds (ps := ["pairs", "some"]) fun _ _ _ _ _ _ us hl => match us, hl with | [_, _], _ => rfl
    · exact PySem.W.mg_of X G a_spread
    · exact fun_mk (st := s_follows) l_follows c_follows k_follows
    · exact (fun_mk (st := s_follows) l_follows c_follows k_follows).binds (ps := ["rules", "left", "right"]) fun _ _ _ _ _ _ us hl => match us, hl with | [_, _, _], _ => rfl
    · exact PySem.W.mg_of X G a_follows
    · exact fun_mk (st := s_steps_to) l_steps_to c_steps_to k_steps_to
    · exact (fun_mk (st := s_steps_to) l_steps_to c_steps_to k_steps_to).binds (ps := ["pairs", "left", "right"]) fun _ _ _ _ _ _ us hl => match us, hl with | [_, _, _], _ => rfl
    · exact PySem.W.mg_of X G a_steps_to
    · exact fun_mk (st := s_first_useful) l_first_useful c_first_useful k_first_useful
    · exact (fun_mk (st := s_first_useful) l_first_useful c_first_useful k_first_useful).binds (ps := ["pairs", "known"]) fun _ _ _ _ _ _ us hl => match us, hl with | [_, _], _ => rfl
    · exact PySem.W.mg_of X G a_first_useful
    · exact fun_mk (st := s_alike) l_alike c_alike k_alike
    · exact (fun_mk (st := s_alike) l_alike c_alike k_alike).binds (ps := ["one", "other"]) fun _ _ _ _ _ _ us hl => match us, hl with | [_, _], _ => rfl
    · exact PySem.W.mg_of X G a_alike
    · exact fun_mk (st := s_law_cell_at) l_law_cell_at c_law_cell_at k_law_cell_at
    · exact (fun_mk (st := s_law_cell_at) l_law_cell_at c_law_cell_at k_law_cell_at).binds (ps := ["_law_script", "_law_k"]) fun _ _ _ _ _ _ us hl => match us, hl with | [_, _], _ => rfl
    · exact PySem.W.mg_of X G a_law_cell_at
    · exact fun_mk (st := s_law_draw) l_law_draw c_law_draw k_law_draw
    · exact (fun_mk (st := s_law_draw) l_law_draw c_law_draw k_law_draw).binds (ps := ["_law_cell", "_law_k", "_law_many"]) fun _ _ _ _ _ _ us hl => match us, hl with | [_, _, _], _ => rfl
    · exact PySem.W.mg_of X G a_law_draw
    · exact fun_mk (st := s_law_set) l_law_set c_law_set k_law_set
    · exact (fun_mk (st := s_law_set) l_law_set c_law_set k_law_set).binds (ps := ["_law_cell", "_law_columns"]) fun _ _ _ _ _ _ us hl => match us, hl with | [_, _], _ => rfl
    · exact PySem.W.mg_of X G a_law_set
    · exact fun_mk (st := s_law_pairs) l_law_pairs c_law_pairs k_law_pairs
    · exact (fun_mk (st := s_law_pairs) l_law_pairs c_law_pairs k_law_pairs).binds (ps := ["_law_cell", "_law_columns", "_law_most"]) fun _ _ _ _ _ _ us hl => match us, hl with | [_, _, _], _ => rfl
    · exact PySem.W.mg_of X G a_law_pairs
    · exact fun_mk (st := s_law_told) l_law_told c_law_told k_law_told
    · exact (fun_mk (st := s_law_told) l_law_told c_law_told k_law_told).binds (ps := ["_law_pairs_here", "_law_some"]) fun _ _ _ _ _ _ us hl => match us, hl with | [_, _], _ => rfl
    · exact PySem.W.mg_of X G a_law_told
    · exact fun_mk (st := s_law_like) l_law_like c_law_like k_law_like
    · exact (fun_mk (st := s_law_like) l_law_like c_law_like k_law_like).binds (ps := ["_law_one", "_law_other_here", "_law_some"]) fun _ _ _ _ _ _ us hl => match us, hl with | [_, _, _], _ => rfl
    · exact PySem.W.mg_of X G a_law_like
    · exact fun_mk (st := s_law_keeps) l_law_keeps c_law_keeps k_law_keeps
    · exact (fun_mk (st := s_law_keeps) l_law_keeps c_law_keeps k_law_keeps).binds (ps := ["_law_table", "_law_rule"]) fun _ _ _ _ _ _ us hl => match us, hl with | [_, _], _ => rfl
    · exact PySem.W.mg_of X G a_law_keeps
    · exact fun_mk (st := s_law_numbers) l_law_numbers c_law_numbers k_law_numbers
    · exact (fun_mk (st := s_law_numbers) l_law_numbers c_law_numbers k_law_numbers).binds (ps := ["_law_found", "_law_most"]) fun _ _ _ _ _ _ us hl => match us, hl with | [_, _], _ => rfl
    · exact PySem.W.mg_of X G a_law_numbers
    · exact fun_mk (st := s_law_steps) l_law_steps c_law_steps k_law_steps
    · exact (fun_mk (st := s_law_steps) l_law_steps c_law_steps k_law_steps).binds (ps := ["_law_pairs_here", "_law_left", "_law_right_here", "_law_places"]) fun _ _ _ _ _ _ us hl => match us, hl with | [_, _, _, _], _ => rfl
    · exact PySem.W.mg_of X G a_law_steps
    · exact fun_mk (st := s_law_rows) l_law_rows c_law_rows k_law_rows
    · exact (fun_mk (st := s_law_rows) l_law_rows c_law_rows k_law_rows).binds (ps := ["_law_pairs_here", "_law_columns", "_law_left", "_law_right_here", "_law_one", "_law_other_here"]) fun _ _ _ _ _ _ us hl => match us, hl with | [_, _, _, _, _, _], _ => rfl
    · exact PySem.W.mg_of X G a_law_rows
    · exact fun_mk (st := s_law_led) l_law_led c_law_led k_law_led
    · exact (fun_mk (st := s_law_led) l_law_led c_law_led k_law_led).binds (ps := ["_law_pairs_here", "_law_others", "_law_lists"]) fun _ _ _ _ _ _ us hl => match us, hl with | [_, _, _], _ => rfl
    · exact PySem.W.mg_of X G a_law_led
    · exact fun_mk (st := s_law_right) l_law_right c_law_right k_law_right
    · exact (fun_mk (st := s_law_right) l_law_right c_law_right k_law_right).binds (ps := ["_law_pairs_here", "_law_others", "_law_columns", "_law_found"]) fun _ _ _ _ _ _ us hl => match us, hl with | [_, _, _, _], _ => rfl
    · exact PySem.W.mg_of X G a_law_right
    · exact fun_mk (st := s_law_other) l_law_other c_law_other k_law_other
    · exact (fun_mk (st := s_law_other) l_law_other c_law_other k_law_other).binds (ps := ["_law_pairs_here", "_law_columns", "_law_cell"]) fun _ _ _ _ _ _ us hl => match us, hl with | [_, _, _], _ => rfl
    · exact PySem.W.mg_of X G a_law_other
    · exact fun_mk (st := s_law_unlike) l_law_unlike c_law_unlike k_law_unlike
    · exact (fun_mk (st := s_law_unlike) l_law_unlike c_law_unlike k_law_unlike).binds (ps := ["_law_one", "_law_other_here"]) fun _ _ _ _ _ _ us hl => match us, hl with | [_, _], _ => rfl
    · exact PySem.W.mg_of X G a_law_unlike
    · exact fun_mk (st := s_law) l_law c_law k_law
    · exact (fun_mk (st := s_law) l_law c_law k_law).binds (ps := ["_law_script"]) fun _ _ _ _ _ _ us hl => match us, hl with | [_], _ => rfl
    · exact PySem.W.mg_of X G a_law
    · exact ⟨pg_Steps, hd_Steps, po_Steps, sa_Steps⟩
    · exact PySem.W.mg_of X G aC_Steps
    · exact na_Steps_places
    · exact ⟨pg_Rows, hd_Rows, po_Rows, sa_Rows⟩
    · exact PySem.W.mg_of X G aC_Rows
    · exact na_Rows_one
    · exact na_Rows_other
    · exact ⟨pg_Alike, hd_Alike, po_Alike, sa_Alike⟩
    · exact PySem.W.mg_of X G aC_Alike
    · exact na_Alike_there
    · exact na_Alike_back
    · exact ⟨pg_Apart, hd_Apart, po_Apart, sa_Apart⟩
    · exact PySem.W.mg_of X G aC_Apart
    · exact na_Apart_side
    · exact na_Apart_place
    · exact na_Apart_one
    · exact na_Apart_other
    · exact ⟨pg_Rules, hd_Rules, po_Rules, sa_Rules⟩
    · exact PySem.W.mg_of X G aC_Rules
    · exact na_Rules_columns
    · exact na_Rules_pairs
    · exact PySem.W.mg_of X G aC_Back
    · exact PySem.W.mg_of X G aC_Lost
    · exact PySem.W.mg_of X G aC_Answer
    · exact PySem.W.mg_of X G aC_BadRules
    · exact PySem.W.mg_of X G aC_BadSet
    · exact PySem.W.mg_of X G aC_BadParts
    · exact PySem.W.mg_of X G aC_Unlike
    · exact PySem.W.mg_of X G aC_BadTable
    · exact PySem.W.mg_of X G aC_BadText
    · exact PySem.W.mg_of X G aC_TellError
    · exact ⟨t1_Steps, t2_Steps, t3_Steps, t4_Steps⟩
    · exact ki_Steps_Rows
    · exact ki_Steps_Alike
    · exact ki_Steps_Steps
    · exact ki_Steps_Back
    · exact ki_Steps_Lost
    · exact ki_Steps_Answer
    · exact ki_Steps_Apart
    · exact ki_Steps_BadRules
    · exact ki_Steps_BadSet
    · exact ki_Steps_BadParts
    · exact ki_Steps_Unlike
    · exact ki_Steps_BadTable
    · exact ki_Steps_BadText
    · exact ⟨t1_Rows, t2_Rows, t3_Rows, t4_Rows⟩
    · exact ki_Rows_Rows
    · exact ki_Rows_Alike
    · exact ki_Rows_Steps
    · exact ki_Rows_Back
    · exact ki_Rows_Lost
    · exact ki_Rows_Answer
    · exact ki_Rows_Apart
    · exact ki_Rows_BadRules
    · exact ki_Rows_BadSet
    · exact ki_Rows_BadParts
    · exact ki_Rows_Unlike
    · exact ki_Rows_BadTable
    · exact ki_Rows_BadText
    · exact ⟨t1_Alike, t2_Alike, t3_Alike, t4_Alike⟩
    · exact ki_Alike_Rows
    · exact ki_Alike_Alike
    · exact ki_Alike_Steps
    · exact ki_Alike_Back
    · exact ki_Alike_Lost
    · exact ki_Alike_Answer
    · exact ki_Alike_Apart
    · exact ki_Alike_BadRules
    · exact ki_Alike_BadSet
    · exact ki_Alike_BadParts
    · exact ki_Alike_Unlike
    · exact ki_Alike_BadTable
    · exact ki_Alike_BadText
    · exact ⟨t1_Apart, t2_Apart, t3_Apart, t4_Apart⟩
    · exact ki_Apart_Rows
    · exact ki_Apart_Alike
    · exact ki_Apart_Steps
    · exact ki_Apart_Back
    · exact ki_Apart_Lost
    · exact ki_Apart_Answer
    · exact ki_Apart_Apart
    · exact ki_Apart_BadRules
    · exact ki_Apart_BadSet
    · exact ki_Apart_BadParts
    · exact ki_Apart_Unlike
    · exact ki_Apart_BadTable
    · exact ki_Apart_BadText
    · exact ⟨t1_Unlike, t2_Unlike, t3_Unlike, t4_Unlike⟩
    · exact ki_Unlike_Rows
    · exact ki_Unlike_Alike
    · exact ki_Unlike_Steps
    · exact ki_Unlike_Back
    · exact ki_Unlike_Lost
    · exact ki_Unlike_Answer
    · exact ki_Unlike_Apart
    · exact ki_Unlike_BadRules
    · exact ki_Unlike_BadSet
    · exact ki_Unlike_BadParts
    · exact ki_Unlike_Unlike
    · exact ki_Unlike_BadTable
    · exact ki_Unlike_BadText
    · exact xi_Unlike
    · exact ⟨ga_Unlike, gh_Unlike, mb_Unlike, ⟨t1_Unlike, t2_Unlike, t3_Unlike, t4_Unlike⟩⟩
    · exact ki_Unlike_VE
    · exact xi_TellError
    · exact up_Unlike_TellError
    · exact PySem.W.mg_none_of X G z_ValueError
    · exact PySem.W.mg_none_of X G z_all
    · exact PySem.W.mg_none_of X G z_any
    · exact PySem.W.mg_none_of X G z_bool
    · exact PySem.W.mg_none_of X G z_enumerate
    · exact PySem.W.mg_none_of X G z_int
    · exact PySem.W.mg_none_of X G z_isinstance
    · exact PySem.W.mg_none_of X G z_len
    · exact PySem.W.mg_none_of X G z_list
    · exact PySem.W.mg_none_of X G z_range
    · exact PySem.W.mg_none_of X G z_tuple
    · exact PySem.W.mg_none_of X G z_zip
    · exact ⟨_, PySem.W.mg_of X G g_MOST_COLUMNS⟩
    · exact ⟨_, PySem.W.mg_of X G g_MOST_RULES⟩
    · exact ⟨_, PySem.W.mg_of X G g_MOST_ROWS⟩
    · exact ⟨_, PySem.W.mg_of X G g_MOST_NUMBER⟩
  exact ⟨_, fun s v => .of_eq rfl, fun base _ _ => ok_law T⟩
theorem walk {l : PySem.W.OpenLaw} {q : Program} {loose : List Str} {XP : (Str → Option Value) → Heap → Prop} {YP : World → Heap → Prop} {d : DefRec} {K : Params → PySem.W.Frag} (hn : l.most = some 63) (hdf : d.params.defaults = [])
    (hY : ∀ (w : World) (h : Heap), YP w h → (K w.params).In h)
    (F : ∀ (w : World) (mg : Str → Option Value) (fa : Addr) (h : Heap), (K w.params).In h → h.Ns mainGlobals mg → mg d.name = some (.ref fa) →
      ∃ fd : FuncData, (∀ (s : Shared) (u : Value), BindsTo s fd ⟨[u], []⟩ [("_law_script", u)]) ∧ ∀ base : Heap, (K w.params).In base → base.Ns mainGlobals mg → FnOk l.prog w (K w.params) mg base CX0 13 fa fd ["_law_script"] (sp_law (K w.params))) :
    PySem.W.WalkO q loose XP YP l.row.toRowW d [] (fun f vs => PySem.call f vs) :=
  L2.walk_of (n := 63) (k := 13) (x := "_law_script") (CX := fun _ => CX0) (sp := fun w => sp_law (K w.params)) hn (by decide) hdf ⟨rfl, by decide, by decide⟩ hY F (fun _ _ a ns hl _ hS => ⟨a, ns, rfl, hS, hl, fun _ => rfl⟩) fun _ _ _ _ _ z => z
end K05
def PySem.W.Fast.tw9246953755020981573 : Unit := ()
def PySem.W.Fast.tw8006733425986925297 : Unit := ()
def PySem.W.Fast.tw366800225900439192 : Unit := ()
def PySem.W.Fast.tw1850479639070934332 : Unit := ()
def PySem.W.Fast.tw16199630316840251682 : Unit := ()
def PySem.W.Fast.tw10960830857695427397 : Unit := ()
def PySem.W.Fast.tw16844657482026451168 : Unit := ()
def PySem.W.Fast.tw16663809155545564097 : Unit := ()
def PySem.W.Fast.tw8809376292022541093 : Unit := ()
def PySem.W.Fast.tw17889725350164660045 : Unit := ()
def PySem.W.Fast.tw17199202564663089363 : Unit := ()
def PySem.W.Fast.tw14544425932584080862 : Unit := ()
def PySem.W.Fast.tw2793514378560715122 : Unit := ()
def PySem.W.Fast.tw5340333608275623695 : Unit := ()
def PySem.W.Fast.tw16907949877716685766 : Unit := ()
def PySem.W.Fast.tw2348174483877147471 : Unit := ()
def PySem.W.Fast.tw15180795973804025126 : Unit := ()
def PySem.W.Fast.tw8630459860539383863 : Unit := ()
def PySem.W.Fast.tw3306605239324889755 : Unit := ()
def PySem.W.Fast.tw16302669176069351860 : Unit := ()
def PySem.W.Fast.tw17716079539069073111 : Unit := ()
def PySem.W.Fast.tw10802082494559821768 : Unit := ()
def PySem.W.Fast.tw5670630160332347643 : Unit := ()
def PySem.W.Fast.tw17341780569211306434 : Unit := ()
def PySem.W.Fast.tw12095448178637530557 : Unit := ()
def PySem.W.Fast.tw4261839705098203337 : Unit := ()
def PySem.W.Fast.tw6699061903911688051 : Unit := ()
def PySem.W.Fast.tw10213282291474779388 : Unit := ()
def PySem.W.Fast.tw3608690213946504904 : Unit := ()
def PySem.W.Fast.tw13753271214055030682 : Unit := ()
def PySem.W.Fast.tw540416332162033072 : Unit := ()
def PySem.W.Fast.tw2288158412581246929 : Unit := ()
def PySem.W.Fast.tw18051101175305189178 : Unit := ()
def PySem.W.Fast.tw3468491743994037696 : Unit := ()
def PySem.W.Fast.tw1626969579597479177 : Unit := ()
def PySem.W.Fast.tw11088628620345207414 : Unit := ()
def PySem.W.Fast.tw6954503927211457998 : Unit := ()
def PySem.W.Fast.tw17544097419033060771 : Unit := ()
def PySem.W.Fast.tw18420980570171422308 : Unit := ()
def PySem.W.Fast.tw10298544535943102077 : Unit := ()
def PySem.W.Fast.tw2606868995307655719 : Unit := ()
def PySem.W.Fast.tw14689447116455090310 : Unit := ()
def PySem.W.Fast.tw17899678596721525568 : Unit := ()
def PySem.W.Fast.tw4193783256911485783 : Unit := ()
def PySem.W.Fast.tw2541462785795482609 : Unit := ()
def PySem.W.Fast.tw8731225653688188439 : Unit := ()
def PySem.W.Fast.tw9128032842782228358 : Unit := ()
def PySem.W.Fast.tw14710159657373858107 : Unit := ()
def PySem.W.Fast.tw6300813791715453223 : Unit := ()
def PySem.W.Fast.tw18271623781808854575 : Unit := ()
def PySem.W.Fast.tw14043113008003266248 : Unit := ()
def PySem.W.Fast.tw13805158318912662995 : Unit := ()
def PySem.W.Fast.tw16055725918704883998 : Unit := ()
def PySem.W.Fast.tw12575855830863355365 : Unit := ()
def PySem.W.Fast.tw13940115752707711399 : Unit := ()
def PySem.W.Fast.tw17664488856613946438 : Unit := ()
def PySem.W.Fast.tw2294720083435163303 : Unit := ()
def PySem.W.Fast.tw10035097341744918528 : Unit := ()
def PySem.W.Fast.tw9808681954421759662 : Unit := ()
def PySem.W.Fast.tw4283923735148809208 : Unit := ()
def PySem.W.Fast.tw14956521533719821741 : Unit := ()
def PySem.W.Fast.tw16170645324099390644 : Unit := ()
def PySem.W.Fast.tw15964444590706496552 : Unit := ()
def PySem.W.Fast.tw10920297515035450390 : Unit := ()
def PySem.W.Fast.tw18403327556282127845 : Unit := ()
def PySem.W.Fast.tw11206749512559004378 : Unit := ()
def PySem.W.Fast.tw15273915999980430073 : Unit := ()
def PySem.W.Fast.tw8470008066169873948 : Unit := ()
def PySem.W.Fast.tw12778277425958042267 : Unit := ()
def PySem.W.Fast.tw16624906844562627418 : Unit := ()
def PySem.W.Fast.tw11885780432314313021 : Unit := ()
def PySem.W.Fast.tw6914807082541104047 : Unit := ()
def PySem.W.Fast.tw2079303291163881796 : Unit := ()
def PySem.W.Fast.tw11818925408121473290 : Unit := ()
def PySem.W.Fast.tw6113101471318443364 : Unit := ()
def PySem.W.Fast.tw1894910921523542921 : Unit := ()
def PySem.W.Fast.tw6687709238181279756 : Unit := ()
def PySem.W.Fast.tw13532247996812315574 : Unit := ()
def PySem.W.Fast.tw13593364848020449935 : Unit := ()
def PySem.W.Fast.tw16994734232985731425 : Unit := ()
def PySem.W.Fast.tw14702296772146025266 : Unit := ()
def PySem.W.Fast.tw7508134073230562157 : Unit := ()
def PySem.W.Fast.tw10175046057784221306 : Unit := ()
def PySem.W.Fast.tw14589432927187160533 : Unit := ()
def PySem.W.Fast.tw202323919355935945 : Unit := ()
def PySem.W.Fast.tw7084509559125683321 : Unit := ()
def PySem.W.Fast.tw6784670478525469322 : Unit := ()
def PySem.W.Fast.tw10985670912403968439 : Unit := ()
def PySem.W.Fast.tw7288857443571841447 : Unit := ()
def PySem.W.Fast.tw9870237383186706013 : Unit := ()
def PySem.W.Fast.tw1977320773772796080 : Unit := ()
def PySem.W.Fast.tw12529606316438159152 : Unit := ()
def PySem.W.Fast.tw6873374808018219997 : Unit := ()
def PySem.W.Fast.tw1779939844000711856 : Unit := ()
def PySem.W.Fast.tw14427984027449023026 : Unit := ()
def PySem.W.Fast.tw11857392654943033251 : Unit := ()
def PySem.W.Fast.tw1478691831275512881 : Unit := ()
def PySem.W.Fast.tw15668074383006568909 : Unit := ()
def PySem.W.Fast.tw2794914050114447560 : Unit := ()
def PySem.W.Fast.tw1242249404528544370 : Unit := ()
def PySem.W.Fast.tw11343206189145225299 : Unit := ()
def PySem.W.Fast.tw12060767294746658924 : Unit := ()
def PySem.W.Fast.tw7497971077021464982 : Unit := ()
def PySem.W.Fast.tw16585914676488440741 : Unit := ()
def PySem.W.Fast.tw15688179631585394 : Unit := ()
def PySem.W.Fast.tw14509920558523483049 : Unit := ()
def PySem.W.Fast.tw16522338133117429864 : Unit := ()
def PySem.W.Fast.tw3411372723174167552 : Unit := ()
def PySem.W.Fast.tw3934481796681543500 : Unit := ()
def PySem.W.Fast.tw1716089165444599561 : Unit := ()
def PySem.W.Fast.tw3935130410210046813 : Unit := ()
def PySem.W.Fast.tw8955712772378185912 : Unit := ()
def PySem.W.Fast.tw16803430438071673433 : Unit := ()
def PySem.W.Fast.tw17614862872132765883 : Unit := ()
def PySem.W.Fast.tw4185002566393194299 : Unit := ()
def PySem.W.Fast.tw11455568412650962037 : Unit := ()
def PySem.W.Fast.tw13777511396081955104 : Unit := ()
def PySem.W.Fast.tw15635856644262594116 : Unit := ()
def PySem.W.Fast.tw12203146934746960914 : Unit := ()
def PySem.W.Fast.tw11686830573755806736 : Unit := ()
def PySem.W.Fast.tw281263220668438372 : Unit := ()
def PySem.W.Fast.tw5287640347675907979 : Unit := ()
def PySem.W.Fast.tw9757750922006412166 : Unit := ()
def PySem.W.Fast.tw12314446162494854152 : Unit := ()
def PySem.W.Fast.tw12219332983710312695 : Unit := ()
def PySem.W.Fast.tw1234564611350281919 : Unit := ()
def PySem.W.Fast.tw7708781042560224567 : Unit := ()
def PySem.W.Fast.tw4134582113246812130 : Unit := ()
def PySem.W.Fast.tw6224636424408234954 : Unit := ()
def PySem.W.Fast.tw18360103049691219020 : Unit := ()
def PySem.W.Fast.tw1325912308924871851 : Unit := ()
def PySem.W.Fast.tw1687843741215736637 : Unit := ()
def PySem.W.Fast.tw11563451925828091560 : Unit := ()
def PySem.W.Fast.tw10111856606104822635 : Unit := ()
def PySem.W.Fast.tw17734177732552766399 : Unit := ()
def PySem.W.Fast.tw9651268562048655866 : Unit := ()
def PySem.W.Fast.tw780895406863819700 : Unit := ()
def PySem.W.Fast.tw15446183752007639067 : Unit := ()
def PySem.W.Fast.tw14954155909065796322 : Unit := ()
def PySem.W.Fast.tw15946991016604823992 : Unit := ()
def PySem.W.Fast.tw14724867146644226484 : Unit := ()
def PySem.W.Fast.tw9723839814400661123 : Unit := ()
def PySem.W.Fast.tw10787775456522645713 : Unit := ()
def PySem.W.Fast.tw10489560180586179158 : Unit := ()
def PySem.W.Fast.tw13558294801473871321 : Unit := ()
def PySem.W.Fast.tw5666009958816667953 : Unit := ()
def PySem.W.Fast.tw1108443262528636248 : Unit := ()
def PySem.W.Fast.tw11467191876069728983 : Unit := ()
def PySem.W.Fast.tw12869850491172723164 : Unit := ()
def PySem.W.Fast.tw11249559479967361531 : Unit := ()
def PySem.W.Fast.tw4690988436268900289 : Unit := ()
def PySem.W.Fast.tw7052785166476096058 : Unit := ()
def PySem.W.Fast.tw1111411788279939228 : Unit := ()
def PySem.W.Fast.tw12491493580437332790 : Unit := ()
def PySem.W.Fast.tw8069357785732060852 : Unit := ()
def PySem.W.Fast.tw15218213591954644827 : Unit := ()
def PySem.W.Fast.tw11830768999753104096 : Unit := ()
def PySem.W.Fast.tw5437661127014505970 : Unit := ()
def PySem.W.Fast.tw11120595603737653359 : Unit := ()
def PySem.W.Fast.tw17445404536474043803 : Unit := ()
def PySem.W.Fast.tw7609941815841701425 : Unit := ()
def PySem.W.Fast.tw7870489798860653122 : Unit := ()
def PySem.W.Fast.tw5792227165039169079 : Unit := ()
def PySem.W.Fast.tw7741281416336658993 : Unit := ()
def PySem.W.Fast.tw8749890629301418351 : Unit := ()
def PySem.W.Fast.tw7553409133588155290 : Unit := ()
def PySem.W.Fast.tw750805290372962441 : Unit := ()
def PySem.W.Fast.tw15244835880013056561 : Unit := ()
def PySem.W.Fast.tw15894761891265276962 : Unit := ()
def PySem.W.Fast.tw17449971938422313762 : Unit := ()
def PySem.W.Fast.tw18062955766542963224 : Unit := ()
def PySem.W.Fast.tw10043874611580722263 : Unit := ()
def PySem.W.Fast.tw1956121072789923897 : Unit := ()
def PySem.W.Fast.tw14601206548503366513 : Unit := ()
def PySem.W.Fast.tw11526812851613173772 : Unit := ()
def PySem.W.Fast.tw11694124874288276960 : Unit := ()
def PySem.W.Fast.tw15670256333803505170 : Unit := ()
def PySem.W.Fast.tw5243797377881602432 : Unit := ()
def PySem.W.Fast.tw16550428126291506082 : Unit := ()
def PySem.W.Fast.tw12850210436394091747 : Unit := ()
def PySem.W.Fast.tw13467641626332702797 : Unit := ()
def PySem.W.Fast.tw17579765055313877528 : Unit := ()
def PySem.W.Fast.tw10085702503347825760 : Unit := ()
def PySem.W.Fast.tw8401076493143195954 : Unit := ()
def PySem.W.Fast.tw14416117715131354860 : Unit := ()
def PySem.W.Fast.tw15146727588845004905 : Unit := ()
def PySem.W.Fast.tw12069637315649205031 : Unit := ()
def PySem.W.Fast.tw11351880736813259882 : Unit := ()
def PySem.W.Fast.tw13966164659152773057 : Unit := ()
def PySem.W.Fast.tw8704937374760360653 : Unit := ()
def PySem.W.Fast.tw2069769556639770746 : Unit := ()
def PySem.W.Fast.tw16380284119969115008 : Unit := ()
def PySem.W.Fast.tw9645621126455979830 : Unit := ()
def PySem.W.Fast.tw15098132783716427318 : Unit := ()
def PySem.W.Fast.tw14538960248638959832 : Unit := ()
def PySem.W.Fast.tw4132590471632555523 : Unit := ()
def PySem.W.Fast.tw7428357365597819525 : Unit := ()
def PySem.W.Fast.tw1777751106123019153 : Unit := ()
def PySem.W.Fast.tw1104234217191315197 : Unit := ()
def PySem.W.Fast.tw12784287683986302750 : Unit := ()
def PySem.W.Fast.tw11803686624078627028 : Unit := ()
def PySem.W.Fast.tw11365532614858137426 : Unit := ()
def PySem.W.Fast.tw5260725092633587305 : Unit := ()
def PySem.W.Fast.tw11966027230916622952 : Unit := ()
def PySem.W.Fast.tw2825716904907376641 : Unit := ()
def PySem.W.Fast.tw9876319782522413311 : Unit := ()
def PySem.W.Fast.tw7560531220871773579 : Unit := ()
def PySem.W.Fast.tw14222886885371309841 : Unit := ()
def PySem.W.Fast.tw11693616705510991706 : Unit := ()
def PySem.W.Fast.tw910124416109828932 : Unit := ()
def PySem.W.Fast.tw14825887649503955505 : Unit := ()
def PySem.W.Fast.tw12515765851454012477 : Unit := ()
def PySem.W.Fast.tw1781309255720345447 : Unit := ()
def PySem.W.Fast.tw11095667711057498709 : Unit := ()
def PySem.W.Fast.tw10599618593703390135 : Unit := ()
def PySem.W.Fast.tw17121459226861649591 : Unit := ()
def PySem.W.Fast.tw7374030920354772043 : Unit := ()
def PySem.W.Fast.tw2340601322717001761 : Unit := ()
def PySem.W.Fast.tw14019169672027505893 : Unit := ()
def PySem.W.Fast.tw10486728784867769024 : Unit := ()
def PySem.W.Fast.tw4110888371450793004 : Unit := ()
def PySem.W.Fast.tw10458102351700275319 : Unit := ()
def PySem.W.Fast.tw17115068649373868590 : Unit := ()
def PySem.W.Fast.tw10921189528635513219 : Unit := ()
def PySem.W.Fast.tw15659988628858722236 : Unit := ()
def PySem.W.Fast.tw1112015193116330366 : Unit := ()
def PySem.W.Fast.tw12295839092093666356 : Unit := ()
def PySem.W.Fast.tw11625033363896049213 : Unit := ()
def PySem.W.Fast.tw14380911239182166799 : Unit := ()
def PySem.W.Fast.tw16276062751506625322 : Unit := ()
def PySem.W.Fast.tw1051507392711704125 : Unit := ()
def PySem.W.Fast.tw12413394528069677553 : Unit := ()
def PySem.W.Fast.tw5341991687550934909 : Unit := ()
def PySem.W.Fast.tw17332323217081266463 : Unit := ()
def PySem.W.Fast.tw4113973042488001452 : Unit := ()
def PySem.W.Fast.tw16677043882262183768 : Unit := ()
def PySem.W.Fast.tw1162434825835590546 : Unit := ()
def PySem.W.Fast.tw11309919023485189666 : Unit := ()
def PySem.W.Fast.tw12627443543098184248 : Unit := ()
def PySem.W.Fast.tw9182857628710076597 : Unit := ()
def PySem.W.Fast.tw15977062181236519274 : Unit := ()
def PySem.W.Fast.tw6820021599469130426 : Unit := ()
def PySem.W.Fast.tw7128200560427515555 : Unit := ()
def PySem.W.Fast.tw12734322023151885337 : Unit := ()
def PySem.W.Fast.tw12212490457150150611 : Unit := ()
def PySem.W.Fast.tw10905110230213979679 : Unit := ()
def PySem.W.Fast.tw17722473332371504812 : Unit := ()
def PySem.W.Fast.tw14779958383033663287 : Unit := ()
def PySem.W.Fast.tw8530685466393462583 : Unit := ()
def PySem.W.Fast.tw2466038278455272514 : Unit := ()
def PySem.W.Fast.tw2616120962085716644 : Unit := ()
def PySem.W.Fast.tw3599129122367088444 : Unit := ()
def PySem.W.Fast.tw5253086217447405507 : Unit := ()
def PySem.W.Fast.tw5077753831937567844 : Unit := ()
def PySem.W.Fast.tw2999936787701264900 : Unit := ()
def PySem.W.Fast.tw9416576911602313172 : Unit := ()
def PySem.W.Fast.tw9223234563235510840 : Unit := ()
def PySem.W.Fast.tw940790111249854824 : Unit := ()
def PySem.W.Fast.tw3719170016149804111 : Unit := ()
def PySem.W.Fast.tw10195963745035176622 : Unit := ()
def PySem.W.Fast.tw2965199382799196904 : Unit := ()
def PySem.W.Fast.tw10648422719775745696 : Unit := ()
def PySem.W.Fast.tw4970280934759032172 : Unit := ()
def PySem.W.Fast.tw10503327953099671927 : Unit := ()
def PySem.W.Fast.tw7802450638627223607 : Unit := ()
def PySem.W.Fast.tw15716517080913390801 : Unit := ()
def PySem.W.Fast.tw11549066523219311941 : Unit := ()
def PySem.W.Fast.tw15107481996057485179 : Unit := ()
def PySem.W.Fast.tw1283100671857845009 : Unit := ()
def PySem.W.Fast.tw5627832266360764229 : Unit := ()
def PySem.W.Fast.tw315414147889823002 : Unit := ()
def PySem.W.Fast.tw5481947765383298012 : Unit := ()
def PySem.W.Fast.tw10377055126328089395 : Unit := ()
def PySem.W.Fast.tw9615788959796891249 : Unit := ()
def PySem.W.Fast.tw9867714631235534922 : Unit := ()
def PySem.W.Fast.tw8345608805980553651 : Unit := ()
def PySem.W.Fast.tw4920419902030875228 : Unit := ()
def PySem.W.Fast.tw4633803218577818921 : Unit := ()
def PySem.W.Fast.tw13428203623879992628 : Unit := ()
def PySem.W.Fast.tw17126342849721745973 : Unit := ()
def PySem.W.Fast.tw14551699579544397337 : Unit := ()
def PySem.W.Fast.tw5025967773587479970 : Unit := ()
def PySem.W.Fast.tw607858225113889051 : Unit := ()
def PySem.W.Fast.tw5710272706641752046 : Unit := ()
def PySem.W.Fast.tw18295289382851056554 : Unit := ()
def PySem.W.Fast.tw17830196225697069660 : Unit := ()
def PySem.W.Fast.tw12978819758398398200 : Unit := ()
def PySem.W.Fast.tw7219019070240650630 : Unit := ()
def PySem.W.Fast.tw1228519008853378633 : Unit := ()
def PySem.W.Fast.tw10300786072719018244 : Unit := ()
def PySem.W.Fast.tw8254690703575417582 : Unit := ()
def PySem.W.Fast.tw8919542771665663047 : Unit := ()
def PySem.W.Fast.tw18306290748206836348 : Unit := ()
def PySem.W.Fast.tw800830404299429598 : Unit := ()
def PySem.W.Fast.tw10122996353371090621 : Unit := ()
def PySem.W.Fast.tw4337497495170504185 : Unit := ()
def PySem.W.Fast.tw16919982086596945675 : Unit := ()
def PySem.W.Fast.tw1675009239870497057 : Unit := ()
def PySem.W.Fast.tw724033998486793824 : Unit := ()
def PySem.W.Fast.tw4099457998470073038 : Unit := ()
def PySem.W.Fast.tw4465143553935210279 : Unit := ()
def PySem.W.Fast.tw7519530958518996832 : Unit := ()
def PySem.W.Fast.tw2774310614516605776 : Unit := ()
def PySem.W.Fast.tw16132989613656904903 : Unit := ()
def PySem.W.Fast.tw17383951051762668572 : Unit := ()
def PySem.W.Fast.tw2114278786808185644 : Unit := ()
def PySem.W.Fast.tw11582316446416845401 : Unit := ()
def PySem.W.Fast.tw8538878430465534015 : Unit := ()
def PySem.W.Fast.tw16279069075127738397 : Unit := ()
def PySem.W.Fast.tw9925713242212417462 : Unit := ()
def PySem.W.Fast.tw9285038565801765307 : Unit := ()
def PySem.W.Fast.tw11531118073768622988 : Unit := ()
def PySem.W.Fast.tw7994295689373210005 : Unit := ()
def PySem.W.Fast.tw6824327478834678564 : Unit := ()
def PySem.W.Fast.tw945052513437903331 : Unit := ()
def PySem.W.Fast.tw15722746341396245799 : Unit := ()
def PySem.W.Fast.tw13865326505771110593 : Unit := ()
def PySem.W.Fast.tw924330707585131417 : Unit := ()
def PySem.W.Fast.tw10297801377771989035 : Unit := ()
def PySem.W.Fast.tw11645678696713555285 : Unit := ()
def PySem.W.Fast.tw15184117323239935724 : Unit := ()
def PySem.W.Fast.tw1265191251331291001 : Unit := ()
def PySem.W.Fast.tw9737471048221902593 : Unit := ()
def PySem.W.Fast.tw4565364167744277443 : Unit := ()
def PySem.W.Fast.tw16739522445482306148 : Unit := ()
def PySem.W.Fast.tw5153038295110256265 : Unit := ()
def PySem.W.Fast.tw10370144050624917247 : Unit := ()
def PySem.W.Fast.tw11764193527566128218 : Unit := ()
def PySem.W.Fast.tw9584852123803501977 : Unit := ()
def PySem.W.Fast.tw16983462747001944571 : Unit := ()
def PySem.W.Fast.tw8361779741323327965 : Unit := ()
def PySem.W.Fast.tw16054181812830533934 : Unit := ()
def PySem.W.Fast.tw6781095367835273057 : Unit := ()
def PySem.W.Fast.tw484046462165869085 : Unit := ()
def PySem.W.Fast.tw8530419538184424714 : Unit := ()
def PySem.W.Fast.tw18024784934456309790 : Unit := ()
def PySem.W.Fast.tw5797941766885035368 : Unit := ()
def PySem.W.Fast.tw12856005466725359462 : Unit := ()
def PySem.W.Fast.tw13655611567647442879 : Unit := ()
def PySem.W.Fast.tw16639511960059352134 : Unit := ()
def PySem.W.Fast.tw17886740129770856392 : Unit := ()
def PySem.W.Fast.tw14757354072278282435 : Unit := ()
def PySem.W.Fast.tw15203009908292764367 : Unit := ()
def PySem.W.Fast.tw14422239585083333774 : Unit := ()
def PySem.W.Fast.tw12442106256971092280 : Unit := ()
def PySem.W.Fast.tw16498747201997547906 : Unit := ()
def PySem.W.Fast.tw3779553339280099494 : Unit := ()
def PySem.W.Fast.tw6874307927821149247 : Unit := ()
def PySem.W.Fast.tw6136112676165856620 : Unit := ()
def PySem.W.Fast.tw8561137117508723557 : Unit := ()
def PySem.W.Fast.tw13837741894919958073 : Unit := ()
def PySem.W.Fast.tw10184589871182920508 : Unit := ()
def PySem.W.Fast.tw3677964009633263000 : Unit := ()
def PySem.W.Fast.tw9550614479273990524 : Unit := ()
def PySem.W.Fast.tw4602709036317147727 : Unit := ()
def PySem.W.Fast.tw8016807800166655719 : Unit := ()
def PySem.W.Fast.tw10454146477635898798 : Unit := ()
def PySem.W.Fast.tw452163468282918288 : Unit := ()
def PySem.W.Fast.tw4886771427729190538 : Unit := ()
def PySem.W.Fast.tw5251615052605294974 : Unit := ()
def PySem.W.Fast.tw7321229930979922621 : Unit := ()
def PySem.W.Fast.tw16856303732409769388 : Unit := ()
def PySem.W.Fast.tw8045835538936277836 : Unit := ()
def PySem.W.Fast.tw3380840580451019420 : Unit := ()
def PySem.W.Fast.tw5769576199892982279 : Unit := ()
def PySem.W.Fast.tw13001794829275167772 : Unit := ()
def PySem.W.Fast.tw16393770510993081652 : Unit := ()
def PySem.W.Fast.tw12802443555753241020 : Unit := ()
def PySem.W.Fast.tw9206689741636955720 : Unit := ()
def PySem.W.Fast.tw14417928186183464433 : Unit := ()
def PySem.W.Fast.tw14994524490616947958 : Unit := ()
def PySem.W.Fast.tw9390269910246511476 : Unit := ()
def PySem.W.Fast.tw4896069165758402966 : Unit := ()
def PySem.W.Fast.tw7311391009395072377 : Unit := ()
def PySem.W.Fast.tw11987337207473184558 : Unit := ()
def PySem.W.Fast.tw10279767241961599098 : Unit := ()
def PySem.W.Fast.tw6481500205153575621 : Unit := ()
def PySem.W.Fast.tw2093978957785922025 : Unit := ()
def PySem.W.Fast.tw5656400275738572905 : Unit := ()
def PySem.W.Fast.tw16194111176031159127 : Unit := ()
def PySem.W.Fast.tw17823530663002969118 : Unit := ()
def PySem.W.Fast.tw3487405742671894122 : Unit := ()
def PySem.W.Fast.tw5747051545223133268 : Unit := ()
def PySem.W.Fast.tw10782513828051090755 : Unit := ()
def PySem.W.Fast.tw3972549717648328230 : Unit := ()
def PySem.W.Fast.tw10716814191436889758 : Unit := ()
def PySem.W.Fast.tw6180426060445317404 : Unit := ()
def PySem.W.Fast.tw4366930403402516914 : Unit := ()
def PySem.W.Fast.tw1284139441895762105 : Unit := ()
def PySem.W.Fast.tw8108840729732484753 : Unit := ()
def PySem.W.Fast.tw8884410539476199086 : Unit := ()
def PySem.W.Fast.tw11668186843577241657 : Unit := ()
def PySem.W.Fast.tw12279261897549164277 : Unit := ()
def PySem.W.Fast.tw13713424937380405704 : Unit := ()
def PySem.W.Fast.tw18195008452557512499 : Unit := ()
def PySem.W.Fast.tw17317165698569599156 : Unit := ()
def PySem.W.Fast.tw4635338166115983396 : Unit := ()
def PySem.W.Fast.tw1852650262841705136 : Unit := ()
def PySem.W.Fast.tw13387643270723229384 : Unit := ()
def PySem.W.Fast.tw4559242861700840025 : Unit := ()
def PySem.W.Fast.tw12581309249451760119 : Unit := ()
def PySem.W.Fast.tw380511477174222146 : Unit := ()
def PySem.W.Fast.tw2173395582626142494 : Unit := ()
def PySem.W.Fast.tw8725941625576667824 : Unit := ()
def PySem.W.Fast.tw4159109690026917618 : Unit := ()
def PySem.W.Fast.tw6962774446684162258 : Unit := ()
def PySem.W.Fast.tw6528909222197910107 : Unit := ()
def PySem.W.Fast.tw1561701740804270929 : Unit := ()
def PySem.W.Fast.tw17076978882987161722 : Unit := ()
def PySem.W.Fast.tw8383472596997281371 : Unit := ()
def PySem.W.Fast.tw6651427296879365524 : Unit := ()
def PySem.W.Fast.tw4458197680391939049 : Unit := ()
def PySem.W.Fast.tw6419888661075005988 : Unit := ()
def PySem.W.Fast.tw10132749245672372215 : Unit := ()
def PySem.W.Fast.tw12149743758597063543 : Unit := ()
def PySem.W.Fast.tw3241077834623484294 : Unit := ()
def PySem.W.Fast.tw11631726476336497463 : Unit := ()
def PySem.W.Fast.tw15301903088780635012 : Unit := ()
def PySem.W.Fast.tw5328208949435779939 : Unit := ()
def PySem.W.Fast.tw2652112952648961759 : Unit := ()
def PySem.W.Fast.tw13575260522853546975 : Unit := ()
def PySem.W.Fast.tw15018627447264562614 : Unit := ()
def PySem.W.Fast.tw4165871340794019952 : Unit := ()
def PySem.W.Fast.tw15164526688227521185 : Unit := ()
def PySem.W.Fast.tw16811080977542820296 : Unit := ()
def PySem.W.Fast.tw2803822026618743074 : Unit := ()
def PySem.W.Fast.tw14194874720065080265 : Unit := ()
def PySem.W.Fast.tw1008656339076451789 : Unit := ()
def PySem.W.Fast.tw10360239228479398181 : Unit := ()
def PySem.W.Fast.tw11992222343821543574 : Unit := ()
def PySem.W.Fast.tw14180187872513275112 : Unit := ()
def PySem.W.Fast.tw15835682600320339884 : Unit := ()
def PySem.W.Fast.tw17213583184648172190 : Unit := ()
def PySem.W.Fast.tw11110029732778674322 : Unit := ()
def PySem.W.Fast.tw11901910282837797881 : Unit := ()
def PySem.W.Fast.tw14292714507174954073 : Unit := ()
def PySem.W.Fast.tw17820452104768479491 : Unit := ()
def PySem.W.Fast.tw5990390760337581135 : Unit := ()
def PySem.W.Fast.tw8974102451749769905 : Unit := ()
def PySem.W.Fast.tw8459749397339715933 : Unit := ()
def PySem.W.Fast.tw17117774255438048149 : Unit := ()
def PySem.W.Fast.tw4453112003588214891 : Unit := ()
def PySem.W.Fast.tw2214837358246057216 : Unit := ()
def PySem.W.Fast.tw6897764206664302508 : Unit := ()
def PySem.W.Fast.tw1679651542119644112 : Unit := ()
def PySem.W.Fast.tw12888599015495632200 : Unit := ()
def PySem.W.Fast.tw15462031480928027874 : Unit := ()
def PySem.W.Fast.tw2767649257426864192 : Unit := ()
def PySem.W.Fast.tw14670779827740240908 : Unit := ()
def PySem.W.Fast.tw8740758169171336275 : Unit := ()
def PySem.W.Fast.tw6510090478580424430 : Unit := ()
def PySem.W.Fast.tw6392986809799305315 : Unit := ()
def PySem.W.Fast.tw5763083496386945633 : Unit := ()
def PySem.W.Fast.tw13399116067410042750 : Unit := ()
def PySem.W.Fast.tw14270060569447171697 : Unit := ()
def PySem.W.Fast.tw13201104750608406999 : Unit := ()
def PySem.W.Fast.tw8121487737031163256 : Unit := ()
def PySem.W.Fast.tw11670877198210914908 : Unit := ()
def PySem.W.Fast.tw2239935884783843261 : Unit := ()
def PySem.W.Fast.tw16877695597691332674 : Unit := ()
def PySem.W.Fast.tw1743719367905347055 : Unit := ()
def PySem.W.Fast.tw6310480944033112222 : Unit := ()
def PySem.W.Fast.tw4178580658384869619 : Unit := ()
def PySem.W.Fast.tw14096352228737817078 : Unit := ()
def PySem.W.Fast.tw7274568731147032335 : Unit := ()
def PySem.W.Fast.tw5360212623689062904 : Unit := ()
def PySem.W.Fast.tw7926557685556109751 : Unit := ()
def PySem.W.Fast.tw4003916872844749611 : Unit := ()
def PySem.W.Fast.tw8213434122756096174 : Unit := ()
def PySem.W.Fast.tw9458301905225381912 : Unit := ()
def PySem.W.Fast.tw7677976764307704647 : Unit := ()
def PySem.W.Fast.tw15069081780450634743 : Unit := ()
def PySem.W.Fast.tw2615210745145546928 : Unit := ()
def PySem.W.Fast.tw16504649184164218109 : Unit := ()
def PySem.W.Fast.tw17874597841072407654 : Unit := ()
def PySem.W.Fast.tw5434071552129833330 : Unit := ()
def PySem.W.Fast.tw5804389549126517772 : Unit := ()
def PySem.W.Fast.tw11047578676677547513 : Unit := ()
def PySem.W.Fast.tw2090334896024729892 : Unit := ()
def PySem.W.Fast.tw7170339240497971472 : Unit := ()
def PySem.W.Fast.tw6925106581722390742 : Unit := ()
def PySem.W.Fast.tw7294847199653806890 : Unit := ()
def PySem.W.Fast.tw6294398145428638240 : Unit := ()
def PySem.W.Fast.tw11184562444290266780 : Unit := ()
def PySem.W.Fast.tw5898593053810938790 : Unit := ()
def PySem.W.Fast.tw3814576797576356314 : Unit := ()
def PySem.W.Fast.tw6934341035168495548 : Unit := ()
def PySem.W.Fast.tw10387246127387433839 : Unit := ()
def PySem.W.Fast.tw15474467197063401168 : Unit := ()
def PySem.W.Fast.tw6070001117881576969 : Unit := ()
def PySem.W.Fast.tw973050561646524924 : Unit := ()
def PySem.W.Fast.tw9053896720515966934 : Unit := ()
def PySem.W.Fast.tw12579428747238135962 : Unit := ()
def PySem.W.Fast.tw14478275730561605825 : Unit := ()
def PySem.W.Fast.tw13243100257134537970 : Unit := ()
def PySem.W.Fast.tw5811061423816877443 : Unit := ()
def PySem.W.Fast.tw9635049485108706307 : Unit := ()
def PySem.W.Fast.tw11925532317005458289 : Unit := ()
def PySem.W.Fast.tw17486625557070579504 : Unit := ()
def PySem.W.Fast.tw14585786695311607721 : Unit := ()
def PySem.W.Fast.tw6644483614346849920 : Unit := ()
def PySem.W.Fast.tw6649601883550438898 : Unit := ()
def PySem.W.Fast.tw3075061709595807033 : Unit := ()
def PySem.W.Fast.tw3248865210236551970 : Unit := ()
def PySem.W.Fast.tw3348455486177062893 : Unit := ()
def PySem.W.Fast.tw8691653236800007893 : Unit := ()
def PySem.W.Fast.tw7018757281168723151 : Unit := ()
def PySem.W.Fast.tw2623495320493438925 : Unit := ()
def PySem.W.Fast.tw11088683948217528851 : Unit := ()
def PySem.W.Fast.tw7851802334527916190 : Unit := ()
def PySem.W.Fast.tw177583743472406800 : Unit := ()
def PySem.W.Fast.tw3253695790423209624 : Unit := ()
def PySem.W.Fast.tw10306526419487003871 : Unit := ()
def PySem.W.Fast.tw16605670597490208717 : Unit := ()
def PySem.W.Fast.tw1318318591191427458 : Unit := ()
def PySem.W.Fast.tw13538258379699845219 : Unit := ()
def PySem.W.Fast.tw1890008631598991939 : Unit := ()
def PySem.W.Fast.tw156471166090025026 : Unit := ()
def PySem.W.Fast.tw14121410020688090319 : Unit := ()
def PySem.W.Fast.tw8263791419449662735 : Unit := ()
def PySem.W.Fast.tw7281221824069561402 : Unit := ()
def PySem.W.Fast.tw17540162066114219960 : Unit := ()
def PySem.W.Fast.tw15778130931955942638 : Unit := ()
def PySem.W.Fast.tw4045963615934222397 : Unit := ()
def PySem.W.Fast.tw15563661647201544265 : Unit := ()
def PySem.W.Fast.tw3528535753530570723 : Unit := ()
def PySem.W.Fast.tw6283963312785940680 : Unit := ()
def PySem.W.Fast.tw10007832269067529177 : Unit := ()
def PySem.W.Fast.tw4326080143036049082 : Unit := ()
def PySem.W.Fast.tw2968867715650982181 : Unit := ()
def PySem.W.Fast.tw6016641390803620915 : Unit := ()
def PySem.W.Fast.tw15295117740561740921 : Unit := ()
def PySem.W.Fast.tw7546516665593644831 : Unit := ()
def PySem.W.Fast.tw15307614122053511413 : Unit := ()
def PySem.W.Fast.tw2790392967572377361 : Unit := ()
def PySem.W.Fast.tw13469955226762665660 : Unit := ()
def PySem.W.Fast.tw15119218912408147766 : Unit := ()
def PySem.W.Fast.tw9851677925905163580 : Unit := ()
def PySem.W.Fast.tw14274937932029151615 : Unit := ()
def PySem.W.Fast.tw1607936761508086209 : Unit := ()
def PySem.W.Fast.tw17909810969925858258 : Unit := ()
def PySem.W.Fast.tw6753794010501980651 : Unit := ()
def PySem.W.Fast.tw5148187915141750151 : Unit := ()
def PySem.W.Fast.tw3237659658112685438 : Unit := ()
def PySem.W.Fast.tw9727613669280589020 : Unit := ()
def PySem.W.Fast.tw11584794390913566728 : Unit := ()
def PySem.W.Fast.tw10142834722140344871 : Unit := ()
def PySem.W.Fast.tw16636810631543252272 : Unit := ()
def PySem.W.Fast.tw3591282534861671402 : Unit := ()
def PySem.W.Fast.tw7236314246795985215 : Unit := ()
def PySem.W.Fast.tw6450242307437033685 : Unit := ()
def PySem.W.Fast.tw9603227681043846933 : Unit := ()
def PySem.W.Fast.tw14743951121584486638 : Unit := ()
open PySem PySem.W PyProof.Rows
set_option maxRecDepth 100000 in
set_option maxHeartbeats 0 in
theorem PySem.Challenge.cw_tellscolumns_k05_whole_alike_holds : PySem.Challenge.rw_tellscolumns_k05_whole_alike.Holds := by
  w_on; o_law; k_head; (case hw => w_witness2)
  k_fill
  refine K05.walk (l := PySem.Challenge.rw_tellscolumns_k05_whole_alike) rfl rfl (fun w h Y => PySem.W.kIn_of Y) ?F
  case F =>
    intro w mg fa h KX G hmg
    refine' K05.all_mk KX G hmg ?aC_Steps ?aC_Rows ?aC_Alike ?aC_Apart ?aC_Rules ?a_is_number ?l_is_number ?c_is_number ?k_is_number ?a_is_list ?l_is_list ?c_is_list ?k_is_list ?a_is_count ?l_is_count ?c_is_count ?k_is_count ?a_all_columns ?l_all_columns ?c_all_columns ?k_all_columns ?a_is_set ?l_is_set ?c_is_set ?k_is_set ?a_is_rule ?l_is_rule ?c_is_rule ?k_is_rule ?a_are_rules ?l_are_rules ?c_are_rules ?k_are_rules ?a_is_row ?l_is_row ?c_is_row ?k_is_row ?a_is_table ?l_is_table ?c_is_table ?k_is_table ?a_is_within ?l_is_within ?c_is_within ?k_is_within ?a_cells ?l_cells ?c_cells ?k_cells ?a_keeps ?l_keeps ?c_keeps ?k_keeps ?a_keeps_all ?l_keeps_all ?c_keeps_all ?k_keeps_all ?a_row_of ?l_row_of ?c_row_of ?k_row_of ?a_Steps_init ?i_Steps_init ?l_Steps_init ?c_Steps_init ?k_Steps_init ?a_Rows_init ?i_Rows_init ?l_Rows_init ?c_Rows_init ?k_Rows_init ?a_Alike_init ?i_Alike_init ?l_Alike_init ?c_Alike_init ?k_Alike_init ?a_Alike_shows ?i_Alike_shows ?l_Alike_shows ?c_Alike_shows ?k_Alike_shows ?a_Apart_init ?i_Apart_init ?l_Apart_init ?c_Apart_init ?k_Apart_init ?a_Apart_shows ?i_Apart_shows ?l_Apart_shows ?c_Apart_shows ?k_Apart_shows ?a_is_place ?l_is_place ?c_is_place ?k_is_place ?a_lead ?l_lead ?c_lead ?k_lead ?a_all_lead ?l_all_lead ?c_all_lead ?k_all_lead ?a_break_alone ?l_break_alone ?c_break_alone ?k_break_alone ?a_Rules_init ?i_Rules_init ?l_Rules_init ?c_Rules_init ?k_Rules_init ?a_Rules_rules ?i_Rules_rules ?l_Rules_rules ?c_Rules_rules ?k_Rules_rules ?a_spread ?l_spread ?c_spread ?k_spread ?a_follows ?l_follows ?c_follows ?k_follows ?a_steps_to ?l_steps_to ?c_steps_to ?k_steps_to ?a_first_useful ?l_first_useful ?c_first_useful ?k_first_useful ?a_alike ?l_alike ?c_alike ?k_alike ?a_law_cell_at ?l_law_cell_at ?c_law_cell_at ?k_law_cell_at ?a_law_draw ?l_law_draw ?c_law_draw ?k_law_draw ?a_law_set ?l_law_set ?c_law_set ?k_law_set ?a_law_pairs ?l_law_pairs ?c_law_pairs ?k_law_pairs ?a_law_told ?l_law_told ?c_law_told ?k_law_told ?a_law_like ?l_law_like ?c_law_like ?k_law_like ?a_law_keeps ?l_law_keeps ?c_law_keeps ?k_law_keeps ?a_law_numbers ?l_law_numbers ?c_law_numbers ?k_law_numbers ?a_law_steps ?l_law_steps ?c_law_steps ?k_law_steps ?a_law_rows ?l_law_rows ?c_law_rows ?k_law_rows ?a_law_led ?l_law_led ?c_law_led ?k_law_led ?a_law_right ?l_law_right ?c_law_right ?k_law_right ?a_law_other ?l_law_other ?c_law_other ?k_law_other ?a_law_unlike ?l_law_unlike ?c_law_unlike ?k_law_unlike ?a_law ?l_law ?c_law ?k_law ?pg_Steps ?hd_Steps ?po_Steps ?sa_Steps ?mk_Steps ?kc_Steps ?na_Steps_places ?pg_Rows ?hd_Rows ?po_Rows ?sa_Rows ?mk_Rows ?kc_Rows ?na_Rows_one ?na_Rows_other ?pg_Alike ?hd_Alike ?po_Alike ?sa_Alike ?mk_Alike ?kc_Alike ?na_Alike_there ?na_Alike_back ?pg_Apart ?hd_Apart ?po_Apart ?sa_Apart ?mk_Apart ?kc_Apart ?na_Apart_side ?na_Apart_place ?na_Apart_one ?na_Apart_other ?pg_Rules ?hd_Rules ?po_Rules ?sa_Rules ?mk_Rules ?kc_Rules ?na_Rules_columns ?na_Rules_pairs ?aC_Back ?aC_Lost ?aC_Answer ?aC_BadRules ?aC_BadSet ?aC_BadParts ?aC_Unlike ?aC_BadTable ?aC_BadText ?aC_TellError ?t1_Steps ?t2_Steps ?t3_Steps ?t4_Steps ?ki_Steps_Rows ?ki_Steps_Alike ?ki_Steps_Steps ?ki_Steps_Back ?ki_Steps_Lost ?ki_Steps_Answer ?ki_Steps_Apart ?ki_Steps_BadRules ?ki_Steps_BadSet ?ki_Steps_BadParts ?ki_Steps_Unlike ?ki_Steps_BadTable ?ki_Steps_BadText ?t1_Rows ?t2_Rows ?t3_Rows ?t4_Rows ?ki_Rows_Rows ?ki_Rows_Alike ?ki_Rows_Steps ?ki_Rows_Back ?ki_Rows_Lost ?ki_Rows_Answer ?ki_Rows_Apart ?ki_Rows_BadRules ?ki_Rows_BadSet ?ki_Rows_BadParts ?ki_Rows_Unlike ?ki_Rows_BadTable ?ki_Rows_BadText ?t1_Alike ?t2_Alike ?t3_Alike ?t4_Alike ?ki_Alike_Rows ?ki_Alike_Alike ?ki_Alike_Steps ?ki_Alike_Back ?ki_Alike_Lost ?ki_Alike_Answer ?ki_Alike_Apart ?ki_Alike_BadRules ?ki_Alike_BadSet ?ki_Alike_BadParts ?ki_Alike_Unlike ?ki_Alike_BadTable ?ki_Alike_BadText ?t1_Apart ?t2_Apart ?t3_Apart ?t4_Apart ?ki_Apart_Rows ?ki_Apart_Alike ?ki_Apart_Steps ?ki_Apart_Back ?ki_Apart_Lost ?ki_Apart_Answer ?ki_Apart_Apart ?ki_Apart_BadRules ?ki_Apart_BadSet ?ki_Apart_BadParts ?ki_Apart_Unlike ?ki_Apart_BadTable ?ki_Apart_BadText ?t1_Unlike ?t2_Unlike ?t3_Unlike ?t4_Unlike ?ki_Unlike_Rows ?ki_Unlike_Alike ?ki_Unlike_Steps ?ki_Unlike_Back ?ki_Unlike_Lost ?ki_Unlike_Answer ?ki_Unlike_Apart ?ki_Unlike_BadRules ?ki_Unlike_BadSet ?ki_Unlike_BadParts ?ki_Unlike_Unlike ?ki_Unlike_BadTable ?ki_Unlike_BadText ?xi_Unlike ?ga_Unlike ?gh_Unlike ?mb_Unlike ?ki_Unlike_VE ?xi_TellError ?up_Unlike_TellError ?z_ValueError ?z_all ?z_any ?z_bool ?z_enumerate ?z_int ?z_isinstance ?z_len ?z_list ?z_range ?z_tuple ?z_zip ?g_MOST_COLUMNS ?g_MOST_RULES ?g_MOST_ROWS ?g_MOST_NUMBER
    (case aC_Steps => k_is)
    (case aC_Rows => k_is)
    (case aC_Alike => k_is)
    (case aC_Apart => k_is)
    (case aC_Rules => k_is)
    (case a_is_number => k_is)
    (case l_is_number => k_is)
    (case c_is_number => k_is)
    (case k_is_number => k_is)
    (case a_is_list => k_is)
    (case l_is_list => k_is)
    (case c_is_list => k_is)
    (case k_is_list => k_is)
    (case a_is_count => k_is)
    (case l_is_count => k_is)
    (case c_is_count => k_is)
    (case k_is_count => k_is)
    (case a_all_columns => k_is)
    (case l_all_columns => k_is)
    (case c_all_columns => k_is)
    (case k_all_columns => k_is)
    (case a_is_set => k_is)
    (case l_is_set => k_is)
    (case c_is_set => k_is)
    (case k_is_set => k_is)
    (case a_is_rule => k_is)
    (case l_is_rule => k_is)
    (case c_is_rule => k_is)
    (case k_is_rule => k_is)
    (case a_are_rules => k_is)
    (case l_are_rules => k_is)
    (case c_are_rules => k_is)
    (case k_are_rules => k_is)
    (case a_is_row => k_is)
    (case l_is_row => k_is)
    (case c_is_row => k_is)
    (case k_is_row => k_is)
    (case a_is_table => k_is)
    (case l_is_table => k_is)
    (case c_is_table => k_is)
    (case k_is_table => k_is)
    (case a_is_within => k_is)
    (case l_is_within => k_is)
    (case c_is_within => k_is)
    (case k_is_within => k_is)
    (case a_cells => k_is)
    (case l_cells => k_is)
    (case c_cells => k_is)
    (case k_cells => k_is)
    (case a_keeps => k_is)
    (case l_keeps => k_is)
    (case c_keeps => k_is)
    (case k_keeps => k_is)
    (case a_keeps_all => k_is)
    (case l_keeps_all => k_is)
    (case c_keeps_all => k_is)
    (case k_keeps_all => k_is)
    (case a_row_of => k_is)
    (case l_row_of => k_is)
    (case c_row_of => k_is)
    (case k_row_of => k_is)
    (case a_Steps_init => k_is)
    (case i_Steps_init => k_is)
    (case l_Steps_init => k_is)
    (case c_Steps_init => k_is)
    (case k_Steps_init => k_is)
    (case a_Rows_init => k_is)
    (case i_Rows_init => k_is)
    (case l_Rows_init => k_is)
    (case c_Rows_init => k_is)
    (case k_Rows_init => k_is)
    (case a_Alike_init => k_is)
    (case i_Alike_init => k_is)
    (case l_Alike_init => k_is)
    (case c_Alike_init => k_is)
    (case k_Alike_init => k_is)
    (case a_Alike_shows => k_is)
    (case i_Alike_shows => k_is)
    (case l_Alike_shows => k_is)
    (case c_Alike_shows => k_is)
    (case k_Alike_shows => k_is)
    (case a_Apart_init => k_is)
    (case i_Apart_init => k_is)
    (case l_Apart_init => k_is)
    (case c_Apart_init => k_is)
    (case k_Apart_init => k_is)
    (case a_Apart_shows => k_is)
    (case i_Apart_shows => k_is)
    (case l_Apart_shows => k_is)
    (case c_Apart_shows => k_is)
    (case k_Apart_shows => k_is)
    (case a_is_place => k_is)
    (case l_is_place => k_is)
    (case c_is_place => k_is)
    (case k_is_place => k_is)
    (case a_lead => k_is)
    (case l_lead => k_is)
    (case c_lead => k_is)
    (case k_lead => k_is)
    (case a_all_lead => k_is)
    (case l_all_lead => k_is)
    (case c_all_lead => k_is)
    (case k_all_lead => k_is)
    (case a_break_alone => k_is)
    (case l_break_alone => k_is)
    (case c_break_alone => k_is)
    (case k_break_alone => k_is)
    (case a_Rules_init => k_is)
    (case i_Rules_init => k_is)
    (case l_Rules_init => k_is)
    (case c_Rules_init => k_is)
    (case k_Rules_init => k_is)
    (case a_Rules_rules => k_is)
    (case i_Rules_rules => k_is)
    (case l_Rules_rules => k_is)
    (case c_Rules_rules => k_is)
    (case k_Rules_rules => k_is)
    (case a_spread => k_is)
    (case l_spread => k_is)
    (case c_spread => k_is)
    (case k_spread => k_is)
    (case a_follows => k_is)
    (case l_follows => k_is)
    (case c_follows => k_is)
    (case k_follows => k_is)
    (case a_steps_to => k_is)
    (case l_steps_to => k_is)
    (case c_steps_to => k_is)
    (case k_steps_to => k_is)
    (case a_first_useful => k_is)
    (case l_first_useful => k_is)
    (case c_first_useful => k_is)
    (case k_first_useful => k_is)
    (case a_alike => k_is)
    (case l_alike => k_is)
    (case c_alike => k_is)
    (case k_alike => k_is)
    (case a_law_cell_at => k_is)
    (case l_law_cell_at => k_is)
    (case c_law_cell_at => k_is)
    (case k_law_cell_at => k_is)
    (case a_law_draw => k_is)
    (case l_law_draw => k_is)
    (case c_law_draw => k_is)
    (case k_law_draw => k_is)
    (case a_law_set => k_is)
    (case l_law_set => k_is)
    (case c_law_set => k_is)
    (case k_law_set => k_is)
    (case a_law_pairs => k_is)
    (case l_law_pairs => k_is)
    (case c_law_pairs => k_is)
    (case k_law_pairs => k_is)
    (case a_law_told => k_is)
    (case l_law_told => k_is)
    (case c_law_told => k_is)
    (case k_law_told => k_is)
    (case a_law_like => k_is)
    (case l_law_like => k_is)
    (case c_law_like => k_is)
    (case k_law_like => k_is)
    (case a_law_keeps => k_is)
    (case l_law_keeps => k_is)
    (case c_law_keeps => k_is)
    (case k_law_keeps => k_is)
    (case a_law_numbers => k_is)
    (case l_law_numbers => k_is)
    (case c_law_numbers => k_is)
    (case k_law_numbers => k_is)
    (case a_law_steps => k_is)
    (case l_law_steps => k_is)
    (case c_law_steps => k_is)
    (case k_law_steps => k_is)
    (case a_law_rows => k_is)
    (case l_law_rows => k_is)
    (case c_law_rows => k_is)
    (case k_law_rows => k_is)
    (case a_law_led => k_is)
    (case l_law_led => k_is)
    (case c_law_led => k_is)
    (case k_law_led => k_is)
    (case a_law_right => k_is)
    (case l_law_right => k_is)
    (case c_law_right => k_is)
    (case k_law_right => k_is)
    (case a_law_other => k_is)
    (case l_law_other => k_is)
    (case c_law_other => k_is)
    (case k_law_other => k_is)
    (case a_law_unlike => k_is)
    (case l_law_unlike => k_is)
    (case c_law_unlike => k_is)
    (case k_law_unlike => k_is)
    (case a_law => k_is)
    (case l_law => k_is)
    (case c_law => k_is)
    (case k_law => k_is)
    (case pg_Steps => k_is)
    (case hd_Steps => k_is)
    (case po_Steps => k_is)
    (case sa_Steps => k_is)
    (case mk_Steps => k_is)
    (case kc_Steps => k_is)
    (case na_Steps_places => k_is)
    (case pg_Rows => k_is)
    (case hd_Rows => k_is)
    (case po_Rows => k_is)
    (case sa_Rows => k_is)
    (case mk_Rows => k_is)
    (case kc_Rows => k_is)
    (case na_Rows_one => k_is)
    (case na_Rows_other => k_is)
    (case pg_Alike => k_is)
    (case hd_Alike => k_is)
    (case po_Alike => k_is)
    (case sa_Alike => k_is)
    (case mk_Alike => k_is)
    (case kc_Alike => k_is)
    (case na_Alike_there => k_is)
    (case na_Alike_back => k_is)
    (case pg_Apart => k_is)
    (case hd_Apart => k_is)
    (case po_Apart => k_is)
    (case sa_Apart => k_is)
    (case mk_Apart => k_is)
    (case kc_Apart => k_is)
    (case na_Apart_side => k_is)
    (case na_Apart_place => k_is)
    (case na_Apart_one => k_is)
    (case na_Apart_other => k_is)
    (case pg_Rules => k_is)
    (case hd_Rules => k_is)
    (case po_Rules => k_is)
    (case sa_Rules => k_is)
    (case mk_Rules => k_is)
    (case kc_Rules => k_is)
    (case na_Rules_columns => k_is)
    (case na_Rules_pairs => k_is)
    (case aC_Back => k_is)
    (case aC_Lost => k_is)
    (case aC_Answer => k_is)
    (case aC_BadRules => k_is)
    (case aC_BadSet => k_is)
    (case aC_BadParts => k_is)
    (case aC_Unlike => k_is)
    (case aC_BadTable => k_is)
    (case aC_BadText => k_is)
    (case aC_TellError => k_is)
    (case t1_Steps => k_is)
    (case t2_Steps => k_is)
    (case t3_Steps => k_is)
    (case t4_Steps => k_is)
    (case ki_Steps_Rows => kit_is)
    (case ki_Steps_Alike => kit_is)
    (case ki_Steps_Steps => kit_is)
    (case ki_Steps_Back => kit_is)
    (case ki_Steps_Lost => kit_is)
    (case ki_Steps_Answer => kit_is)
    (case ki_Steps_Apart => kit_is)
    (case ki_Steps_BadRules => kit_is)
    (case ki_Steps_BadSet => kit_is)
    (case ki_Steps_BadParts => kit_is)
    (case ki_Steps_Unlike => kit_is)
    (case ki_Steps_BadTable => kit_is)
    (case ki_Steps_BadText => kit_is)
    (case t1_Rows => k_is)
    (case t2_Rows => k_is)
    (case t3_Rows => k_is)
    (case t4_Rows => k_is)
    (case ki_Rows_Rows => kit_is)
    (case ki_Rows_Alike => kit_is)
    (case ki_Rows_Steps => kit_is)
    (case ki_Rows_Back => kit_is)
    (case ki_Rows_Lost => kit_is)
    (case ki_Rows_Answer => kit_is)
    (case ki_Rows_Apart => kit_is)
    (case ki_Rows_BadRules => kit_is)
    (case ki_Rows_BadSet => kit_is)
    (case ki_Rows_BadParts => kit_is)
    (case ki_Rows_Unlike => kit_is)
    (case ki_Rows_BadTable => kit_is)
    (case ki_Rows_BadText => kit_is)
    (case t1_Alike => k_is)
    (case t2_Alike => k_is)
    (case t3_Alike => k_is)
    (case t4_Alike => k_is)
    (case ki_Alike_Rows => kit_is)
    (case ki_Alike_Alike => kit_is)
    (case ki_Alike_Steps => kit_is)
    (case ki_Alike_Back => kit_is)
    (case ki_Alike_Lost => kit_is)
    (case ki_Alike_Answer => kit_is)
    (case ki_Alike_Apart => kit_is)
    (case ki_Alike_BadRules => kit_is)
    (case ki_Alike_BadSet => kit_is)
    (case ki_Alike_BadParts => kit_is)
    (case ki_Alike_Unlike => kit_is)
    (case ki_Alike_BadTable => kit_is)
    (case ki_Alike_BadText => kit_is)
    (case t1_Apart => k_is)
    (case t2_Apart => k_is)
    (case t3_Apart => k_is)
    (case t4_Apart => k_is)
    (case ki_Apart_Rows => kit_is)
    (case ki_Apart_Alike => kit_is)
    (case ki_Apart_Steps => kit_is)
    (case ki_Apart_Back => kit_is)
    (case ki_Apart_Lost => kit_is)
    (case ki_Apart_Answer => kit_is)
    (case ki_Apart_Apart => kit_is)
    (case ki_Apart_BadRules => kit_is)
    (case ki_Apart_BadSet => kit_is)
    (case ki_Apart_BadParts => kit_is)
    (case ki_Apart_Unlike => kit_is)
    (case ki_Apart_BadTable => kit_is)
    (case ki_Apart_BadText => kit_is)
    (case t1_Unlike => k_is)
    (case t2_Unlike => k_is)
    (case t3_Unlike => k_is)
    (case t4_Unlike => k_is)
    (case ki_Unlike_Rows => kit_is)
    (case ki_Unlike_Alike => kit_is)
    (case ki_Unlike_Steps => kit_is)
    (case ki_Unlike_Back => kit_is)
    (case ki_Unlike_Lost => kit_is)
    (case ki_Unlike_Answer => kit_is)
    (case ki_Unlike_Apart => kit_is)
    (case ki_Unlike_BadRules => kit_is)
    (case ki_Unlike_BadSet => kit_is)
    (case ki_Unlike_BadParts => kit_is)
    (case ki_Unlike_Unlike => kit_is)
    (case ki_Unlike_BadTable => kit_is)
    (case ki_Unlike_BadText => kit_is)
    (case xi_Unlike => k_exc)
    (case ga_Unlike => k_is)
    (case gh_Unlike => k_is)
    (case mb_Unlike => k_is)
    (case ki_Unlike_VE => kit_is)
    (case xi_TellError => k_exc)
    (case up_Unlike_TellError => k_is)
    (case z_ValueError => k_is)
    (case z_all => k_is)
    (case z_any => k_is)
    (case z_bool => k_is)
    (case z_enumerate => k_is)
    (case z_int => k_is)
    (case z_isinstance => k_is)
    (case z_len => k_is)
    (case z_list => k_is)
    (case z_range => k_is)
    (case z_tuple => k_is)
    (case z_zip => k_is)
    (case g_MOST_COLUMNS => k_is)
    (case g_MOST_RULES => k_is)
    (case g_MOST_ROWS => k_is)
    (case g_MOST_NUMBER => k_is)

