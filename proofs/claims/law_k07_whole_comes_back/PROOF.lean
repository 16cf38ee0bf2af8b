import PyProof.Rows.All
import Wide.All
import OpenK.AllK
import Wide.FinOn
import Lean
import PyProof.EqAt
import PyProof.EqKinds
import PyProof.TupleCall
import PySem.Challenge.RW_tellscolumns_k07_whole_comes_back
import PyProof.ZipIter
import PyProof.Rows.SetFrom
import PyProof.Rows.SortShell
import PyProof.CollectIter
import PyProof.Rows.SortWalk
import PyProof.Rows.CallKwBuiltin
import PyProof.IsRules
import PyProof.MeetsSeq
import PyProof.FactsAll.list_3
import PyProof.P3In
import PyProof.WalkInts
import PyProof.SeqI3
set_option Elab.async false
set_option linter.all false
set_option maxRecDepth 100000
/-! THE HAND LAYER, for ints, bools, texts, own classes, LISTS and tuples (index, slices, in, append, pop ..), calls, loops. Paste it whole ahead of your own text; what your proof does not reach may be deleted. -/
namespace L2
open PySem PySem.Spec PyProof.Rows

/-- a key: an int or a str -/
abbrev Key := Sum Int Str
def keyIs : Key → Value → Bool
  | .inl k, v => Value.isInt k v
  | .inr x, v => Value.isStrOf x v
def keyH (w : World) : Key → Int
  | .inl k => hashInt k
  | .inr x => hashStr w x
theorem keyIs_shape : ∀ {k : Key} {v : Value}, keyIs k v = true → (∃ i t, k = Sum.inl i ∧ v = Value.int i t) ∨ (∃ x t, k = Sum.inr x ∧ v = Value.str x t)
  | .inl i, v, h => by
    obtain ⟨t, e⟩ := Value.isInt_shape (k := i) (v := v) h
    exact .inl ⟨i, t, rfl, e⟩
  | .inr x, v, h => by
    obtain ⟨t, e⟩ := Value.isStrOf_shape (x := x) (v := v) h
    exact .inr ⟨x, t, rfl, e⟩
theorem keyIs_int (i : Int) (t : Tok) : keyIs (.inl i) (.int i t) = true := by simp [keyIs, Value.isInt]
theorem keyIs_str (x : Str) (t : Tok) : keyIs (.inr x) (.str x t) = true := by simp [keyIs, Value.isStrOf]
theorem key_ll (a b : Int) : decide ((Sum.inl a : Key) = Sum.inl b) = (a == b) := by
  by_cases e : a = b
  · subst e; simp
  · have h : ¬ (Sum.inl a : Key) = Sum.inl b := fun q => e (Sum.inl.inj q)
    rw [decide_eq_false h]
    exact (beq_eq_false_iff_ne.mpr e).symm
theorem key_rr (a b : Str) : decide ((Sum.inr a : Key) = Sum.inr b) = decide (a = b) := by
  by_cases e : a = b
  · subst e; simp
  · have h : ¬ (Sum.inr a : Key) = Sum.inr b := fun q => e (Sum.inr.inj q)
    rw [decide_eq_false h, decide_eq_false e]
theorem key_lr (a : Int) (b : Str) : decide ((Sum.inl a : Key) = Sum.inr b) = false := decide_eq_false (fun q => nomatch q)
theorem key_rl (a : Str) (b : Int) : decide ((Sum.inr a : Key) = Sum.inl b) = false := decide_eq_false (fun q => nomatch q)

def mixKind (prog : Program) (w : World) : PySem.KeyKind prog w Key where
  is := keyIs
  hash := keyH w
  inj := fun v a b ha hb => by
    rcases keyIs_shape ha with ⟨i, t, rfl, rfl⟩ | ⟨x, t, rfl, rfl⟩
    · rcases keyIs_shape hb with ⟨j, u, rfl, e⟩ | ⟨y, u, rfl, e⟩
      · injection e with e1 _; rw [e1]
      · exact nomatch e
    · rcases keyIs_shape hb with ⟨j, u, rfl, e⟩ | ⟨y, u, rfl, e⟩
      · exact nomatch e
      · injection e with e1 _; rw [e1]
  byValue := fun k v h => by
    rcases keyIs_shape h with ⟨i, t, rfl, rfl⟩ | ⟨x, t, rfl, rfl⟩ <;> rfl
  pyHash := fun hv h => by
    rcases keyIs_shape hv with ⟨i, t, rfl, rfl⟩ | ⟨x, t, rfl, rfl⟩
    · exact wpAny_pyHash_int h
    · exact wpAny_pyHash_str h
  eqBool := fun hu hv h => by
    rcases keyIs_shape hu with ⟨i, t, rfl, rfl⟩ | ⟨x, t, rfl, rfl⟩
    · rcases keyIs_shape hv with ⟨j, u, rfl, rfl⟩ | ⟨y, u, rfl, rfl⟩
      · rw [key_ll] at h; exact wpAny_eqBool_int h
      · rw [key_lr] at h; exact SeqAt.EqAt.int_str i t y u _ _ _ _ h
    · rcases keyIs_shape hv with ⟨j, u, rfl, rfl⟩ | ⟨y, u, rfl, rfl⟩
      · rw [key_rl] at h; exact SeqAt.EqAt.str_int x t j u _ _ _ _ h
      · rw [key_rr] at h; exact wpAny_eqBool_str h
  «strs» := fun k x t v h => by
    rcases keyIs_shape h with ⟨i, u, rfl, e⟩ | ⟨y, u, rfl, e⟩
    · exact nomatch e
    · injection e with e1 _
      subst e1
      cases v <;> rfl

theorem mixKind_int (prog : Program) (w : World) (i : Int) (t : Tok) : (mixKind prog w).is (.inl i) (.int i t) = true := keyIs_int i t
theorem mixKind_str (prog : Program) (w : World) (x : Str) (t : Tok) : (mixKind prog w).is (.inr x) (.str x t) = true := keyIs_str x t
end L2

namespace L2
open PySem PySem.Spec PyProof.Rows

/-- a value, without the heap -/
inductive V where
  | non | bl (b : Bool) | int (i : Int) | str (x : Str) | byt (b : Array UInt8) | flt (b : UInt64) | ref (a : Addr) | ty (n : String)
  deriving DecidableEq

def RelV : V → Value → Prop
  | .non, u => u = Value.none
  | .bl b, u => u = Value.bool b
  | .int i, u => ∃ t, u = Value.int i t
  | .str x, u => ∃ t, u = Value.str x t
  | .byt b, u => ∃ t, u = Value.bytes b t
  | .flt b, u => ∃ t, u = Value.float b t
  | .ref a, u => u = Value.ref a
  | .ty n, u => u = Value.type n

abbrev Vals : List V → List Value → Prop := Paired RelV
theorem Vals.length {xs : List V} {us : List Value} (r : Vals xs us) : xs.length = us.length := Paired.length r
theorem Vals.get : ∀ {xs : List V} {us : List Value} {i : Nat} {x : V}, Vals xs us → xs[i]? = some x → ∃ u, us[i]? = some u ∧ RelV x u
  | _, _, _, _, .nil, e => by simp at e
  | _, _, 0, _, .cons r _, e => by simp at e; subst e; exact ⟨_, rfl, r⟩
  | _, _, i + 1, x, .cons _ t, e => by
    obtain ⟨u, h1, h2⟩ := Vals.get (i := i) (x := x) t (by simpa using e)
    exact ⟨u, by simpa using h1, h2⟩
theorem Vals.set {x : V} {u : Value} (r : RelV x u) : ∀ {xs : List V} {us : List Value} (i : Nat), Vals xs us → Vals (xs.set i x) (us.set i u)
  | _, _, _, .nil => .nil
  | _, _, 0, .cons _ t => .cons r t
  | _, _, i + 1, .cons q t => .cons q (Vals.set r i t)
theorem Vals.append : ∀ {xs ys : List V} {us ws : List Value}, Vals xs us → Vals ys ws → Vals (xs ++ ys) (us ++ ws)
  | _, _, _, _, .nil, s => s
  | _, _, _, _, .cons r t, s => .cons r (Vals.append t s)
theorem Vals.take : ∀ {xs : List V} {us : List Value} (n : Nat), Vals xs us → Vals (xs.take n) (us.take n)
  | _, _, 0, _ => .nil
  | _, _, _ + 1, .nil => .nil
  | _, _, n + 1, .cons r t => .cons r (Vals.take n t)
theorem Vals.drop : ∀ {xs : List V} {us : List Value} (n : Nat), Vals xs us → Vals (xs.drop n) (us.drop n)
  | _, _, 0, r => r
  | _, _, _ + 1, .nil => .nil
  | _, _, n + 1, .cons _ t => Vals.drop n t
theorem Vals.none_of : ∀ {xs : List V} {us : List Value} {i : Nat}, Vals xs us → xs[i]? = none → us[i]? = none := fun {xs us i} r e => by
  have h1 := r.length
  have h2 : xs.length ≤ i := List.getElem?_eq_none_iff.mp e
  exact List.getElem?_eq_none_iff.mpr (by omega)

def RelO : Option V → Option Value → Prop
  | some v, some u => RelV v u
  | none, none => True
  | _, _ => False
def KV {κ : Type} : List (κ × V) → List (κ × Value) → Prop := Paired fun (p : κ × V) (q : κ × Value) => p.1 = q.1 ∧ RelV p.2 q.2

/-- a key of a dict (00_mix): an int or a text -/
def kV : Key → V
  | .inl i => .int i
  | .inr x => .str x

/-- what stands at a tracked address -/
inductive HO where
  /-- a list -/
  | lst (xs : List V)
  /-- a tuple (never changes) -/
  | tup (xs : List V)
  /-- a dict whose keys are ints and texts; one whose keys are tuples of ints and texts (the empty one is both) -/
  | dK (kvs : List (Key × V)) | dT (kvs : List (List Key × V))
  /-- a set of ints: its members, its size -/
  | set (S : Int → Bool) (n : Nat)
  /-- an instance of the class at C, its dict at dx, its attributes -/
  | ins (C dx : Addr) (fs : List (Str × V))
  /-- the dict of the instance at x -/
  | own (x : Addr)
  /-- the dict of an exception -/
  | xd (fs : List (Str × V))
  /-- a bound method, f of x -/
  | met (f x : Addr)
  /-- a range object lo, lo + 1, .. below hi -/
  | rng (lo hi : Int)
  /-- a thing that is known to the object (the script; a dict while a loop walks it): read, never written while it is so -/
  | frz (o : Obj) (u : HO)
  /-- a code object's table -/
  | tbl (ps : Array Value)
  /-- any other thing, by what is true of its one object (a def of one's own: SetO a S n := HO.ext fun h => ..) -/
  | ext (φ : Heap → Prop)

abbrev Hp := Addr → Option HO
def upd (H : Hp) (a : Addr) (o : HO) : Hp := fun b => if b = a then some o else H b
theorem upd_same {H : Hp} {a : Addr} {o : HO} : upd H a o a = some o := by unfold upd; rw [if_pos rfl]
theorem upd_ne {H : Hp} {a b : Addr} {o : HO} (h : b ≠ a) : upd H a o b = H b := by unfold upd; rw [if_neg h]
/-- two objects of different content stand apart -/
theorem ne_of {H : Hp} {a b : Addr} {o u : HO} (h : H a = some o) (h' : H b = some u) (d : o ≠ u) : a ≠ b := by
  intro e; subst e; rw [h] at h'; exact d (Option.some.inj h')
theorem ne_of_none {H : Hp} {a b : Addr} {o : HO} (h : H a = some o) (h' : H b = none) : a ≠ b := by
  intro e; subst e; rw [h] at h'; cases h'

section
variable (P : Program) (w : World)
def ObjOk (H : Hp) (h : Heap) (a : Addr) : HO → Prop
  | .lst xs => xs.length ≤ sizeLine ∧ ∃ (its : List Value) (n : Nat), Vals xs its ∧ h.get? a = some { cls := .type "list", data := .seq its.toArray n }
  | .tup xs => xs.length ≤ sizeLine ∧ ∃ its : List Value, Vals xs its ∧ IsTup h a its.toArray
  | .dK kvs => kvs.length ≤ sizeLine ∧ (a == sysModules) = false ∧ ∃ vs, KV kvs vs ∧ h.DictOf (mixKind P w) a vs
  | .dT kvs => kvs.length ≤ sizeLine ∧ (a == sysModules) = false ∧ ∃ xs : List (List Key × Addr × Value),
      Paired (fun (p : List Key × V) (q : List Key × Addr × Value) => p.1 = q.1 ∧ H q.2.1 = some (.tup (p.1.map kV)) ∧ RelV p.2 q.2.2) kvs xs ∧
      ∃ o es ep, h.get? a = some o ∧ o.ExactDict ∧ o.data = .dict es ep ∧ es.toList = xs.map (entryOfKey (tupleKind (mixKind P w))) ∧ (xs.map (·.1)).Nodup
  | .set S n => h.SetOf (intKind P w) a S n
  | .ins C dx fs => H dx = some (.own a) ∧ fs.length ≤ 1000 ∧ dx ≠ a ∧ h.get? a = some (PySem.W.instObj C dx) ∧
      ∃ mA, h.Ns1 dx mA ∧ (∀ f, RelO (fs.lookup f) (mA f)) ∧ PySem.Within mA (fs.map (·.1))
  | .own _ => ∃ o, h.get? a = some o
  | .xd fs => ∃ mA, h.Ns1 a mA ∧ ∀ f, RelO (fs.lookup f) (mA f)
  | .rng lo hi => ∃ t u v, h.get? a = some { cls := .type "range", data := .fields #[.int lo t, .int hi u, .int 1 v] }
  | .frz o u => h.get? a = some o ∧ ObjOk H h a u
  | .tbl ps => h.get? a = some { cls := .none, data := .fields ps }
  | .met f x => h.get? a = some (PySem.W.methodObj (.ref f) (.ref x))
  | .ext φ => φ h ∧ (∃ o, h.get? a = some o) ∧ ∀ h1 h2 : Heap, φ h1 → (∀ o, h1.get? a = some o → h2.get? a = some o) → φ h2
/-- the abstract heap is held -/
def HOk (H : Hp) (h : Heap) : Prop := ∀ a o, H a = some o → ObjOk P w H h a o
end

section
variable {P : Program} {w : World} {H H' : Hp} {h h' : Heap} {a : Addr} {o : HO}
theorem ObjOk.lt (x : ObjOk P w H h a o) : a < h.objs.size := by
  cases o with
  | lst xs => obtain ⟨_, _, _, _, e⟩ := x; exact Heap.lt_size e
  | tup xs => obtain ⟨_, _, _, p⟩ := x; exact p.lt
  | dK kvs => obtain ⟨_, _, _, _, o, _, _, e, _⟩ := x; exact Heap.lt_size e
  | dT kvs => obtain ⟨_, _, _, _, o, _, _, e, _⟩ := x; exact Heap.lt_size e
  | set S n => obtain ⟨o, _, _, _, e, _⟩ := x; exact Heap.lt_size e
  | ins C dx fs => obtain ⟨_, _, _, e, _⟩ := x; exact Heap.lt_size e
  | own y => obtain ⟨_, e⟩ := x; exact Heap.lt_size e
  | xd fs => obtain ⟨_, ⟨_, _, _, e, _⟩, _⟩ := x; exact Heap.lt_size e
  | rng lo hi => obtain ⟨_, _, _, e⟩ := x; exact Heap.lt_size e
  | frz ob u => obtain ⟨e, _⟩ := x; exact Heap.lt_size e
  | tbl ps => exact Heap.lt_size (show h.get? a = some _ from x)
  | met f y => exact Heap.lt_size (show h.get? a = some _ from x)
  | ext φ => obtain ⟨_, ⟨_, e⟩, _⟩ := x; exact Heap.lt_size e
theorem Paired.mapP {α β : Type} {F G : α → β → Prop} : ∀ {l₁ : List α} {l₂ : List β}, Paired F l₁ l₂ → (∀ a b, F a b → G a b) → Paired G l₁ l₂
  | _, _, .nil, _ => .nil
  | _, _, .cons r t, f => .cons (f _ _ r) (Paired.mapP t f)
/-- what an object's description leans on: its own object, its own dict, the tuples -/
theorem ObjOk.stay (x : ObjOk P w H h a o) (k : ∀ b u, (b = a ∨ H b = some (.own a)) → h.get? b = some u → h'.get? b = some u)
    (ho : ∀ b, H b = some (.own a) → H' b = some (.own a)) (ht : ∀ b xs, H b = some (.tup xs) → H' b = some (.tup xs)) : ObjOk P w H' h' a o := by
  induction o with
  | lst xs => obtain ⟨z, its, n, r, e⟩ := x; exact ⟨z, its, n, r, k _ _ (.inl rfl) e⟩
  | tup xs => obtain ⟨z, its, r, ob, e, c⟩ := x; exact ⟨z, its, r, ob, k _ _ (.inl rfl) e, c⟩
  | dK kvs => obtain ⟨z, y, vs, r, ob, es, ep, e, c⟩ := x; exact ⟨z, y, vs, r, ob, es, ep, k _ _ (.inl rfl) e, c⟩
  | dT kvs =>
    obtain ⟨z, y, xs, r, ob, es, ep, e, c⟩ := x
    exact ⟨z, y, xs, Paired.mapP r fun p q z => ⟨z.1, ht _ _ z.2.1, z.2.2⟩, ob, es, ep, k _ _ (.inl rfl) e, c⟩
  | set S n => obtain ⟨ob, es, ep, t, e, c⟩ := x; exact ⟨ob, es, ep, t, k _ _ (.inl rfl) e, c⟩
  | ins C dx fs =>
    obtain ⟨d, z, ne, e, mA, ⟨od, es, ep, e2, c⟩, r⟩ := x
    exact ⟨ho _ d, z, ne, k _ _ (.inl rfl) e, mA, ⟨od, es, ep, k _ _ (.inr d) e2, c⟩, r⟩
  | own y => obtain ⟨ob, e⟩ := x; exact ⟨ob, k _ _ (.inl rfl) e⟩
  | xd fs => obtain ⟨mA, ⟨od, es, ep, e, c⟩, r⟩ := x; exact ⟨mA, ⟨od, es, ep, k _ _ (.inl rfl) e, c⟩, r⟩
  | rng lo hi => obtain ⟨t, u, v, e⟩ := x; exact ⟨t, u, v, k _ _ (.inl rfl) e⟩
  | frz ob u ih => obtain ⟨e, q⟩ := x; exact ⟨k _ _ (.inl rfl) e, ih q⟩
  | tbl ps =>
    have e : h.get? a = some { cls := .none, data := .fields ps } := x
    show h'.get? a = some { cls := .none, data := .fields ps }
    exact k a _ (.inl rfl) e
  | met f y =>
    have e : h.get? a = some (PySem.W.methodObj (.ref f) (.ref y)) := x
    show h'.get? a = some (PySem.W.methodObj (.ref f) (.ref y))
    exact k a _ (.inl rfl) e
  | ext φ => obtain ⟨p, ⟨o, e⟩, st⟩ := x; exact ⟨st _ _ p fun o q => k _ _ (.inl rfl) q, ⟨o, k _ _ (.inl rfl) e⟩, st⟩
theorem HOk.lt (x : HOk P w H h) (e : H a = some o) : a < h.objs.size := (x a o e).lt
theorem HOk.fresh (x : HOk P w H h) (e : h.objs.size ≤ a) : H a = none := by
  cases q : H a with
  | none => rfl
  | some u => exact absurd (Nat.lt_of_lt_of_le (x.lt q) e) (Nat.lt_irrefl _)
/-- every object of the heap is kept -/
theorem HOk.kept (x : HOk P w H h) (k : ∀ b u, h.get? b = some u → h'.get? b = some u) : HOk P w H h' := fun a o e =>
  (x a o e).stay (fun b u _ q => k b u q) (fun _ q => q) fun _ _ q => q
/-- a new object is laid and tracked -/
theorem HOk.laid (x : HOk P w H h) (k : ∀ b u, h.get? b = some u → h'.get? b = some u) (hp : h.objs.size ≤ a) (new : ObjOk P w (upd H a o) h' a o) : HOk P w (upd H a o) h' := fun b u e => by
  have hn := x.fresh hp
  by_cases hb : b = a
  · subst hb; rw [upd_same] at e; cases e; exact new
  · rw [upd_ne hb] at e
    exact (x b u e).stay (fun c v _ q => k c v q) (fun c q => by rw [upd_ne (ne_of_none q hn)]; exact q) fun c xs q => by rw [upd_ne (ne_of_none q hn)]; exact q
end

/-- what may be read as u: it is u, or a known u -/
def Rd (H : Hp) (a : Addr) (u : HO) : Prop := H a = some u ∨ ∃ o, H a = some (.frz o u)
theorem Rd.of {H : Hp} {a : Addr} {u : HO} (h : H a = some u) : Rd H a u := .inl h
theorem Rd.ok {P : Program} {w : World} {H : Hp} {h : Heap} {a : Addr} {u : HO} (r : Rd H a u) (x : HOk P w H h) : ObjOk P w H h a u := by
  rcases r with r | ⟨o, r⟩
  · exact x a u r
  · obtain ⟨_, q⟩ := x a _ r
    exact q
/-- what may be written -/
def Mut : Option HO → Prop
  | some (.lst _) => True
  | some (.dK _) => True
  | some (.dT _) => True
  | some (.set _ _) => True
  | some (.ins _ _ _) => True
  | some (.ext _) => True
  | _ => False
section
variable {P : Program} {w : World} {H : Hp} {h h' : Heap} {x e : Addr} {o' : HO}
/-- the object at e is changed: x itself, or the dict of the instance x -/
theorem HOk.write (ok : HOk P w H h) (mu : Mut (H x)) (he : e = x ∨ H e = some (.own x)) (k : ∀ b u, b ≠ e → h.get? b = some u → h'.get? b = some u) (heo : ∃ u, h'.get? e = some u)
    (new : ObjOk P w (upd H x o') h' x o') : HOk P w (upd H x o') h' := fun b u q => by
  have nown : ∀ c y, H c = some (.own y) → c ≠ x := fun c y r z => by subst z; rw [r] at mu; exact mu
  have ntup : ∀ c xs, H c = some (.tup xs) → c ≠ x := fun c xs r z => by subst z; rw [r] at mu; exact mu
  by_cases hb : b = x
  · subst hb; rw [upd_same] at q; cases q; exact new
  · rw [upd_ne hb] at q
    by_cases hbe : b = e
    · have q' : H b = some (.own x) := by
        rcases he with z | z
        · exact absurd (hbe.trans z) hb
        · rw [hbe]; exact z
      rw [q] at q'; cases q'
      obtain ⟨v, hv⟩ := heo
      exact ⟨v, by rw [hbe]; exact hv⟩
    · refine (ok b u q).stay (fun c v hc r => k c v ?_ r) (fun c r => by rw [upd_ne (nown c b r)]; exact r) fun c xs r => by rw [upd_ne (ntup c xs r)]; exact r
      rcases hc with rfl | hc
      · exact hbe
      · rintro rfl
        rcases he with z | z
        · exact nown c b hc z
        · rw [hc] at z; cases z; exact hb rfl
end

/-! ### kept unless tracked; of the frames at fs (the callers') the slots may change (an exception that passes writes there); of the records at ex (iterators) nothing is said -/
structure Un (fs ex : List Addr) (H H' : Hp) (h h' : Heap) : Prop where
  keep : ∀ b o, h.get? b = some o → H b = none → b ∉ fs → b ∉ ex → h'.get? b = some o
  slot : ∀ b o, h.get? b = some o → H b = none → b ∈ fs → b ∉ ex → ∃ sl, h'.get? b = some { o with slots := sl }
  free : ∀ b o, h.get? b = some o → H b = none → b ∉ ex → H' b = none
  there : ∀ b o, h.get? b = some o → b ∉ ex → ∃ o', h'.get? b = some o'
  tups : ∀ b xs, H b = some (.tup xs) → H' b = some (.tup xs)
  frzs : ∀ b o u, H b = some (.frz o u) → H' b = some (.frz o u)
  tbls : ∀ b ps, H b = some (.tbl ps) → ∃ more, H' b = some (.tbl (ps ++ more))
section
variable {fs fs' ex ex' : List Addr} {H H1 H2 : Hp} {h h1 h2 h' : Heap} {a x e : Addr} {o : HO}
theorem Un.any (u : Un fs ex H H1 h h1) {b : Addr} {ob : Obj} (q : h.get? b = some ob) (n : H b = none) (hx : b ∉ ex) : ∃ sl, h1.get? b = some { ob with slots := sl } := by
  by_cases hb : b ∈ fs
  · exact u.slot b ob q n hb hx
  · exact ⟨ob.slots, u.keep b ob q n hb hx⟩
theorem Un.trans (a : Un fs ex H H1 h h1) (b : Un fs ex H1 H2 h1 h2) : Un fs ex H H2 h h2 where
  keep := fun c ob q n hc hx => b.keep c ob (a.keep c ob q n hc hx) (a.free c ob q n hx) hc hx
  slot := fun c ob q n hc hx => by
    obtain ⟨sl, e1⟩ := a.slot c ob q n hc hx
    obtain ⟨sl', e2⟩ := b.slot c _ e1 (a.free c ob q n hx) hc hx
    exact ⟨sl', e2⟩
  free := fun c ob q n hx => by
    obtain ⟨o', e1⟩ := a.there c ob q hx
    exact b.free c o' e1 (a.free c ob q n hx) hx
  there := fun c ob q hx => by
    obtain ⟨o', e1⟩ := a.there c ob q hx
    exact b.there c o' e1 hx
  tups := fun c xs q => b.tups c xs (a.tups c xs q)
  frzs := fun c ob xs q => b.frzs c ob xs (a.frzs c ob xs q)
  tbls := fun c ps q => by
    obtain ⟨m1, e1⟩ := a.tbls c ps q
    obtain ⟨m2, e2⟩ := b.tbls c _ e1
    exact ⟨m1 ++ m2, by rw [e2, Array.append_assoc]⟩
theorem Un.kept (k : ∀ b u, h.get? b = some u → h'.get? b = some u) : Un fs ex H H h h' :=
  ⟨fun b ob q _ _ _ => k b ob q, fun b ob q _ _ _ => ⟨ob.slots, k b ob q⟩, fun _ _ _ n _ => n, fun b ob q _ => ⟨ob, k b ob q⟩, fun _ _ q => q, fun _ _ _ q => q, fun _ ps q => ⟨#[], by rw [q]; simp⟩⟩
theorem Un.refl : Un fs ex H H h h := Un.kept fun _ _ q => q
theorem Un.laid (k : ∀ b u, h.get? b = some u → h'.get? b = some u) (hp : h.objs.size ≤ a) (hn : H a = none) : Un fs ex H (upd H a o) h h' where
  keep := fun b u q _ _ _ => k b u q
  slot := fun b u q _ _ _ => ⟨u.slots, k b u q⟩
  free := fun b u q n _ => by rw [upd_ne (Nat.ne_of_lt (Nat.lt_of_lt_of_le (Heap.lt_size q) hp))]; exact n
  there := fun b u q _ => ⟨u, k b u q⟩
  tups := fun b xs q => by rw [upd_ne (ne_of_none q hn)]; exact q
  frzs := fun b u xs q => by rw [upd_ne (ne_of_none q hn)]; exact q
  tbls := fun b ps q => ⟨#[], by rw [upd_ne (ne_of_none q hn), q]; simp⟩
theorem Un.write (mu : Mut (H x)) (he : e = x ∨ H e = some (.own x)) (k : ∀ b u, b ≠ e → h.get? b = some u → h'.get? b = some u) (heo : ∃ u, h'.get? e = some u) : Un fs ex H (upd H x o) h h' := by
  have hx : ∀ b, H b = none → b ≠ x := fun b n z => by subst z; rw [n] at mu; exact mu
  have hb : ∀ b, H b = none → b ≠ e := fun b n z => by
    subst z
    rcases he with r | r
    · exact hx b n r
    · rw [n] at r; cases r
  have hm : ∀ b u, H b = some u → ¬ Mut (some u) → b ≠ x := fun b u q nm z => by subst z; rw [q] at mu; exact nm mu
  refine ⟨fun b u q n _ _ => k b u (hb b n) q, fun b u q n _ _ => ⟨u.slots, k b u (hb b n) q⟩, fun b u q n _ => by rw [upd_ne (hx b n)]; exact n, fun b u q _ => ?_,
    fun b xs q => by rw [upd_ne (hm b _ q fun z => z)]; exact q, fun b u xs q => by rw [upd_ne (hm b _ q fun z => z)]; exact q, fun b ps q => ⟨#[], by rw [upd_ne (hm b _ q fun z => z), q]; simp⟩⟩
  by_cases hbe : b = e
  · subst hbe; exact heo
  · exact ⟨u, k b u hbe q⟩
theorem Un.mono (u : Un fs ex H H1 h h1) (hs : ∀ b ∈ fs, b ∈ fs') (hx : ∀ b ∈ ex, b ∈ ex') : Un fs' ex' H H1 h h1 :=
  ⟨fun b ob q n hb he => u.keep b ob q n (fun z => hb (hs b z)) fun z => he (hx b z), fun _ _ q n _ he => u.any q n fun z => he (hx _ z), fun b ob q n he => u.free b ob q n fun z => he (hx b z), fun b ob q he => u.there b ob q fun z => he (hx b z), u.tups, u.frzs, u.tbls⟩
end

/-! ### the heap without what is tracked -/
def trk (h : Heap) (H : Hp) : List Addr := (List.range h.objs.size).filter fun a => (H a).isSome
def hidT (h : Heap) (H : Hp) : Heap := PySem.W.hideAll h (trk h H)
theorem hidT_size (h : Heap) (H : Hp) : (hidT h H).objs.size = h.objs.size := PySem.W.hideAll_size _ _
theorem hidT_get {h : Heap} {H : Hp} {b : Addr} {o : Obj} (e : h.get? b = some o) (n : H b = none) : (hidT h H).get? b = some o :=
  PySem.W.hideAll_get _ e fun hm => by
    have q : (H b).isSome = true := (List.mem_filter.mp hm).2
    rw [n] at q; simp at q
theorem of_hidT {h : Heap} {H : Hp} {b : Addr} {o : Obj} (e : (hidT h H).get? b = some o) : h.get? b = some o ∧ H b = none := by
  have e' : h.get? b = some o := PySem.W.of_hideAll (trk h H) e
  refine ⟨e', ?_⟩
  cases q : H b with
  | none => rfl
  | some x =>
    have hm : b ∈ trk h H := List.mem_filter.mpr ⟨List.mem_range.mpr (Heap.lt_size e'), by simp [q]⟩
    have z : (hidT h H).get? b = none := PySem.W.hideAll_none (trk h H) hm
    rw [z] at e; cases e

/-! ### OpenK's ledger, filled with every new object but one -/
def allNews (g h : Heap) (L : Addr) : List (Addr × Obj) := (List.range h.objs.size).filterMap fun a => if a = L ∨ (g.get? a).isSome = true then none else (h.get? a).map fun o => (a, o)
def rest (g h : Heap) (L d : Addr) : List (Addr × Obj) := (allNews g h L).filter fun p => decide (p.1 ≠ d)
end L2

namespace L2
open PySem PySem.Spec PyProof.Rows

/-- the module's facts, over the base: the heap at the law's entry without what is tracked there -/
structure Mod (K : PySem.W.Frag) (mg : Str → Option Value) (base : Heap) : Prop where
  kin : K.In base
  glob : base.Ns mainGlobals mg
  blt : ∃ mb, base.Ns builtinsNs mb ∧ ∀ x : Str, x ≠ "__name__" → mb x = bootBuiltins x
  nolimit : base.NoLimit

/-- the context: a def's body (or a comprehension's block) running. base: fixed through the whole law; s₀, H₀: the entry; outer: the frames whose slots others may change (a def's callers); stack: all frames that run;
   ex: iterators that were made ahead of the entry and are walked here (a comprehension's); fn: the names whose cells were made at the entry (a def: all; a comprehension's block: its own); calm: not within an except suite; pn: pins that every state bears; xe: what is wanted of an exception that leaves the code -/
structure Cx where
  prog : Program
  w : World
  K : PySem.W.Frag
  mg : Str → Option Value
  base : Heap
  A : Around
  N : List Str
  s₀ : Shared
  H₀ : Hp
  env : Env
  outer : List Env
  stack : List Env
  ex : List Addr
  fn : Str → Bool
  calm : Bool
  pn : List (Addr × Obj)
  xe : Value → Shared → Prop
/-- the callers' frames -/
def frs (l : List Env) : List Addr := l.filterMap (·.frame)
abbrev Cx.fs (X : Cx) : List Addr := frs X.outer

def Vis (sc : Scope) (x : Str) : Prop := sc.names.lookup x = some .local ∨ sc.names.lookup x = some .cell ∨ sc.names.lookup x = some .free
def Loc (sc : Scope) (x : Str) : Prop := sc.names.lookup x = some .local ∨ sc.names.lookup x = some .cell
def Look (env : Env) (h : Heap) (m : Str → Option Value) (x : Str) (u : Value) : Prop :=
  (env.kindOf x = some .local ∧ m x = some u) ∨ ((env.kindOf x = some .cell ∨ env.kindOf x = some .free) ∧ ∃ c, env.cells.lookup x = some c ∧ h.IsCell c (some u))

structure Cx.Ok (X : Cx) : Prop where
  mod : Mod X.K X.mg X.base
  kind : X.env.scope.kind = .function
  glob : X.env.globals = mainGlobals
  blt : X.env.builtins = builtinsNs
  above : X.s₀.heap.objs.size ≤ X.env.locals
  inj : ∀ x y c, X.env.cells.lookup x = some c → X.env.cells.lookup y = some c → x = y
  has : ∀ x, (X.env.kindOf x = some .cell ∨ X.env.kindOf x = some .free) → ∃ c, X.env.cells.lookup x = some c
  cab : ∀ x c, X.fn x = true → X.env.cells.lookup x = some c → X.s₀.heap.objs.size ≤ c
  hd : X.calm = true → X.A.handled = none
  frames : X.A.frames = some X.stack
  stk : X.stack = X.outer ∨ (X.stack = X.env :: X.outer ∧ X.env.frame = some X.env.locals)
  exf : ∀ b ∈ X.ex, b ≠ X.env.locals ∧ ∀ x c, X.env.cells.lookup x = some c → c ≠ b
  bs : ∀ b o, X.base.get? b = some o → X.s₀.heap.get? b = some o ∧ X.H₀ b = none
  bsz : X.base.objs.size ≤ X.s₀.heap.objs.size
  noex : ∀ b o, X.base.get? b = some o → b ∉ X.ex
  exfs : ∀ b ∈ X.ex, b ∉ X.fs
  funs : X.s₀.heap.FunFrames X.base X.outer
  frf : ∀ b ∈ X.fs, X.H₀ b = none

structure Inv (X : Cx) (pins : List (Addr × Obj)) (σ : List (Option V)) (H : Hp) (s : Shared) : Prop where
  ok : X.Ok
  os : s.os = X.s₀.os
  bare : AllBare s.gens
  base : Un X.fs X.ex X.H₀ H X.s₀.heap s.heap
  loc : ∃ m, s.heap.Ns X.env.locals m ∧ ∀ (i : Nat) (x : Str) (v : V), X.N[i]? = some x → σ[i]? = some (some v) → Vis X.env.scope x → ∃ u, RelV v u ∧ Look X.env s.heap m x u
  cell : ∀ x c, X.env.cells.lookup x = some c → ∃ v, s.heap.IsCell c v
  free : H X.env.locals = none
  freeC : ∀ x c, X.env.cells.lookup x = some c → H c = none
  pin : ∀ p ∈ X.pn ++ pins, s.heap.get? p.1 = some p.2 ∧ H p.1 = none ∧ p.1 ≠ X.env.locals ∧ p.1 ∉ X.fs ∧ ∀ v, p.2.data ≠ .cell v
  hok : HOk X.prog X.w H s.heap
  len : σ.length = X.N.length

section
variable {X : Cx} {pins : List (Addr × Obj)} {σ : List (Option V)} {H H' : Hp} {s : Shared} {h' : Heap}

theorem Cx.Ok.nofr (ok : X.Ok) {b : Addr} {o : Obj} (e : X.base.get? b = some o) : b ∉ X.fs := fun hb => by
  have := (ok.funs.mem hb).1
  rw [e] at this; cases this
theorem Inv.bs (I : Inv X pins σ H s) : ∀ b o, X.base.get? b = some o → s.heap.get? b = some o ∧ H b = none := fun b o e =>
  ⟨I.base.keep b o (I.ok.bs b o e).1 (I.ok.bs b o e).2 (I.ok.nofr e) (I.ok.noex b o e), I.base.free b o (I.ok.bs b o e).1 (I.ok.bs b o e).2 (I.ok.noex b o e)⟩
theorem Inv.bk (I : Inv X pins σ H s) : ∀ b o, X.base.get? b = some o → s.heap.get? b = some o := fun b o e => (I.bs b o e).1
theorem Inv.mod (I : Inv X pins σ H s) : Mod X.K X.mg X.base := I.ok.mod
theorem Inv.kIn (I : Inv X pins σ H s) : X.K.In s.heap := I.ok.mod.kin.keeps I.bk
theorem Inv.nolimit (I : Inv X pins σ H s) : s.heap.NoLimit := I.ok.mod.nolimit.keeps I.bk
/-- the frame over the base: for OpenK's rules (K.In X.base is I.mod.kin) -/
theorem Inv.fr (I : Inv X pins σ H s) : ∃ m, Fr X.base X.env.locals s.heap m :=
  let ⟨m, hn, _⟩ := I.loc
  ⟨m, hn, I.bk, Nat.le_trans I.ok.bsz I.ok.above⟩
theorem Inv.lt (I : Inv X pins σ H s) : X.env.locals < s.heap.objs.size := let ⟨_, hn, _⟩ := I.loc; hn.lt
theorem Inv.sz (I : Inv X pins σ H s) : X.s₀.heap.objs.size ≤ s.heap.objs.size := Nat.le_trans I.ok.above (Nat.le_of_lt I.lt)
theorem Inv.nofs (I : Inv X pins σ H s) {a : Addr} (h : s.heap.objs.size ≤ a) : a ∉ X.fs := fun hb => by
  obtain ⟨_, o, ho, _⟩ := I.ok.funs.mem hb
  exact absurd (Nat.lt_of_lt_of_le (Heap.lt_size ho) (Nat.le_trans I.sz h)) (Nat.lt_irrefl _)
theorem Inv.cne (I : Inv X pins σ H s) : ∀ x c, X.env.cells.lookup x = some c → c ≠ X.env.locals := fun x c e z => by
  obtain ⟨v, o, ho, hd⟩ := I.cell x c e
  obtain ⟨m, ⟨o', es, ep, ho', hd', _⟩, _⟩ := I.loc
  rw [z, ho'] at ho; cases ho; rw [hd'] at hd; cases hd
theorem Inv.funs (I : Inv X pins σ H s) : s.heap.FunFrames X.base X.outer := by
  have all : ∀ (l : List Env), (∀ b ∈ frs l, b ∈ X.fs) → X.s₀.heap.FunFrames X.base l → s.heap.FunFrames X.base l := by
    intro l
    induction l with
    | nil => intro _ _; trivial
    | cons env r ih =>
      intro hs hl
      obtain ⟨hk, ⟨L, o, hf, hn, ho, hd⟩, hr⟩ := hl
      have hL : L ∈ X.fs := hs L (by unfold frs; rw [List.filterMap_cons, hf]; exact List.mem_cons_self)
      obtain ⟨sl, e⟩ := I.base.slot L o ho (I.ok.frf L hL) hL fun z => I.ok.exfs L z hL
      exact ⟨hk, ⟨L, _, hf, hn, e, hd⟩, ih (fun b hb => hs b (by unfold frs; rw [List.filterMap_cons, hf]; exact List.mem_cons_of_mem _ hb)) hr⟩
  exact all X.outer (fun _ hb => hb) I.ok.funs

/-- the frames that run, for a call -/
theorem Inv.stack (I : Inv X pins σ H s) : s.heap.FunFrames X.base X.stack := by
  rcases I.ok.stk with e | ⟨e, hf⟩
  · rw [e]; exact I.funs
  · rw [e]
    obtain ⟨m, hn, _⟩ := I.loc
    refine .cons (by rw [I.ok.kind]; decide) hf hn ?_ I.funs
    exact Heap.get?_none_of_le (Nat.le_trans I.ok.bsz I.ok.above)
theorem Inv.stkSub (I : Inv X pins σ H s) : ∀ b ∈ frs X.stack, b ∈ X.env.locals :: X.fs := fun b hb => by
  rcases I.ok.stk with e | ⟨e, hf⟩
  · rw [e] at hb; exact List.mem_cons_of_mem _ hb
  · rw [e] at hb
    unfold frs at hb
    rw [List.filterMap_cons, hf] at hb
    exact hb
theorem Inv.stkFree (I : Inv X pins σ H s) : ∀ b ∈ frs X.stack, H b = none := fun b hb => by
  rcases List.mem_cons.mp (I.stkSub b hb) with e | hb
  · rw [e]; exact I.free
  · obtain ⟨_, o, ho, _⟩ := I.ok.funs.mem hb
    exact I.base.free b o ho (I.ok.frf b hb) fun z => I.ok.exfs b z hb

/-- THE STEP: the untracked objects but the frame and the records at ch are kept (the callers' frames up to slots), the frame's map is kept, the new abstract heap is held -/
theorem Inv.step {g' : Array GenState} {t' : Nat} {d' : Drawn} {ch : List Addr} (I : Inv X pins σ H s)
    (hch : ∀ b ∈ ch, (b ∈ X.ex ∨ X.s₀.heap.objs.size ≤ b) ∧ b ≠ X.env.locals ∧ (∀ x c, X.env.cells.lookup x = some c → c ≠ b) ∧ ∀ p ∈ X.pn ++ pins, p.1 ≠ b)
    (keep : ∀ b o, b ≠ X.env.locals → b ∉ X.fs → b ∉ ch → s.heap.get? b = some o → H b = none → h'.get? b = some o)
    (slot : ∀ b o, b ≠ X.env.locals → b ∈ X.fs → b ∉ ch → s.heap.get? b = some o → H b = none → ∃ sl, h'.get? b = some { o with slots := sl }) (free : ∀ b o, b ∉ ch → s.heap.get? b = some o → H b = none → H' b = none)
    (there : ∀ b o, b ∉ ch → s.heap.get? b = some o → ∃ o', h'.get? b = some o')
    (tups : ∀ b xs, H b = some (.tup xs) → H' b = some (.tup xs)) (frzs : ∀ b o u, H b = some (.frz o u) → H' b = some (.frz o u)) (tbls : ∀ b ps, H b = some (.tbl ps) → ∃ more, H' b = some (.tbl (ps ++ more)))
    (ns : ∀ m, s.heap.Ns X.env.locals m → h'.Ns X.env.locals m) (hok : HOk X.prog X.w H' h') (hg : AllBare g') :
    Inv X pins σ H' { s with heap := h', gens := g', drawn := d', toks := t' } := by
  have neL : ∀ b o, X.s₀.heap.get? b = some o → b ≠ X.env.locals := fun b o e => Nat.ne_of_lt (Nat.lt_of_lt_of_le (Heap.lt_size e) I.ok.above)
  have neC : ∀ b o, X.s₀.heap.get? b = some o → b ∉ X.ex → b ∉ ch := fun b o e hx hb => by
    rcases (hch b hb).1 with z | z
    · exact hx z
    · exact absurd (Nat.lt_of_lt_of_le (Heap.lt_size e) z) (Nat.lt_irrefl _)
  have cellK : ∀ x c, X.env.cells.lookup x = some c → ∀ v, s.heap.IsCell c v → h'.IsCell c v := fun x c e v ⟨o, ho, hd⟩ => by
    have nch : c ∉ ch := fun z => (hch c z).2.2.1 x c e rfl
    by_cases hc : c ∈ X.fs
    · obtain ⟨sl, q⟩ := slot c o (I.cne x c e) hc nch ho (I.freeC x c e)
      exact ⟨_, q, hd⟩
    · exact ⟨o, keep c o (I.cne x c e) hc nch ho (I.freeC x c e), hd⟩
  refine ⟨I.ok, I.os, hg, ⟨fun b o e n hb hx => ?_, fun b o e n hb hx => ?_, fun b o e n hx => ?_, fun b o e hx => ?_, fun b xs e => tups b xs (I.base.tups b xs e), fun b o xs e => frzs b o xs (I.base.frzs b o xs e), fun b ps e => ?_⟩, ?_, fun x c e => ?_, ?_, fun x c e => ?_, fun p hp => ?_, hok, I.len⟩
  · exact keep b o (neL b o e) hb (neC b o e hx) (I.base.keep b o e n hb hx) (I.base.free b o e n hx)
  · obtain ⟨sl, e1⟩ := I.base.slot b o e n hb hx
    obtain ⟨sl', e2⟩ := slot b _ (neL b o e) hb (neC b o e hx) e1 (I.base.free b o e n hx)
    exact ⟨sl', e2⟩
  · obtain ⟨o', e1⟩ := I.base.there b o e hx
    exact free b o' (neC b o e hx) e1 (I.base.free b o e n hx)
  · obtain ⟨o', e1⟩ := I.base.there b o e hx
    exact there b o' (neC b o e hx) e1
  · obtain ⟨m1, e1⟩ := I.base.tbls b ps e
    obtain ⟨m2, e2⟩ := tbls b _ e1
    exact ⟨m1 ++ m2, by rw [e2, Array.append_assoc]⟩
  · obtain ⟨m, hn, hl⟩ := I.loc
    refine ⟨m, ns m hn, fun i x v e1 e2 e3 => ?_⟩
    obtain ⟨u, r, l⟩ := hl i x v e1 e2 e3
    refine ⟨u, r, ?_⟩
    rcases l with l | ⟨k, c, e, z⟩
    · exact .inl l
    · exact .inr ⟨k, c, e, cellK x c e _ z⟩
  · obtain ⟨v, z⟩ := I.cell x c e
    exact ⟨v, cellK x c e v z⟩
  · obtain ⟨m, ⟨o, _, _, ho, _⟩, _⟩ := I.loc
    exact free _ o (fun z => (hch _ z).2.1 rfl) ho I.free
  · obtain ⟨v, o, ho, hd⟩ := I.cell x c e
    exact free c o (fun z => (hch c z).2.2.1 x c e rfl) ho (I.freeC x c e)
  · obtain ⟨e, n, ne, nf, d⟩ := I.pin p hp
    have nch : p.1 ∉ ch := fun z => (hch p.1 z).2.2.2 p hp rfl
    exact ⟨keep p.1 p.2 ne nf nch e n, free p.1 p.2 nch e n, ne, nf, d⟩
/-- .. where the frame's own object is kept too -/
theorem Inv.un {t' : Nat} (I : Inv X pins σ H s) (u : Un X.fs [] H H' s.heap h') (hok : HOk X.prog X.w H' h') : Inv X pins σ H' { s with heap := h', toks := t' } := by
  obtain ⟨m, ⟨o, es, ep, ho, r⟩, _⟩ := id I.loc
  obtain ⟨sl, hL⟩ := u.any ho I.free (by simp)
  exact I.step (g' := s.gens) (d' := s.drawn) (ch := []) (fun _ z => nomatch z) (fun b o _ hb _ e n => u.keep b o e n hb (by simp)) (fun b o _ hb _ e n => u.slot b o e n hb (by simp)) (fun b o _ e n => u.free b o e n (by simp)) (fun b o _ e => u.there b o e (by simp)) u.tups u.frzs u.tbls (fun m' hm => by
    obtain ⟨o', es', ep', ho', r'⟩ := hm
    rw [ho] at ho'; cases ho'
    exact ⟨_, es', ep', hL, r'⟩) hok I.bare
/-- behind a call (or a comprehension's block): the slots of this frame may have changed too, the records at ch may have turned -/
theorem Inv.call {g' : Array GenState} {t' : Nat} {d' : Drawn} {ch : List Addr} (I : Inv X pins σ H s) (u : Un (frs X.stack) ch H H' s.heap h') (hok : HOk X.prog X.w H' h') (hg : AllBare g')
    (hch : ∀ b ∈ ch, (b ∈ X.ex ∨ X.s₀.heap.objs.size ≤ b) ∧ b ≠ X.env.locals ∧ (∀ x c, X.env.cells.lookup x = some c → c ≠ b) ∧ ∀ p ∈ X.pn ++ pins, p.1 ≠ b) :
    Inv X pins σ H' { s with heap := h', gens := g', drawn := d', toks := t' } := by
  obtain ⟨m, ⟨o, es, ep, ho, r⟩, _⟩ := id I.loc
  obtain ⟨sl, hL⟩ := u.any ho I.free fun z => (hch _ z).2.1 rfl
  exact I.step (ch := ch) hch (fun b o hL hb hc e n => u.keep b o e n (fun z => (List.mem_cons.mp (I.stkSub b z)).elim hL hb) hc) (fun b o _ _ hc e n => u.any e n hc) (fun b o hc e n => u.free b o e n hc) (fun b o hc e => u.there b o e hc) u.tups u.frzs u.tbls (fun m' hm => by
    obtain ⟨o', es', ep', ho', r'⟩ := hm
    rw [ho] at ho'; cases ho'
    exact ⟨_, es', ep', hL, r'⟩) hok hg
/-- an untracked record of ours (an iterator) has turned -/
theorem Inv.turned {t' : Nat} {it : Addr} (I : Inv X pins σ H s) (k : ∀ b o, b ≠ it → s.heap.get? b = some o → h'.get? b = some o) (hn : H it = none) (hL : it ≠ X.env.locals)
    (h1 : it ∈ X.ex ∨ X.s₀.heap.objs.size ≤ it) (h2 : ∀ x c, X.env.cells.lookup x = some c → c ≠ it) (h3 : ∀ p ∈ X.pn ++ pins, p.1 ≠ it) : Inv X pins σ H { s with heap := h', toks := t' } := by
  have nit : ∀ b u, H b = some u → b ≠ it := fun b u e z => by rw [z, hn] at e; cases e
  refine I.step (g' := s.gens) (d' := s.drawn) (ch := [it]) (fun b hb => ?_) (fun b o _ _ hc e _ => k b o (fun z => hc (by simp [z])) e) (fun b o _ _ hc e _ => ⟨o.slots, k b o (fun z => hc (by simp [z])) e⟩) (fun _ _ _ _ n => n)
    (fun b o hc e => ⟨o, k b o (fun z => hc (by simp [z])) e⟩) (fun _ _ e => e) (fun _ _ _ e => e) (fun b ps e => ⟨#[], by rw [e]; simp⟩) (fun m hm => ?_) (fun b u e => ?_) I.bare
  · have e : b = it := by simpa using hb
    subst e
    exact ⟨h1, hL, h2, h3⟩
  · obtain ⟨o, es, ep, ho, r⟩ := hm
    exact ⟨o, es, ep, k _ o (Ne.symm hL) ho, r⟩
  · refine (I.hok b u e).stay (fun c v hc q => k c v ?_ q) (fun _ q => q) fun _ _ q => q
    rcases hc with z | z
    · rw [z]; exact nit b u e
    · exact nit c _ z
theorem Inv.tok (I : Inv X pins σ H s) (t : Nat) : Inv X pins σ H { s with toks := t } := I.un (h' := s.heap) (t' := t) Un.refl I.hok
/-- all objects kept -/
theorem Inv.kept {t' : Nat} (I : Inv X pins σ H s) (k : ∀ b u, s.heap.get? b = some u → h'.get? b = some u) : Inv X pins σ H { s with heap := h', toks := t' } := I.un (Un.kept k) (I.hok.kept k)
/-- a new object laid and tracked -/
theorem Inv.laid {a : Addr} {o : HO} {t' : Nat} (I : Inv X pins σ H s) (k : ∀ b u, s.heap.get? b = some u → h'.get? b = some u) (hp : s.heap.objs.size ≤ a) (new : ObjOk X.prog X.w (upd H a o) h' a o) :
    Inv X pins σ (upd H a o) { s with heap := h', toks := t' } := I.un (Un.laid k hp (I.hok.fresh hp)) (I.hok.laid k hp new)
/-- an object written -/
theorem Inv.write {x e : Addr} {o : HO} {t' : Nat} (I : Inv X pins σ H s) (mu : Mut (H x)) (he : e = x ∨ H e = some (.own x)) (k : ∀ b u, b ≠ e → s.heap.get? b = some u → h'.get? b = some u) (heo : ∃ u, h'.get? e = some u)
    (new : ObjOk X.prog X.w (upd H x o) h' x o) : Inv X pins σ (upd H x o) { s with heap := h', toks := t' } := I.un (Un.write mu he k heo) (I.hok.write mu he k heo new)
theorem Inv.pins_of {pins' : List (Addr × Obj)} (I : Inv X pins σ H s) (h : ∀ p ∈ pins', s.heap.get? p.1 = some p.2 ∧ H p.1 = none ∧ p.1 ≠ X.env.locals ∧ p.1 ∉ X.fs ∧ ∀ v, p.2.data ≠ .cell v) : Inv X pins' σ H s :=
  ⟨I.ok, I.os, I.bare, I.base, I.loc, I.cell, I.free, I.freeC, fun p hp => (List.mem_append.mp hp).elim (fun z => I.pin p (List.mem_append_left _ z)) (h p), I.hok, I.len⟩

theorem nodup_ix {N : List Str} (hN : N.Nodup) {i j : Nat} {x : Str} (a : N[i]? = some x) (b : N[j]? = some x) : i = j := by
  obtain ⟨h1, e1⟩ := List.getElem?_eq_some_iff.mp a
  obtain ⟨h2, e2⟩ := List.getElem?_eq_some_iff.mp b
  exact (List.getElem_inj hN).mp (e1.trans e2.symm)

/-- a name is stored; what changed -/
theorem store_ok2 {M : Model} {A : Around} {E : Value → Shared → Prop} {i : Nat} {x : Str} {v : V} {u : Value} {Q : Unit → Shared → Prop} (I : Inv X pins σ H s) (hN : X.N.Nodup) (hi : X.N[i]? = some x) (hx : Loc X.env.scope x) (r : RelV v u)
    (h : ∀ s', Inv X pins (σ.set i (some v)) H s' → (∃ a, Heap.SameBut a s.heap s'.heap ∧ (a = X.env.locals ∨ X.env.cells.lookup x = some a)) → Q () s') (hf : X.fn x = true ∨ X.env.scope.names.lookup x = some .local := by first | exact .inl rfl | exact .inr rfl | assumption) : wpAny M A (storeName X.env x u) Q E s := by
  obtain ⟨m, hn, hl⟩ := id I.loc
  have hcls : (X.env.scope.kind == .class || (X.env.scope.kind == .module && X.env.locals != X.env.globals)) = false := by rw [I.ok.kind]; rfl
  have hiσ : i < σ.length := by rw [I.len]; exact (List.getElem?_eq_some_iff.mp hi).1
  have cne := I.cne
  have tracked : ∀ {a : Addr} {h' : Heap}, (∃ o, s.heap.get? a = some o ∧ H a = none) → Heap.SameBut a s.heap h' → HOk X.prog X.w H h' := fun {a h'} ha hs b ob e => by
    obtain ⟨_, _, hfree⟩ := ha
    refine (I.hok b ob e).stay (fun c w' hc q => (hs.2 c ?_).trans q) (fun _ q => q) fun _ _ q => q
    rintro rfl
    rcases hc with rfl | hc
    · rw [hfree] at e; cases e
    · rw [hfree] at hc; cases hc
  rcases hx with hk | hk
  · refine wpAny_storeName_local hk hn (fun h' hn' hs => ?_) hcls
    obtain ⟨oL, _, _, hoL, _⟩ := id hn
    refine h _ ⟨I.ok, I.os, I.bare, ⟨fun b o e n hb hx => ?_, fun b o e n hb hx => ?_, I.base.free, fun b o e hx => ?_, I.base.tups, I.base.frzs, I.base.tbls⟩, ⟨_, hn', fun j y v' e1 e2 e3 => ?_⟩, fun y c e => ?_, I.free, I.freeC, fun p hp => ?_, tracked ⟨oL, hoL, I.free⟩ hs, by simpa using I.len⟩ ⟨_, hs, .inl rfl⟩
    · exact (hs.2 b (Nat.ne_of_lt (Nat.lt_of_lt_of_le (Heap.lt_size e) I.ok.above))).trans (I.base.keep b o e n hb hx)
    · obtain ⟨sl, e1⟩ := I.base.slot b o e n hb hx
      exact ⟨sl, (hs.2 b (Nat.ne_of_lt (Nat.lt_of_lt_of_le (Heap.lt_size e) I.ok.above))).trans e1⟩
    · obtain ⟨o', e1⟩ := I.base.there b o e hx
      exact ⟨o', (hs.2 b (Nat.ne_of_lt (Nat.lt_of_lt_of_le (Heap.lt_size e) I.ok.above))).trans e1⟩
    · by_cases hj : j = i
      · subst hj
        rw [hi] at e1; cases e1
        rw [List.getElem?_set_self hiσ] at e2
        cases e2
        exact ⟨u, r, .inl ⟨hk, by simp⟩⟩
      · rw [List.getElem?_set_ne (Ne.symm hj)] at e2
        obtain ⟨u', r', q⟩ := hl j y v' e1 e2 e3
        refine ⟨u', r', ?_⟩
        rcases q with ⟨k, e⟩ | ⟨k, c, e, z⟩
        · refine .inl ⟨k, ?_⟩
          have : y ≠ x := fun e => hj (nodup_ix hN e1 (e ▸ hi))
          simp [this, e]
        · exact .inr ⟨k, c, e, z.sameBut hs (cne y c e)⟩
    · obtain ⟨w', z⟩ := I.cell y c e
      exact ⟨w', z.sameBut hs (cne y c e)⟩
    · obtain ⟨e, n, ne, nf, d⟩ := I.pin p hp
      exact ⟨(hs.2 p.1 ne).trans e, n, ne, nf, d⟩
  · have hfn : X.fn x = true := by
      rcases hf with z | z
      · exact z
      · rw [z] at hk; cases hk
    obtain ⟨c, hc⟩ := I.ok.has x (.inl hk)
    obtain ⟨w', z⟩ := I.cell x c hc
    refine wpAny_storeName_cell I.ok.kind hk hc z (fun h' hc' hs => ?_)
    obtain ⟨oc, hoc, hocd⟩ := id z
    refine h { s with heap := h' } ⟨I.ok, I.os, I.bare, ⟨fun b o e n hb hx => ?_, fun b o e n hb hx => ?_, I.base.free, fun b o e hx => ?_, I.base.tups, I.base.frzs, I.base.tbls⟩, ⟨m, hn.sameBut hs (Ne.symm (cne x c hc)), fun j y v' e1 e2 e3 => ?_⟩, fun y c' e => ?_, I.free, I.freeC, fun p hp => ?_, tracked ⟨oc, hoc, I.freeC x c hc⟩ hs, by simpa using I.len⟩ ⟨c, hs, .inr hc⟩
    · exact (hs.2 b (Nat.ne_of_lt (Nat.lt_of_lt_of_le (Heap.lt_size e) (I.ok.cab x c hfn hc)))).trans (I.base.keep b o e n hb hx)
    · obtain ⟨sl, e1⟩ := I.base.slot b o e n hb hx
      exact ⟨sl, (hs.2 b (Nat.ne_of_lt (Nat.lt_of_lt_of_le (Heap.lt_size e) (I.ok.cab x c hfn hc)))).trans e1⟩
    · obtain ⟨o', e1⟩ := I.base.there b o e hx
      exact ⟨o', (hs.2 b (Nat.ne_of_lt (Nat.lt_of_lt_of_le (Heap.lt_size e) (I.ok.cab x c hfn hc)))).trans e1⟩
    · by_cases hj : j = i
      · subst hj
        rw [hi] at e1; cases e1
        rw [List.getElem?_set_self hiσ] at e2
        cases e2
        exact ⟨u, r, .inr ⟨.inl hk, c, hc, hc'⟩⟩
      · rw [List.getElem?_set_ne (Ne.symm hj)] at e2
        obtain ⟨u', r', q⟩ := hl j y v' e1 e2 e3
        refine ⟨u', r', ?_⟩
        rcases q with q | ⟨k, c', e, z'⟩
        · exact .inl q
        · refine .inr ⟨k, c', e, z'.sameBut hs ?_⟩
          rintro rfl
          exact hj (nodup_ix hN e1 (I.ok.inj _ _ _ e hc ▸ hi))
    · by_cases hcc : c' = c
      · subst hcc; exact ⟨_, hc'⟩
      · obtain ⟨w2, z2⟩ := I.cell y c' e
        exact ⟨w2, z2.sameBut hs hcc⟩
    · obtain ⟨e, n, ne, nf, d⟩ := I.pin p hp
      refine ⟨(hs.2 p.1 ?_).trans e, n, ne, nf, d⟩
      intro q
      rw [q, hoc] at e
      have q' : oc = p.2 := Option.some.inj e
      exact d w' (by rw [← q']; exact hocd)
theorem store_ok {M : Model} {A : Around} {E : Value → Shared → Prop} {i : Nat} {x : Str} {v : V} {u : Value} {Q : Unit → Shared → Prop} (I : Inv X pins σ H s) (hN : X.N.Nodup) (hi : X.N[i]? = some x) (hx : Loc X.env.scope x) (r : RelV v u)
    (h : ∀ s', Inv X pins (σ.set i (some v)) H s' → Q () s') (hf : X.fn x = true ∨ X.env.scope.names.lookup x = some .local := by first | exact .inl rfl | exact .inr rfl | assumption) : wpAny M A (storeName X.env x u) Q E s :=
  store_ok2 I hN hi hx r (fun s' I' _ => h s' I') hf
/-- behind a call or a block, the state as it is -/
theorem Inv.call' {s' : Shared} {ch : List Addr} (I : Inv X pins σ H s) (ho : s'.os = s.os) (u : Un (frs X.stack) ch H H' s.heap s'.heap) (hok : HOk X.prog X.w H' s'.heap) (hg : AllBare s'.gens)
    (hch : ∀ b ∈ ch, (b ∈ X.ex ∨ X.s₀.heap.objs.size ≤ b) ∧ b ≠ X.env.locals ∧ (∀ x c, X.env.cells.lookup x = some c → c ≠ b) ∧ ∀ p ∈ X.pn ++ pins, p.1 ≠ b) : Inv X pins σ H' s' := by
  obtain ⟨h', g', d', t', o'⟩ := s'
  have e : o' = s.os := ho
  subst e
  exact I.call (g' := g') (t' := t') (d' := d') u hok hg hch
end

/-! ### the judgements -/
/-- an exception: its class, its own dict's address (where it has one), the abstract heap behind it -/
abbrev XK := Value → Option Addr → Hp → Prop
abbrev St := List (Option V)
abbrev VK := V → Hp → Prop
/-- an expression's reading; a test's; an argument list's -/
abbrev TE := St → Hp → VK → Prop
abbrev TT := St → Hp → (Bool → Hp → Prop) → Prop
abbrev TA := St → Hp → (List V → Hp → Prop) → Prop
/-- what is wanted behind a statement -/
structure Ends where
  nx : St → Hp → Prop
  rt : VK
  bk : St → Hp → Prop := fun _ _ => False
  ct : St → Hp → Prop := fun _ _ => False
abbrev TS := Ends → St → Hp → Prop

def EP (X : Cx) (pins : List (Addr × Obj)) (σ : St) (Q : VK) (u : Value) (s' : Shared) : Prop := ∃ v H', Inv X pins σ H' s' ∧ RelV v u ∧ Q v H'
def TP (X : Cx) (pins : List (Addr × Obj)) (σ : St) (Q : Bool → Hp → Prop) (b : Bool) (s' : Shared) : Prop := ∃ H', Inv X pins σ H' s' ∧ Q b H'
def AP (X : Cx) (pins : List (Addr × Obj)) (σ : St) (Q : List V → Hp → Prop) (us : List Value) (s' : Shared) : Prop := ∃ vs H', Inv X pins σ H' s' ∧ Vals vs us ∧ Q vs H'
def SP (X : Cx) (pins : List (Addr × Obj)) (D : Ends) (f : Flow) (s' : Shared) : Prop :=
  match f with
  | .next => ∃ σ' H', Inv X pins σ' H' s' ∧ D.nx σ' H'
  | .brk => ∃ σ' H', Inv X pins σ' H' s' ∧ D.bk σ' H'
  | .cont => ∃ σ' H', Inv X pins σ' H' s' ∧ D.ct σ' H'
  | .ret u => ∃ v σ' H', Inv X pins σ' H' s' ∧ RelV v u ∧ D.rt v H'

def PE (X : Cx) (e : Expr) (t : TE) : Prop :=
  ∀ (pins : List (Addr × Obj)) (s : Shared) (σ : St) (H : Hp) (Q : VK), Inv X pins σ H s → t σ H Q → wpAny (model X.prog X.w) X.A (eval e X.env) (EP X pins σ Q) X.xe s
def PT (X : Cx) (e : Expr) (t : TT) : Prop :=
  ∀ (pins : List (Addr × Obj)) (s : Shared) (σ : St) (H : Hp) (Q : Bool → Hp → Prop), Inv X pins σ H s → t σ H Q → wpAny (model X.prog X.w) X.A (isTrue e X.env (eval e X.env)) (TP X pins σ Q) X.xe s
/-- a test whatever its 'whole' is (and, or) -/
def PW (X : Cx) (e : Expr) (t : TT) : Prop :=
  ∀ (whole : Sem Value) (pins : List (Addr × Obj)) (s : Shared) (σ : St) (H : Hp) (Q : Bool → Hp → Prop), Inv X pins σ H s → t σ H Q → wpAny (model X.prog X.w) X.A (isTrue e X.env whole) (TP X pins σ Q) X.xe s
theorem PW.pt {X : Cx} {e : Expr} {t : TT} (h : PW X e t) : PT X e t := h _
/-- an argument list (no star), from the left -/
def PA (X : Cx) (es : List Expr) (t : TA) : Prop :=
  ∀ (pos : Pos) (pins : List (Addr × Obj)) (s : Shared) (σ : St) (H : Hp) (Q : List V → Hp → Prop), Inv X pins σ H s → t σ H Q → wpAny (model X.prog X.w) X.A (spliced (backTo pos (starEach es X.env))) (AP X pins σ Q) X.xe s
def PS (X : Cx) (st : Stmt) (t : TS) : Prop :=
  ∀ (pins : List (Addr × Obj)) (s : Shared) (σ : St) (H : Hp) (D : Ends), Inv X pins σ H s → t D σ H → wpAny (model X.prog X.w) X.A (exec st X.env) (SP X pins D) X.xe s
def PSs (X : Cx) (st : List Stmt) (t : TS) : Prop :=
  ∀ (pins : List (Addr × Obj)) (s : Shared) (σ : St) (H : Hp) (D : Ends), Inv X pins σ H s → t D σ H → wpAny (model X.prog X.w) X.A (execs st X.env) (SP X pins D) X.xe s
/-- weaken the end -/
theorem thn {α : Type} {t : Sem α} {Q Q' : α → Shared → Prop} {M : Model} {A : Around} {E : Value → Shared → Prop} {s : Shared} (h : wpAny M A t Q E s) (hQ : ∀ a s, Q a s → Q' a s) : wpAny M A t Q' E s := wpAny_mono h hQ fun _ _ x => x
end L2

namespace L2
open PySem PySem.Spec PyProof.Rows
section
variable {X : Cx}


/-! ### names and constants -/
def tVar (i : Nat) : TE := fun σ H Q => ∃ v, σ[i]? = some (some v) ∧ Q v H
def tC (v : V) : TE := fun _ H Q => Q v H
theorem pe_var {i : Nat} {x : Str} {pos : Pos} (hN : X.N[i]? = some x) (hv : Vis X.env.scope x) (hd : (x == ("__debug__" : Str)) = false := by decide) (hcd : (x == ("__classdict__" : Str)) = false := by decide) : PE X (.Name x pos) (tVar i) := by
  intro pins s σ H Q I h
  obtain ⟨v, e, h⟩ := h
  obtain ⟨m, hn, hl⟩ := I.loc
  obtain ⟨u, r, l⟩ := hl i x v hN e hv
  have fin : EP X pins σ Q u s := ⟨v, H, I, r, h⟩
  rcases l with ⟨hk, hm⟩ | ⟨hk, c, hc, hcell⟩
  · exact wpAny_Name (wpAny_loadName_local I.ok.kind hk hn hm fin) hd
  · rcases hk with hk | hk
    · exact wpAny_Name (wpAny_loadName_cell I.ok.kind hk hc hcell fin) hd
    · exact wpAny_Name (wpAny_loadName_free I.ok.kind hk hc hcell fin hcd) hd
theorem pe_int {i j pos} : PE X (.Constant (.int i) j pos) (tC (.int i)) := fun _ _ _ H _ I h => wpAny_Constant_int ⟨.int i, H, I.tok _, ⟨_, rfl⟩, h⟩
theorem pe_bl {b j pos} : PE X (.Constant (.bool b) j pos) (tC (.bl b)) := fun _ _ _ H _ I h => Constant_bool ⟨.bl b, H, I, rfl, h⟩
theorem pe_non {j pos} : PE X (.Constant .none j pos) (tC .non) := fun _ _ _ H _ I h => Constant_none ⟨.non, H, I, rfl, h⟩

/-- a global name of the def -/
def Gl (X : Cx) (x : Str) : Prop := X.env.kindOf x = some .globalImplicit
theorem ld_glob {E : Value → Shared → Prop} {pins : List (Addr × Obj)} {s : Shared} {σ : St} {H : Hp} {x : Str} {u : Value} {pos : Pos} {Q : Value → Shared → Prop} (I : Inv X pins σ H s) (hg : Gl X x) (hm : X.mg x = some u) (h : Q u s)
    (hd : (x == ("__debug__" : Str)) = false := by decide) : wpAny (model X.prog X.w) X.A (eval (.Name x pos) X.env) Q E s :=
  Calls.Name_function_global I.ok.kind hg (Calls.loadGlobal_global (by rw [I.ok.glob]; exact I.mod.glob.keeps I.bk) hm h) hd
theorem ld_blt {E : Value → Shared → Prop} {pins : List (Addr × Obj)} {s : Shared} {σ : St} {H : Hp} {x : Str} {u : Value} {pos : Pos} {Q : Value → Shared → Prop} (I : Inv X pins σ H s) (hg : Gl X x) (hm : X.mg x = none) (hv : bootBuiltins x = some u) (h : Q u s)
    (hn : x ≠ "__name__" := by decide) (hd : (x == ("__debug__" : Str)) = false := by decide) : wpAny (model X.prog X.w) X.A (eval (.Name x pos) X.env) Q E s := by
  obtain ⟨mb, h1, h2⟩ := I.mod.blt
  exact Calls.Name_function_global I.ok.kind hg (Calls.loadGlobal_builtin (by rw [I.ok.glob]; exact I.mod.glob.keeps I.bk) hm (by rw [I.ok.blt]; exact h1.keeps I.bk) ((h2 x hn).trans hv) h) hd
/-- a module's constant, a class, a function, as a value -/
theorem pe_glob {x : Str} {v : V} {u : Value} {pos : Pos} (hg : Gl X x) (hm : X.mg x = some u) (r : RelV v u) (hd : (x == ("__debug__" : Str)) = false := by decide) : PE X (.Name x pos) (tC v) :=
  fun _ _ _ H _ I h => ld_glob I hg hm ⟨v, H, I, r, h⟩ hd
theorem pe_bltn {x : Str} {v : V} {u : Value} {pos : Pos} (hg : Gl X x) (hm : X.mg x = none) (hv : bootBuiltins x = some u) (r : RelV v u) (hn : x ≠ "__name__" := by decide) (hd : (x == ("__debug__" : Str)) = false := by decide) : PE X (.Name x pos) (tC v) :=
  fun _ _ _ H _ I h => ld_blt I hg hm hv ⟨v, H, I, r, h⟩ hn hd

/-! ### arithmetic -/
variable {a b : Expr} {ta tb : TE} {pos : Pos}

/-! ### comparisons -/
/-- a comparison as a value, as a test -/
def tB (t : TE) : TT := fun σ H Q => t σ H fun x H1 => ∃ c, x = .bl c ∧ Q c H1
/-- an expression whose value is a bool, as a test -/
theorem pt_val {e : Expr} {t : TE} (h : PE X e t) (he : ∀ whole, isTrue e X.env whole = (do let v ← whole; standAt e.pos; holding [v] (truthy v)) := by intro _; rfl) : PT X e (tB t) := by
  intro pins s σ H Q I hw
  refine isTrue_plain (thn (h pins s σ H _ I hw) fun v s1 ⟨x, H1, I1, r1, q1⟩ => ?_) (he _)
  obtain ⟨d, rfl, q⟩ := q1
  cases r1
  exact wpAny_truthy_bool ⟨H1, I1, q⟩

/-! ### and, or, not -/
variable {tA tB' : TT} {rest : List Expr}
def tAnd (t u : TT) : TT := fun σ H Q => t σ H fun c H1 => if c = true then u σ H1 Q else Q false H1
def tOr (t u : TT) : TT := fun σ H Q => t σ H fun c H1 => if c = true then Q true H1 else u σ H1 Q
def tNot (t : TT) : TT := fun σ H Q => t σ H fun c H1 => Q (!c) H1
theorem pw_and1 (ha : PT X a tA) : PW X (.BoolOp .And [a] pos) tA := by
  intro wh pins s σ H Q I h
  refine isTrue_and (thn (ha pins s σ H Q I h) fun c s1 e => ?_)
  cases c with
  | true => exact isTrue_and_nil e
  | false => exact e
theorem pw_or1 (ha : PT X a tA) : PW X (.BoolOp .Or [a] pos) tA := by
  intro wh pins s σ H Q I h
  refine isTrue_or (thn (ha pins s σ H Q I h) fun c s1 e => ?_)
  cases c with
  | false => exact isTrue_or_nil e
  | true => exact e
theorem pw_and (ha : PT X a tA) (hb : PW X (.BoolOp .And (b :: rest) pos) tB') : PW X (.BoolOp .And (a :: b :: rest) pos) (tAnd tA tB') := by
  intro wh pins s σ H Q I h
  refine isTrue_and (thn (ha pins s σ H _ I h) fun c s1 ⟨H1, I1, q1⟩ => ?_)
  cases c with
  | true => exact hb wh pins s1 σ H1 Q I1 q1
  | false => exact ⟨H1, I1, q1⟩
theorem pw_or (ha : PT X a tA) (hb : PW X (.BoolOp .Or (b :: rest) pos) tB') : PW X (.BoolOp .Or (a :: b :: rest) pos) (tOr tA tB') := by
  intro wh pins s σ H Q I h
  refine isTrue_or (thn (ha pins s σ H _ I h) fun c s1 ⟨H1, I1, q1⟩ => ?_)
  cases c with
  | true => exact ⟨H1, I1, q1⟩
  | false => exact hb wh pins s1 σ H1 Q I1 q1
theorem pt_not (ha : PT X a tA) : PT X (.UnaryOp .Not a pos) (tNot tA) := by
  intro pins s σ H Q I h
  exact isTrue_not (ha pins s σ H (fun c H1 => Q (!c) H1) I h)
/-- .. as values (bools) -/
def tAndV (ta tb : TE) : TE := fun σ H Q => ta σ H fun x H1 => ∃ c, x = .bl c ∧ if c = true then tb σ H1 Q else Q (.bl false) H1
def tNotV (ta : TE) : TE := fun σ H Q => ta σ H fun x H1 => ∃ c, x = .bl c ∧ Q (.bl (!c)) H1
theorem pe_one {op} {t : TE} (h : PE X a t) : PE X (.BoolOp op [a] pos) t := fun pins s σ H Q I hw => BoolOp_one (h pins s σ H Q I hw)
theorem pe_and (ha : PE X a ta) (hb : PE X (.BoolOp .And (b :: rest) pos) tb) : PE X (.BoolOp .And (a :: b :: rest) pos) (tAndV ta tb) := by
  intro pins s σ H Q I h
  refine BoolOp_and (thn (ha pins s σ H _ I h) fun v s1 ⟨x, H1, I1, r1, q1⟩ => ?_)
  obtain ⟨c, rfl, q1⟩ := q1
  cases r1
  refine wpAny_truthy_bool ?_
  cases c with
  | true => exact hb pins s1 σ H1 Q I1 q1
  | false => exact ⟨.bl false, H1, I1, rfl, q1⟩
theorem pe_not (ha : PE X a ta) : PE X (.UnaryOp .Not a pos) (tNotV ta) := by
  intro pins s σ H Q I h
  refine UnaryOp_ (thn (ha pins s σ H _ I h) fun v s1 ⟨x, H1, I1, r1, q1⟩ => ?_)
  obtain ⟨c, rfl, q1⟩ := q1
  cases r1
  exact not_of (wpAny_truthy_bool ⟨.bl (!c), H1, I1, rfl, q1⟩)
/-- a if t else b -/
def tIf (t : TT) (ta tb : TE) : TE := fun σ H Q => t σ H fun c H1 => if c = true then ta σ H1 Q else tb σ H1 Q
theorem pe_ifExp {c : Expr} (hc : PT X c tA) (ha : PE X a ta) (hb : PE X b tb) : PE X (.IfExp c a b pos) (tIf tA ta tb) := by
  intro pins s σ H Q I h
  refine wpAny_IfExp (thn (hc pins s σ H _ I h) fun d s1 ⟨H1, I1, q1⟩ => ?_)
  cases d with
  | true => exact ha pins s1 σ H1 Q I1 q1
  | false => exact hb pins s1 σ H1 Q I1 q1
end
end L2

namespace L2
open PySem PySem.Spec PyProof.Rows

/-! ### a list, a tuple that is read: tracked, frozen, or an object of the module -/
def SqL (K : PySem.W.Frag) (H : Hp) (a : Addr) (xs : List V) : Prop :=
  Rd H a (.lst xs) ∨
    ∃ (o : Obj) (its : Array Value) (n : Nat), K.lookup a = some o ∧ o.cls = .type "list" ∧ o.dict = none ∧ o.data = .seq its n ∧ its.size ≤ sizeLine ∧ Vals xs its.toList
def SqT (K : PySem.W.Frag) (H : Hp) (a : Addr) (xs : List V) : Prop :=
  Rd H a (.tup xs) ∨
    ∃ (o : Obj) (its : Array Value) (n : Nat), K.lookup a = some o ∧ o.cls = .type "tuple" ∧ o.data = .seq its n ∧ its.size ≤ sizeLine ∧ Vals xs its.toList
def absV : Value → Option V
  | .none => some .non
  | .bool b => some (.bl b)
  | .int i _ => some (.int i)
  | .str x _ => some (.str x)
  | .bytes b _ => some (.byt b)
  | .float b _ => some (.flt b)
  | .ref a => some (.ref a)
  | .type n => some (.ty n)
  | _ => none
theorem RelV.abs {x : V} {u : Value} (r : RelV x u) : absV u = some x := by
  cases x with
  | non => cases r; rfl
  | bl _ => cases r; rfl
  | int _ => obtain ⟨t, rfl⟩ := r; rfl
  | str _ => obtain ⟨t, rfl⟩ := r; rfl
  | byt _ => obtain ⟨t, rfl⟩ := r; rfl
  | flt _ => obtain ⟨t, rfl⟩ := r; rfl
  | ref _ => cases r; rfl
  | ty _ => cases r; rfl
theorem RelV.inj {x y : V} {u : Value} (r : RelV x u) (q : RelV y u) : x = y := Option.some.inj (r.abs.symm.trans q.abs)
theorem Vals.inj : ∀ {xs ys : List V} {us : List Value}, Vals xs us → Vals ys us → xs = ys
  | _, _, _, .nil, .nil => rfl
  | _, _, _, .cons r t, .cons r' t' => by rw [r.inj r', Vals.inj t t']
section
variable {X : Cx} {pins : List (Addr × Obj)} {σ : St} {H : Hp} {s : Shared} {a : Addr} {xs ys : List V}
theorem SqL.of {K : PySem.W.Frag} (h : H a = some (.lst xs)) : SqL K H a xs := .inl (.inl h)
theorem SqT.of {K : PySem.W.Frag} (h : H a = some (.tup xs)) : SqT K H a xs := .inl (.inl h)
theorem Inv.list (I : Inv X pins σ H s) (h : SqL X.K H a xs) : ∃ its : List Value, Vals xs its ∧ PlainL s.heap a its.toArray ∧ xs.length ≤ sizeLine := by
  rcases h with h | ⟨o, its, n, hk, hc, hd, hs, hz, r⟩
  · obtain ⟨z, its, n, r, e⟩ := h.ok I.hok
    exact ⟨its, r, ⟨_, n, e, rfl, rfl, rfl⟩, z⟩
  · refine ⟨its.toList, r, ⟨o, n, I.kIn a o hk, hc, hd, by simpa using hs⟩, ?_⟩
    have e := r.length
    simp only [Array.length_toList] at e
    omega
theorem Inv.tuple (I : Inv X pins σ H s) (h : SqT X.K H a xs) : ∃ its : List Value, Vals xs its ∧ IsTup s.heap a its.toArray ∧ xs.length ≤ sizeLine := by
  rcases h with h | ⟨o, its, n, hk, hc, hs, hz, r⟩
  · obtain ⟨z, its, r, p⟩ := h.ok I.hok
    exact ⟨its, r, p, z⟩
  · refine ⟨its.toList, r, ⟨o, I.kIn a o hk, hc, n, by simpa using hs⟩, ?_⟩
    have e := r.length
    simp only [Array.length_toList] at e
    omega
theorem Inv.list_inj (I : Inv X pins σ H s) (h : SqL X.K H a xs) (h' : SqL X.K H a ys) : xs = ys := by
  obtain ⟨its, r, ⟨o, n, e, _, _, d⟩, _⟩ := I.list h
  obtain ⟨its', r', ⟨o', n', e', _, _, d'⟩, _⟩ := I.list h'
  rw [e] at e'; cases e'
  rw [d] at d'
  injection d' with d1 _
  have : its = its' := by simpa using congrArg Array.toList d1
  subst this
  exact r.inj r'
end

/-! ### another wish about exceptions -/
abbrev Cx.wish (X : Cx) (E : Value → Shared → Prop) : Cx := { X with xe := E }
/-- no exception leaves -/
abbrev Cx.nox (X : Cx) : Cx := X.wish fun _ _ => False
theorem Cx.Ok.wish {X : Cx} (ok : X.Ok) (E : Value → Shared → Prop) : (X.wish E).Ok :=
  ⟨ok.mod, ok.kind, ok.glob, ok.blt, ok.above, ok.inj, ok.has, ok.cab, ok.hd, ok.frames, ok.stk, ok.exf, ok.bs, ok.bsz, ok.noex, ok.exfs, ok.funs, ok.frf⟩
theorem Cx.Ok.unwish {X : Cx} {E : Value → Shared → Prop} (ok : (X.wish E).Ok) : X.Ok :=
  ⟨ok.mod, ok.kind, ok.glob, ok.blt, ok.above, ok.inj, ok.has, ok.cab, ok.hd, ok.frames, ok.stk, ok.exf, ok.bs, ok.bsz, ok.noex, ok.exfs, ok.funs, ok.frf⟩
section
variable {X : Cx} {pins : List (Addr × Obj)} {σ : St} {H : Hp} {s : Shared} {E : Value → Shared → Prop}
theorem Inv.wish (I : Inv X pins σ H s) (E : Value → Shared → Prop) : Inv (X.wish E) pins σ H s := ⟨I.ok.wish E, I.os, I.bare, I.base, I.loc, I.cell, I.free, I.freeC, I.pin, I.hok, I.len⟩
theorem Inv.unwish (I : Inv (X.wish E) pins σ H s) : Inv X pins σ H s := ⟨I.ok.unwish, I.os, I.bare, I.base, I.loc, I.cell, I.free, I.freeC, I.pin, I.hok, I.len⟩
theorem SP.unwish {D : Ends} {f : Flow} {s' : Shared} (h : SP (X.wish E) pins D f s') : SP X pins D f s' := by
  cases f with
  | next => obtain ⟨σ', H', I, q⟩ := h; exact ⟨σ', H', I.unwish, q⟩
  | brk => obtain ⟨σ', H', I, q⟩ := h; exact ⟨σ', H', I.unwish, q⟩
  | cont => obtain ⟨σ', H', I, q⟩ := h; exact ⟨σ', H', I.unwish, q⟩
  | ret u => obtain ⟨v, σ', H', I, r, q⟩ := h; exact ⟨v, σ', H', I.unwish, r, q⟩
theorem PE.nox {e : Expr} {t : TE} (h : PE X.nox e t) : PE X e t := fun pins s σ H Q I hw =>
  wpAny_mono (h pins s σ H Q (I.wish _) hw) (fun _ _ ⟨v, H', I', r, q⟩ => ⟨v, H', I'.unwish, r, q⟩) fun _ _ z => False.elim z
theorem PT.nox {e : Expr} {t : TT} (h : PT X.nox e t) : PT X e t := fun pins s σ H Q I hw =>
  wpAny_mono (h pins s σ H Q (I.wish _) hw) (fun _ _ ⟨H', I', q⟩ => ⟨H', I'.unwish, q⟩) fun _ _ z => False.elim z
theorem PSs.nox {st : List Stmt} {t : TS} (h : PSs X.nox st t) : PSs X st t := fun pins s σ H D I hw =>
  wpAny_mono (h pins s σ H D (I.wish _) hw) (fun _ _ q => q.unwish) fun _ _ z => False.elim z
end

/-! ### blocks and small statements -/
section
variable {X : Cx} {st : Stmt} {rest : List Stmt} {t u : TS} {e : Expr} {te : TE} {pos : Pos}
def tNext : TS := fun D σ H => D.nx σ H
def tSeq (t u : TS) : TS := fun D σ H => t { D with nx := u D } σ H
theorem pss_nil : PSs X [] tNext := fun _ _ σ H _ I h => wpAny_execs_nil ⟨σ, H, I, h⟩
theorem pss_cons (h1 : PS X st t) (h2 : PSs X rest u) : PSs X (st :: rest) (tSeq t u) := by
  intro pins s σ H D I h
  refine wpAny_execs_cons (thn (h1 pins s σ H { D with nx := u D } I h) fun f s1 q => ?_)
  cases f with
  | next =>
    obtain ⟨σ', H', I', q⟩ := q
    exact h2 pins s1 σ' H' D I' q
  | ret v => exact q
  | brk => exact q
  | cont => exact q
theorem pss_one (h1 : PS X st t) : PSs X [st] t := by
  intro pins s σ H D I h
  refine wpAny_execs_cons (thn (h1 pins s σ H D I h) fun f s1 q => ?_)
  cases f with
  | next => exact wpAny_execs_nil q
  | ret v => exact q
  | brk => exact q
  | cont => exact q
/-- in a def's body nothing is shown -/
theorem Inv.quiet {pins : List (Addr × Obj)} {σ : St} {H : Hp} {s : Shared} (I : Inv X pins σ H s) : interactive X.env = false := by simp [interactive, I.ok.kind]
/-- an expression whose value is dropped -/
def tDrop (te : TE) : TS := fun D σ H => te σ H fun _ H1 => D.nx σ H1
theorem ps_expr (he : PE X e te) (hs : swapsWith e none pos.line X.env = pure false := by rfl) : PS X (.Expr e pos) (tDrop te) := by
  intro pins s σ H D I h
  exact wpAny_Expr_any (thn (he pins s σ H _ I h) fun v s1 ⟨x, H1, I1, r1, q1⟩ => ⟨σ, H1, I1, q1⟩) I.quiet hs
def tRet (te : TE) : TS := fun D σ H => te σ H D.rt
theorem ps_ret (he : PE X e te) : PS X (.Return (some e) pos) (tRet te) := by
  intro pins s σ H D I h
  exact wpAny_Return_some (thn (he pins s σ H _ I h) fun v s1 ⟨x, H1, I1, r1, q1⟩ => ⟨x, σ, H1, I1, r1, q1⟩)
def tIfS (c : TT) (t u : TS) : TS := fun D σ H => c σ H fun b H1 => if b = true then t D σ H1 else u D σ H1
theorem ps_if {c : Expr} {a b : List Stmt} {tc : TT} (hc : PT X c tc) (ha : PSs X a t) (hb : PSs X b u) : PS X (.If c a b pos) (tIfS tc t u) := by
  intro pins s σ H D I h
  refine wpAny_If (thn (hc pins s σ H _ I h) fun d s1 ⟨H1, I1, q1⟩ => ?_)
  cases d with
  | true => exact ha pins s1 σ H1 D I1 q1
  | false => exact hb pins s1 σ H1 D I1 q1
/-- code that the proof never comes to -/
def tNever : TS := fun _ _ _ => False
theorem ps_never : PS X st tNever := fun _ _ _ _ _ _ h => h.elim
end

/-! ### targets -/
abbrev TG := V → St → Hp → (St → Hp → Prop) → Prop
abbrev TGs := List V → St → Hp → (St → Hp → Prop) → Prop
def PG (X : Cx) (target : Expr) (t : TG) : Prop :=
  ∀ (pins : List (Addr × Obj)) (s : Shared) (σ : St) (H : Hp) (v : V) (u : Value) (Q : St → Hp → Prop), Inv X pins σ H s → RelV v u → t v σ H Q →
    wpAny (model X.prog X.w) X.A (assign target X.env u) (fun _ s' => ∃ σ' H', Inv X pins σ' H' s' ∧ Q σ' H') X.xe s
/-- several targets, one after another -/
def PGs (X : Cx) (ts : List Expr) (t : TGs) : Prop :=
  ∀ (pins : List (Addr × Obj)) (s : Shared) (σ : St) (H : Hp) (vs : List V) (us : List Value) (Q : St → Hp → Prop), Inv X pins σ H s → Vals vs us → t vs σ H Q →
    wpAny (model X.prog X.w) X.A (assignInOrder ((assignEach ts X.env).map (·.2)) us) (fun _ s' => ∃ σ' H', Inv X pins σ' H' s' ∧ Q σ' H') X.xe s
/-- o[i] = v, by values -/
abbrev TSet := V → V → V → Hp → (Hp → Prop) → Prop
def PSet (X : Cx) (t : TSet) : Prop :=
  ∀ (pins : List (Addr × Obj)) (s : Shared) (σ : St) (H : Hp) (o i v : V) (ov iv u : Value) (Q : Hp → Prop), Inv X pins σ H s → RelV o ov → RelV i iv → RelV v u → t o i v H Q →
    wpAny (model X.prog X.w) X.A (setItem ov iv u) (fun _ s' => ∃ H', Inv X pins σ H' s' ∧ Q H') X.xe s
section
variable {X : Cx} {pos : Pos}
def gName (i : Nat) : TG := fun v σ H Q => Q (σ.set i (some v)) H
theorem pg_name {i : Nat} {x : Str} (hN : X.N.Nodup) (hi : X.N[i]? = some x) (hx : Loc X.env.scope x) (hf : X.fn x = true ∨ X.env.scope.names.lookup x = some .local := by first | exact .inl rfl | exact .inr rfl | assumption) : PG X (.Name x pos) (gName i) := by
  intro pins s σ H v u Q I r h
  exact wpAny_assign_Name (store_ok I hN hi hx r (fun s' I' => ⟨_, H, I', h⟩) hf)
def gNil : TGs := fun vs σ H Q => vs = [] ∧ Q σ H
def gCons (t : TG) (u : TGs) : TGs := fun vs σ H Q => ∃ v r, vs = v :: r ∧ t v σ H fun σ' H' => u r σ' H' Q
theorem pgs_nil : PGs X [] gNil := by
  intro pins s σ H vs us Q I r h
  obtain ⟨e, h⟩ := h
  subst e
  cases r
  exact assignInOrder_nil ⟨σ, H, I, h⟩
theorem pgs_cons {e : Expr} {es : List Expr} {t : TG} {u : TGs} (h1 : PG X e t) (h2 : PGs X es u)
    (hs : (assignEach (e :: es) X.env).map (·.2) = assign e X.env :: (assignEach es X.env).map (·.2) := by rfl) : PGs X (e :: es) (gCons t u) := by
  intro pins s σ H vs us Q I r h
  obtain ⟨v, vr, e1, h⟩ := h
  subst e1
  cases r with
  | cons r rr =>
    rw [hs]
    refine assignInOrder_cons (thn (h1 pins s σ H _ _ _ I r h) fun _ s1 ⟨σ1, H1, I1, q1⟩ => ?_)
    exact h2 pins s1 σ1 H1 _ _ Q I1 rr q1
/-- (a, b, ..) = a tuple of that length -/
def gTup (K : PySem.W.Frag) (n : Nat) (t : TGs) : TG := fun v σ H Q => ∃ a xs, v = .ref a ∧ SqT K H a xs ∧ xs.length = n ∧ t xs σ H Q
theorem pg_tup {es : List Expr} {k : Nat} {t : TGs} {n : Nat} (hc : X.calm = true) (h : PGs X es t)
    (hn : (assignEach es X.env).length = n := by rfl) (hst : (assignEach es X.env).findIdx? (·.1) = none := by rfl) : PG X (.Tuple es k pos) (gTup X.K n t) := by
  intro pins s σ H v u Q I r hw
  obtain ⟨a, xs, e1, hq, hl, hw⟩ := hw
  subst e1
  cases r
  obtain ⟨its, rv, ht, hz⟩ := I.tuple hq
  refine assign_Tuple_tuple (I.ok.hd hc) ht (by simp [hn, ← hl, rv.length]) hst fun h' hx => ?_
  have I1 : Inv X pins σ H { s with heap := h' } := I.kept (t' := s.toks) fun b o e => hx b o (Nat.ne_of_lt (Heap.lt_size e)) e
  exact h pins _ σ H xs _ Q I1 (by simpa using rv) hw
/-- o[i] = .. -/
def gSub (to ti : TE) (t : TSet) : TG := fun v σ H Q => to σ H fun o H1 => ti σ H1 fun i H2 => t o i v H2 fun H3 => Q σ H3
theorem pg_sub {o i : Expr} {to ti : TE} {t : TSet} (ho : PE X o to) (hi : PE X i ti) (hs : PSet X t)
    (ha : ∀ v, assign (.Subscript o i pos) X.env v = (do
      let ov ← holding [v] (eval o X.env)
      let iv ← holding [v, ov] (eval i X.env)
      standAt pos
      holding [v, ov, iv] (setItem ov iv v)
      release [v, ov, iv] []) := by intro _; rfl) : PG X (.Subscript o i pos) (gSub to ti t) := by
  intro pins s σ H v u Q I r h
  rw [ha]
  refine wpAny_bind (wpAny_holding (thn (ho pins s σ H _ I h) fun ov s1 ⟨x, H1, I1, r1, q1⟩ => ?_))
  refine wpAny_bind (wpAny_holding (thn (hi pins s1 σ H1 _ I1 q1) fun iv s2 ⟨y, H2, I2, r2, q2⟩ => ?_))
  refine wpAny_bind (wpAny_standAt (wpAny_bind (wpAny_holding (thn (hs pins s2 σ H2 x y v ov iv u _ I2 r1 r2 r q2) fun _ s3 ⟨H3, I3, q3⟩ => ?_))))
  exact wpAny_release ⟨σ, H3, I3, q3⟩
/-- target = value -/
def tAsg (te : TE) (g : TG) : TS := fun D σ H => te σ H fun x H1 => g x σ H1 D.nx
theorem ps_asg {tg e : Expr} {te : TE} {g : TG} (he : PE X e te) (hg : PG X tg g) (hs : swapsWithSole [tg] e pos.line X.env = pure false := by rfl) (hw : swappedStores [tg] e X.env = pure none := by rfl)
    (h1 : (assignEach [tg] X.env).map (·.2) = [assign tg X.env] := by rfl) : PS X (.Assign [tg] e pos) (tAsg te g) := by
  intro pins s σ H D I h
  refine wpAny_Assign_stores (thn (he pins s σ H _ I h) fun v s1 ⟨x, H1, I1, r1, q1⟩ => ?_) hs hw
  rw [h1]
  exact thn (hg pins s1 σ H1 x v _ I1 r1 q1) fun _ s2 q => q
/-- name = value -/
theorem ps_set {i : Nat} {x : Str} {e : Expr} {te : TE} {pos' : Pos} (hN : X.N.Nodup) (hi : X.N[i]? = some x) (hx : Loc X.env.scope x) (he : PE X e te) (hs : swapsWith e (some (.Name x pos')) pos.line X.env = pure false := by rfl) (hf : X.fn x = true ∨ X.env.scope.names.lookup x = some .local := by first | exact .inl rfl | exact .inr rfl | assumption) :
    PS X (.Assign [.Name x pos'] e pos) (tAsg te (gName i)) := by
  intro pins s σ H D I h
  refine wpAny_Assign_Name (thn (he pins s σ H _ I h) fun v s1 ⟨y, H1, I1, r1, q1⟩ => ?_) hs
  exact store_ok I1 hN hi hx r1 (fun s2 I2 => ⟨_, H1, I2, q1⟩) hf
end

/-! ### while -/
section
variable {X : Cx} {pos : Pos}
/-- the invariant W with its measure -/
def tWhile (c : TT) (tb : TS) : TS := fun D σ H => ∃ W : Nat → St → Hp → Prop, (∃ m, W m σ H) ∧ ∀ m σ H, W m σ H →
  c σ H fun b H1 => if b = true then ∃ N : St → Hp → Prop, (∀ σ' H', N σ' H' → ∃ m', m' < m ∧ W m' σ' H') ∧ tb { D with nx := N, ct := N, bk := D.nx } σ H1 else D.nx σ H1
theorem ps_while {c : Expr} {body : List Stmt} {tc : TT} {tb : TS} (hp : PassesOwn (model X.prog X.w) X.A X.env X.xe) (hc : PT X c tc) (hb : PSs X body tb) : PS X (.While c body [] pos) (tWhile tc tb) := by
  intro pins s σ H D I h
  obtain ⟨W, ⟨m0, w0⟩, turn⟩ := h
  refine wpAny_While (codeAny_whileLoop (fun n s' => ∃ σ' H', Inv X pins σ' H' s' ∧ W n σ' H') ?_ m0 ⟨σ, H, I, w0⟩)
  rintro n s1 ⟨σ1, H1, I1, w1⟩
  refine wpAny_passesOwn hp (thn (hc pins s1 σ1 H1 _ I1 (turn n σ1 H1 w1)) fun b s2 ⟨H2, I2, q2⟩ => ?_)
  cases b with
  | true =>
    obtain ⟨N, hN, q2⟩ := q2
    rw [if_pos rfl]
    refine wpAny_passesOwn hp (thn (hb pins s2 σ1 H2 _ I2 q2) fun f s3 q3 => ?_)
    cases f with
    | next =>
      obtain ⟨σ3, H3, I3, n3⟩ := q3
      obtain ⟨m', hm, w3⟩ := hN σ3 H3 n3
      exact ⟨m', hm, σ3, H3, I3, w3⟩
    | cont =>
      obtain ⟨σ3, H3, I3, n3⟩ := q3
      obtain ⟨m', hm, w3⟩ := hN σ3 H3 n3
      exact ⟨m', hm, σ3, H3, I3, w3⟩
    | brk => exact q3
    | ret v => exact q3
  | false =>
    rw [if_neg Bool.false_ne_true]
    exact wpAny_execs_nil ⟨σ1, H2, I2, q2⟩
end

/-! ### what a loop or a comprehension walks -/
/-- at turn i: it yields x (the heap may grow), or it stops -/
structure It where
  go : Nat → Hp → Prop
  yld : Nat → Hp → V → Hp → Prop
  stop : Nat → Hp → Prop
/-- the iterator's own objects may turn: they are not the frame's, not pinned, younger than the entry (or a comprehension's own) -/
def FpOk (X : Cx) (pins : List (Addr × Obj)) (H : Hp) (b : Addr) : Prop :=
  H b = none ∧ b ≠ X.env.locals ∧ b ∉ X.fs ∧ (b ∈ X.ex ∨ X.s₀.heap.objs.size ≤ b) ∧ (∀ x c, X.env.cells.lookup x = some c → c ≠ b) ∧ ∀ p ∈ X.pn ++ pins, p.1 ≠ b
theorem Inv.fpOk {X : Cx} {pins : List (Addr × Obj)} {σ : St} {H H' : Hp} {s : Shared} {b : Addr} (I : Inv X pins σ H s) (hb : s.heap.objs.size ≤ b) (hn : H' b = none) : FpOk X pins H' b := by
  refine ⟨hn, Nat.ne_of_gt (Nat.lt_of_lt_of_le I.lt hb), I.nofs hb, .inr (Nat.le_trans I.sz hb), fun x c e z => ?_, fun p hp z => ?_⟩
  · obtain ⟨v, q⟩ := I.cell x c e
    exact absurd (Nat.lt_of_lt_of_le q.lt (by rw [z]; exact hb)) (Nat.lt_irrefl _)
  · exact absurd (Nat.lt_of_lt_of_le (Heap.lt_size (I.pin p hp).1) (by rw [z]; exact hb)) (Nat.lt_irrefl _)
structure Turn (P : Program) (w : World) (K : PySem.W.Frag) (tg : Expr) (J : It) (fp : List Addr) (it : Addr) (tn : Nat → Heap → Prop) : Prop where
  mem : it ∈ fp
  obj : ∀ i h, tn i h → ∀ b ∈ fp, ∃ o, h.get? b = some o ∧ ∀ v, o.data ≠ .cell v
  keep : ∀ i h h', tn i h → (∀ b ∈ fp, ∀ o, h.get? b = some o → h'.get? b = some o) → tn i h'
  item : ∀ (X : Cx), X.prog = P → X.w = w → X.K = K → X.calm = true → ∀ (i : Nat) (pins : List (Addr × Obj)) (s : Shared) (σ : St) (H : Hp) (E : Value → Shared → Prop), Inv X pins σ H s → (∀ b ∈ fp, FpOk X pins H b) → tn i s.heap → J.go i H →
    wpAny (model P w) X.A (pyNext (.ref it)) (fun r s1 => ∃ u, r = some u ∧
      wpAny (model P w) X.A (letOwnedTupleGo tg (.ref it) u) (fun _ s2 => ∃ x H', Inv X pins σ H' s2 ∧ RelV x u ∧ J.yld i H x H' ∧ tn (i + 1) s2.heap ∧ ∀ b ∈ fp, H' b = none) E s1) E s
  done : ∀ (X : Cx), X.prog = P → X.w = w → X.K = K → X.calm = true → ∀ (i : Nat) (pins : List (Addr × Obj)) (s : Shared) (σ : St) (H : Hp) (E : Value → Shared → Prop), Inv X pins σ H s → (∀ b ∈ fp, FpOk X pins H b) → tn i s.heap → J.stop i H →
    wpAny (model P w) X.A (pyNext (.ref it)) (fun r s1 => r = none ∧ Inv X pins σ H s1) E s
  self : ∀ (A : Around) (i : Nat) (s : Shared) (Q : Value → Shared → Prop) (E : Value → Shared → Prop), tn i s.heap → Q (.ref it) s → wpAny (model P w) A (pyIter (.ref it)) Q E s
abbrev TI := St → Hp → (It → Hp → Prop) → Prop
/-- an iterator has come -/
def PIE (X : Cx) (pins : List (Addr × Obj)) (σ : St) (tg : Expr) (R : It → Hp → Prop) (itv : Value) (s2 : Shared) : Prop :=
  ∃ (it : Addr) (fp : List Addr) (tn : Nat → Heap → Prop) (J : It) (H' : Hp), itv = .ref it ∧ Inv X pins σ H' s2 ∧ Turn X.prog X.w X.K tg J fp it tn ∧ tn 0 s2.heap ∧ (∀ b ∈ fp, FpOk X pins H' b) ∧ R J H'
def PI (X : Cx) (tg iter : Expr) (wi : TI) : Prop :=
  ∀ (pins : List (Addr × Obj)) (s : Shared) (σ : St) (H : Hp) (R : It → Hp → Prop), Inv X pins σ H s → wi σ H R →
    wpAny (model X.prog X.w) X.A (eval iter X.env) (fun v s1 => wpAny (model X.prog X.w) X.A (pyIter v) (PIE X pins σ tg R) X.xe s1) X.xe s

/-- the step ahead of the store is nothing for an iterator that keeps no tuple -/
theorem go_of {M : Model} {A : Around} {E : Value → Shared → Prop} {s : Shared} {tg : Expr} {it : Addr} {u : Value} {o : Obj} {n : String} {vs : Array Value} {Q : Unit → Shared → Prop} (ho : s.heap.get? it = some o) (hc : o.cls = .type n) (hd : o.data = .fields vs)
    (hn : ["enumerate", "zip", "dict_itemiterator", "dict_reverseitemiterator", "odict_iterator", "itertools.zip_longest", "itertools.pairwise"].contains n = false) (hQ : Q () s) : wpAny M A (letOwnedTupleGo tg (.ref it) u) Q E s := by
  unfold letOwnedTupleGo
  cases tg <;> first
    | exact wpAny_pure hQ
    | (cases u <;> first
        | exact wpAny_pure hQ
        | (refine wpAny_bind (wpAny_load ho ?_)
           rw [hc, hd]
           show wpAny M A (if (["enumerate", "zip", "dict_itemiterator", "dict_reverseitemiterator", "odict_iterator", "itertools.zip_longest", "itertools.pairwise"].contains n && vs[0]? == some (rawInt _)) = true then _ else _) Q E s
           rw [if_neg (by intro h; rw [hn, Bool.false_and] at h; cases h)]
           exact wpAny_pure hQ))

/-- the list at a, as it stands at each turn (a loop may append to it) -/
def Itl (K : PySem.W.Frag) (a : Addr) : It :=
  ⟨fun i H => ∃ xs x, SqL K H a xs ∧ xs[i]? = some x, fun i H x H' => H' = H ∧ ∀ xs, SqL K H a xs → xs[i]? = some x, fun i H => ∃ xs, SqL K H a xs ∧ xs.length ≤ i⟩
/-- lo, lo + 1, .. (n of them) -/
def Itr (lo : Int) (n : Nat) : It := ⟨fun i _ => i < n, fun i H x H' => H' = H ∧ x = .int (lo + i), fun i _ => n ≤ i⟩
theorem turn_list {P : Program} {w : World} {K : PySem.W.Frag} {tg : Expr} (a it : Addr) : Turn P w K tg (Itl K a) [it] it (fun i h => h.IsListIter it a i) where
  mem := by simp
  obj := fun i h st b hb => by
    have e : b = it := by simpa using hb
    subst e
    obtain ⟨o, e, c, d⟩ := st
    exact ⟨o, e, fun v z => by rw [d] at z; cases z⟩
  keep := fun i h h' st k => st.at fun o e => k it (by simp) o e
  item := by
    intro X hP hw hK hc i pins s σ H E I hf st hg
    subst hP hw hK
    obtain ⟨xs, x, hq, hx⟩ := hg
    obtain ⟨its, rv, p, hz⟩ := I.list hq
    obtain ⟨u, hu, ru⟩ := rv.get hx
    obtain ⟨f0, f1, f2, f3, f4, f5⟩ := hf it (by simp)
    refine wpAny_pyNext_list_item st p.isList (x := u) (by simpa using hu) fun h' st' sb => ?_
    have I1 : Inv X pins σ H { s with heap := h' } := I.turned (t' := s.toks) (fun b o hb e => (sb.2 b hb).trans e) f0 f1 f3 f4 f5
    obtain ⟨o, e, c, d⟩ := id st'
    exact ⟨u, rfl, go_of (s := { s with heap := h' }) e c d (by decide) ⟨x, H, I1, ru, ⟨rfl, fun ys hy => by rw [I.list_inj hy hq]; exact hx⟩, st', fun b hb => (hf b hb).1⟩⟩
  done := by
    intro X hP hw hK hc i pins s σ H E I hf st hg
    subst hP hw hK
    obtain ⟨xs, hq, hx⟩ := hg
    obtain ⟨its, rv, p, hz⟩ := I.list hq
    obtain ⟨f0, f1, f2, f3, f4, f5⟩ := hf it (by simp)
    have hl := rv.length
    exact wpAny_pyNext_list_end (I.ok.hd hc) st p.isList (by simp; omega) fun h' eb => ⟨rfl, I.turned (t' := s.toks) (fun b o hb e => eb b o hb e) f0 f1 f3 f4 f5⟩
  self := fun _ _ _ _ _ st h => wpAny_pyIter_listiter st h
theorem turn_range {P : Program} {w : World} {K : PySem.W.Frag} {tg : Expr} (it : Addr) (lo : Int) (n : Nat) : Turn P w K tg (Itr lo n) [it] it (fun i h => IsRangeIter h it (lo + (i : Nat) * 1) ((n : Int) - (i : Nat)) 1) where
  mem := by simp
  obj := fun i h st b hb => by
    have e : b = it := by simpa using hb
    subst e
    exact ⟨_, st, fun v z => by
      have z' : Data.fields _ = Data.cell v := z
      cases z'⟩
  keep := fun i h h' st k => k it (by simp) _ st
  item := by
    intro X hP hw hK hc i pins s σ H E I hf st hg
    subst hP hw hK
    obtain ⟨f0, f1, f2, f3, f4, f5⟩ := hf it (by simp)
    have W := Walks.range (prog := X.prog) (w := X.w) (I.ok.hd hc) it lo 1 n
    refine W.item i s _ _ hg st fun v h' tk hv st' kk => ?_
    obtain ⟨t, rfl⟩ := hv
    have I1 : Inv X pins σ H { s with heap := h', toks := tk } := I.turned (fun b o hb e => kk b o (by simpa using hb) e) f0 f1 f3 f4 f5
    refine ⟨_, rfl, go_of (s := { s with heap := h', toks := tk }) (n := "range_iterator") st' rfl rfl (by decide) ⟨.int (lo + i), H, I1, ⟨t, ?_⟩, ⟨rfl, rfl⟩, st', fun b hb => (hf b hb).1⟩⟩
    rw [Int.mul_one]
  done := by
    intro X hP hw hK hc i pins s σ H E I hf st hg
    subst hP hw hK
    obtain ⟨f0, f1, f2, f3, f4, f5⟩ := hf it (by simp)
    exact wpAny_pyNext_range_end (I.ok.hd hc) st (by have : n ≤ i := hg; omega) fun h' eb => ⟨rfl, I.turned (t' := s.toks) (fun b o hb e => eb b o hb e) f0 f1 f3 f4 f5⟩
  self := fun _ _ _ _ _ st h => wpAny_pyIter_rangeiter st h
end L2

namespace L2
open PySem PySem.Spec PyProof.Rows
section
variable {X : Cx} {tg : Expr}
def iList (K : PySem.W.Frag) (tl : TE) : TI := fun σ H R => tl σ H fun x H1 => ∃ a, x = .ref a ∧ (∃ xs, SqL K H1 a xs) ∧ R (Itl K a) H1
theorem pi_list {l : Expr} {tl : TE} (hl : PE X l tl) : PI X tg l (iList X.K tl) := by
  intro pins s σ H R I h
  refine thn (hl pins s σ H _ I h) fun v s1 ⟨x, H1, I1, r1, q1⟩ => ?_
  obtain ⟨a, e, ⟨xs, hq⟩, q⟩ := q1
  subst e
  cases r1
  obtain ⟨its, rv, p, hz⟩ := I1.list hq
  refine wpAny_pyIter_list p.isList ?_
  refine ⟨s1.heap.objs.size, [s1.heap.objs.size], _, _, H1, rfl, I1.kept (t' := s1.toks) fun b o e => Heap.get?_push_of_some _ e, turn_list a _, ⟨_, Heap.get?_push_size _ rfl, rfl, rfl⟩, fun b hb => ?_, q⟩
  have e : b = s1.heap.objs.size := by simpa using hb
  subst e
  exact I1.fpOk (Nat.le_refl _) (I1.hok.fresh (Nat.le_refl _))
/-- a range object just made, walked -/
theorem range_it {pins : List (Addr × Obj)} {σ : St} {H : Hp} {s : Shared} {R : It → Hp → Prop} {E : Value → Shared → Prop} {lo hi : Int} {t u v : Tok} {tk : Nat} (I : Inv X pins σ H s) (h1 : -(2 ^ 62) ≤ lo) (h2 : lo < 2 ^ 62) (h3 : -(2 ^ 62) ≤ hi) (h4 : hi < 2 ^ 62)
    (q : R (Itr lo (hi - lo).toNat) H) : wpAny (model X.prog X.w) X.A (pyIter (.ref s.heap.objs.size)) (PIE X pins σ tg R) E { s with heap := s.heap.push { cls := .type "range", data := .fields #[.int lo t, .int hi u, .int 1 v] }, toks := tk } := by
  refine wpAny_pyIter_range (IsRange.new ..) (small_one h1 h2 h3 h4) ?_
  have I1 : Inv X pins σ H { s with heap := s.heap.push { cls := .type "range", data := .fields #[.int lo t, .int hi u, .int 1 v] }, toks := tk } := I.kept fun b o e => Heap.get?_push_of_some _ e
  refine ⟨(s.heap.push { cls := .type "range", data := .fields #[.int lo t, .int hi u, .int 1 v] }).objs.size, [(s.heap.push { cls := .type "range", data := .fields #[.int lo t, .int hi u, .int 1 v] }).objs.size], _, _, H, rfl,
    I1.kept (t' := tk) fun b o e => Heap.get?_push_of_some _ e, turn_range _ lo (hi - lo).toNat, ?_, fun b hb => ?_, q⟩
  · have e1 : lo + ((0 : Nat) : Int) * 1 = lo := by simp
    have e2 : (((hi - lo).toNat : Nat) : Int) - ((0 : Nat) : Int) = Builtin.Range.rangeSize lo hi 1 := by rw [rangeSize_one]; split <;> omega
    show IsRangeIter _ _ (lo + ((0 : Nat) : Int) * 1) ((((hi - lo).toNat : Nat) : Int) - ((0 : Nat) : Int)) 1
    rw [e1, e2]
    exact Heap.get?_push_size _ rfl
  · have e : b = (s.heap.push { cls := .type "range", data := .fields #[.int lo t, .int hi u, .int 1 v] }).objs.size := by simpa using hb
    subst e
    exact I1.fpOk (Nat.le_refl _) (I1.hok.fresh (Nat.le_refl _))
def iRng1 (ta : TA) : TI := fun σ H R => ta σ H fun vs H1 => ∃ j : Int, vs = [.int j] ∧ -(2 ^ 62) ≤ j ∧ j < 2 ^ 62 ∧ R (Itr 0 j.toNat) H1
theorem pi_range1 {a : Expr} {ta : TA} {p pos : Pos} (hg : Gl X "range") (hm : X.mg "range" = none) (ha : PA X [a] ta) (hs : starEach [a] X.env = [(false, eval a X.env)] := by rfl) : PI X tg (.Call (.Name "range" p) [a] [] pos) (iRng1 ta) := by
  intro pins s σ H R I h
  refine Call_ (ld_blt I hg hm boot_range (PyProof.Rows.callWith_type1 (thn (ha pos pins s σ H _ I h) fun us s1 ⟨vs, H1, I1, r1, q1⟩ => ?_) hs rfl))
  obtain ⟨j, e, q1, q2, q⟩ := q1
  subst e
  cases r1 with
  | cons r rr =>
    cases rr
    obtain ⟨t, rfl⟩ := r
    exact call_range_1 (range_it I1 (by omega) (by omega) q1 q2 (by simpa using q))

/-! ### for -/
/-- W: the invariant by the turn and a measure; N: what the body is to reach -/
def tFor (wi : TI) (g : TG) (tb : TS) : TS := fun D σ H => wi σ H fun J H1 => ∃ W : Nat → Nat → St → Hp → Prop, (∃ m, W 0 m σ H1) ∧ ∀ i m σ H, W i m σ H →
  (J.stop i H ∧ D.nx σ H) ∨ (J.go i H ∧ ∃ N : St → Hp → Prop, (∀ σ' H', N σ' H' → ∃ m', m' < m ∧ W (i + 1) m' σ' H') ∧ ∀ x H', J.yld i H x H' → g x σ H' fun σ2 H2 => tb { D with nx := N, ct := N, bk := D.nx } σ2 H2)
/-- the records at fp as they stand -/
def pinsAt (fp : List Addr) (h : Heap) : List (Addr × Obj) := fp.filterMap fun b => (h.get? b).map fun o => (b, o)
theorem mem_pinsAt {fp : List Addr} {h : Heap} {b : Addr} {o : Obj} (hb : b ∈ fp) (e : h.get? b = some o) : (b, o) ∈ pinsAt fp h := List.mem_filterMap.mpr ⟨b, hb, by rw [e]; rfl⟩
theorem of_pinsAt {fp : List Addr} {h : Heap} {p : Addr × Obj} (hp : p ∈ pinsAt fp h) : p.1 ∈ fp ∧ h.get? p.1 = some p.2 := by
  obtain ⟨b, hb, e⟩ := List.mem_filterMap.mp hp
  cases q : h.get? b with
  | none => rw [q] at e; cases e
  | some o =>
    rw [q] at e
    have e' : (b, o) = p := Option.some.inj e
    subst e'
    exact ⟨hb, q⟩
theorem Inv.pinned {pins : List (Addr × Obj)} {σ : St} {H : Hp} {s : Shared} {fp : List Addr} (I : Inv X pins σ H s) (hf : ∀ b ∈ fp, FpOk X pins H b) (ho : ∀ b ∈ fp, ∃ o, s.heap.get? b = some o ∧ ∀ v, o.data ≠ .cell v) : Inv X (pins ++ pinsAt fp s.heap) σ H s :=
  I.pins_of fun p hp => (List.mem_append.mp hp).elim (fun z => I.pin p (List.mem_append_right _ z)) fun z => by
    obtain ⟨hb, e⟩ := of_pinsAt z
    obtain ⟨f0, f1, f2, _⟩ := hf p.1 hb
    obtain ⟨o, e', d⟩ := ho p.1 hb
    rw [e] at e'; cases e'
    exact ⟨e, f0, f1, f2, d⟩
theorem Inv.unpinned {pins pl : List (Addr × Obj)} {σ : St} {H : Hp} {s : Shared} (I : Inv X (pins ++ pl) σ H s) : Inv X pins σ H s := I.pins_of fun p hp => I.pin p (List.mem_append_right _ (List.mem_append_left _ hp))
theorem ps_for {iter : Expr} {body : List Stmt} {wi : TI} {g : TG} {tb : TS} {pos : Pos} (hp : PassesOwn (model X.prog X.w) X.A X.env X.xe) (hc : X.calm = true) (hi : PI X tg iter wi) (hg : PG X tg g) (hb : PSs X body tb)
    (hs : ∀ x, foldedSetIterable iter X.env x = pure x := by intro _; rfl) : PS X (.For tg iter body [] pos) (tFor wi g tb) := by
  intro pins s σ H D I h
  refine wpAny_For (thn (hi pins s σ H _ I h) fun v s1 h1 => thn h1 fun itv s2 h2 => ?_) hs
  obtain ⟨it, fp, tn, J, H2, e, I2, T, st2, f2, W, ⟨m0, w0⟩, turn⟩ := h2
  subst e
  -- what stays true of the iterator's objects through the loop
  have stat : ∀ {H' : Hp}, (∀ b ∈ fp, H' b = none) → ∀ b ∈ fp, FpOk X pins H' b := fun hn b hb => ⟨hn b hb, (f2 b hb).2⟩
  refine codeAny_forLoop_any (fun n s' => ∃ i σ' H', Inv X pins σ' H' s' ∧ tn i s'.heap ∧ (∀ b ∈ fp, H' b = none) ∧ W i n σ' H') ?_ m0 ⟨0, σ, H2, I2, st2, fun b hb => (f2 b hb).1, w0⟩
  rintro n s3 ⟨i, σ3, H3, I3, st3, fr3, w3⟩
  rcases turn i n σ3 H3 w3 with ⟨stop, qn⟩ | ⟨go, N, hN, step⟩
  · refine wpAny_passesOwn hp (thn (T.done X rfl rfl rfl hc i pins s3 σ3 H3 X.xe I3 (stat fr3) st3 stop) fun r s4 ⟨hr, I4⟩ => ?_)
    subst hr
    exact wpAny_execs_nil ⟨σ3, H3, I4, qn⟩
  · refine wpAny_passesOwn hp (thn (T.item X rfl rfl rfl hc i pins s3 σ3 H3 X.xe I3 (stat fr3) st3 go) fun r s4 ⟨u, hr, h4⟩ => ?_)
    subst hr
    refine wpAny_passesOwn hp (thn h4 fun _ s5 ⟨x, H5, I5, r5, y5, st5, fr5⟩ => ?_)
    have I5' := I5.pinned (stat fr5) (T.obj _ _ st5)
    refine wpAny_passesOwn hp (thn (hg _ s5 σ3 H5 x u _ I5' r5 (step x H5 y5)) fun _ s6 ⟨σ6, H6, I6, q6⟩ => ?_)
    refine wpAny_passesOwn hp (thn (hb _ s6 σ6 H6 _ I6 q6) fun f s7 q7 => ?_)
    have again : ∀ {σ7 : St} {H7 : Hp}, Inv X (pins ++ pinsAt fp s5.heap) σ7 H7 s7 → N σ7 H7 → ∃ m, m < n ∧ ∃ i σ' H', Inv X pins σ' H' s7 ∧ tn i s7.heap ∧ (∀ b ∈ fp, H' b = none) ∧ W i m σ' H' := fun {σ7 H7} I7 n7 => by
      obtain ⟨m', hm, w7⟩ := hN σ7 H7 n7
      refine ⟨m', hm, i + 1, σ7, H7, I7.unpinned, T.keep _ _ _ st5 fun b hb o e => (I7.pin (b, o) (List.mem_append_right _ (List.mem_append_right _ (mem_pinsAt hb e)))).1, fun b hb => ?_, w7⟩
      obtain ⟨o, e, d⟩ := T.obj _ _ st5 b hb
      exact (I7.pin (b, o) (List.mem_append_right _ (List.mem_append_right _ (mem_pinsAt hb e)))).2.1
    cases f with
    | next => obtain ⟨σ7, H7, I7, n7⟩ := q7; exact again I7 n7
    | cont => obtain ⟨σ7, H7, I7, n7⟩ := q7; exact again I7 n7
    | brk => obtain ⟨σ7, H7, I7, q7⟩ := q7; exact ⟨σ7, H7, I7.unpinned, q7⟩
    | ret v => obtain ⟨x7, σ7, H7, I7, r7, q7⟩ := q7; exact ⟨x7, σ7, H7, I7.unpinned, r7, q7⟩
end

/-! ### the forms one uses -/
/-- over a list that the body leaves as it is -/
theorem for_list {K : PySem.W.Frag} {a : Addr} {xs : List V} {g : TG} {tb : TS} {D : Ends} {σ : St} {H : Hp} (Pv : Nat → St → Hp → Prop) (h0 : Pv 0 σ H) (hl : ∀ i σ H, i ≤ xs.length → Pv i σ H → SqL K H a xs)
    (hs : ∀ i x σ H, xs[i]? = some x → Pv i σ H → g x σ H fun σ2 H2 => tb { D with nx := Pv (i + 1), ct := Pv (i + 1), bk := D.nx } σ2 H2) (hd : ∀ σ H, Pv xs.length σ H → D.nx σ H) :
    ∃ W : Nat → Nat → St → Hp → Prop, (∃ m, W 0 m σ H) ∧ ∀ i m σ H, W i m σ H →
      ((Itl K a).stop i H ∧ D.nx σ H) ∨ ((Itl K a).go i H ∧ ∃ N : St → Hp → Prop, (∀ σ' H', N σ' H' → ∃ m', m' < m ∧ W (i + 1) m' σ' H') ∧ ∀ x H', (Itl K a).yld i H x H' → g x σ H' fun σ2 H2 => tb { D with nx := N, ct := N, bk := D.nx } σ2 H2) := by
  refine ⟨fun i m σ H => m = xs.length - i ∧ i ≤ xs.length ∧ Pv i σ H, ⟨xs.length, by simp, Nat.zero_le _, h0⟩, ?_⟩
  rintro i m σ H ⟨rfl, hi, p⟩
  have q := hl i σ H hi p
  by_cases hlt : i < xs.length
  · refine .inr ⟨⟨xs, xs[i], q, by simp [hlt]⟩, Pv (i + 1), fun σ' H' p' => ⟨xs.length - (i + 1), by omega, rfl, hlt, p'⟩, fun x H' y => ?_⟩
    obtain ⟨e, y⟩ := y
    subst e
    exact hs i x σ _ (y xs q) p
  · have e : i = xs.length := by omega
    subst e
    exact .inl ⟨⟨xs, q, Nat.le_refl _⟩, hd σ H p⟩
theorem for_range {lo : Int} {n : Nat} {g : TG} {tb : TS} {D : Ends} {σ : St} {H : Hp} (Pv : Nat → St → Hp → Prop) (h0 : Pv 0 σ H)
    (hs : ∀ i σ H, i < n → Pv i σ H → g (.int (lo + i)) σ H fun σ2 H2 => tb { D with nx := Pv (i + 1), ct := Pv (i + 1), bk := D.nx } σ2 H2) (hd : ∀ σ H, Pv n σ H → D.nx σ H) :
    ∃ W : Nat → Nat → St → Hp → Prop, (∃ m, W 0 m σ H) ∧ ∀ i m σ H, W i m σ H →
      ((Itr lo n).stop i H ∧ D.nx σ H) ∨ ((Itr lo n).go i H ∧ ∃ N : St → Hp → Prop, (∀ σ' H', N σ' H' → ∃ m', m' < m ∧ W (i + 1) m' σ' H') ∧ ∀ x H', (Itr lo n).yld i H x H' → g x σ H' fun σ2 H2 => tb { D with nx := N, ct := N, bk := D.nx } σ2 H2) := by
  refine ⟨fun i m σ H => m = n - i ∧ i ≤ n ∧ Pv i σ H, ⟨n, by simp, Nat.zero_le _, h0⟩, ?_⟩
  rintro i m σ H ⟨rfl, hi, p⟩
  by_cases hlt : i < n
  · refine .inr ⟨hlt, Pv (i + 1), fun σ' H' p' => ⟨n - (i + 1), by omega, rfl, hlt, p'⟩, fun x H' y => ?_⟩
    obtain ⟨e, y⟩ := y
    subst e y
    exact hs i σ _ hlt p
  · have e : i = n := by omega
    subst e
    exact .inl ⟨Nat.le_refl _, hd σ H p⟩
end L2

namespace L2
open PySem PySem.Spec PyProof.Rows

abbrev R2 := V → V → Hp → VK → Prop
/-- a two-place operation on values: f is binaryOp op, inplaceOp op or compareOp op -/
def OpR (X : Cx) (f : Value → Value → Sem Value) (r : R2) : Prop :=
  ∀ (pins : List (Addr × Obj)) (s : Shared) (σ : St) (H : Hp) (x y : V) (v u : Value) (Q : VK), Inv X pins σ H s → RelV x v → RelV y u → r x y H Q →
    wpAny (model X.prog X.w) X.A (f v u) (EP X pins σ Q) X.xe s
/-- a one-place operation -/
def UnR (X : Cx) (f : Value → Sem Value) (r : V → Hp → VK → Prop) : Prop :=
  ∀ (pins : List (Addr × Obj)) (s : Shared) (σ : St) (H : Hp) (x : V) (v : Value) (Q : VK), Inv X pins σ H s → RelV x v → r x H Q →
    wpAny (model X.prog X.w) X.A (f v) (EP X pins σ Q) X.xe s
/-- a call of a value that is known (a builtin, a type) with values -/
def CallR (X : Cx) (f : Value) (r : List V → Hp → VK → Prop) : Prop :=
  ∀ (pins : List (Addr × Obj)) (s : Shared) (σ : St) (H : Hp) (xs : List V) (us : List Value) (Q : VK), Inv X pins σ H s → Vals xs us → r xs H Q →
    wpAny (model X.prog X.w) X.A (call f us) (EP X pins σ Q) X.xe s
/-- a value's truth -/
def TruR (X : Cx) (r : V → Hp → (Bool → Hp → Prop) → Prop) : Prop :=
  ∀ (pins : List (Addr × Obj)) (s : Shared) (σ : St) (H : Hp) (x : V) (v : Value) (Q : Bool → Hp → Prop), Inv X pins σ H s → RelV x v → r x H Q →
    wpAny (model X.prog X.w) X.A (truthy v) (TP X pins σ Q) X.xe s

def tOp (r : R2) (ta tb : TE) : TE := fun σ H Q => ta σ H fun x H1 => tb σ H1 fun y H2 => r x y H2 Q
def tUn (r : V → Hp → VK → Prop) (ta : TE) : TE := fun σ H Q => ta σ H fun x H1 => r x H1 Q
/-- ints in, under C, and a value out -/
def rI (C : Int → Int → Prop) (g : Int → Int → V) : R2 := fun x y H Q => ∃ i j, x = .int i ∧ y = .int j ∧ C i j ∧ Q (g i j) H
def rI0 (g : Int → Int → V) : R2 := fun x y H Q => ∃ i j, x = .int i ∧ y = .int j ∧ Q (g i j) H
def rU (g : Int → V) : V → Hp → VK → Prop := fun x H Q => ∃ i, x = .int i ∧ Q (g i) H

section
variable {X : Cx} {a b c : Expr} {ta tb tc : TE} {pos : Pos}

theorem binT (ha : PE X a ta) (hb : PE X b tb) {pins : List (Addr × Obj)} {s : Shared} {σ : St} {H : Hp} {R : V → V → Hp → Prop} (I : Inv X pins σ H s)
    (h : ta σ H fun x H1 => tb σ H1 fun y H2 => R x y H2) {Q : Value → Shared → Prop} {f : Value → Value → Sem Value}
    (hf : ∀ v u s2 x y H2, Inv X pins σ H2 s2 → RelV x v → RelV y u → R x y H2 → wpAny (model X.prog X.w) X.A (f v u) Q X.xe s2) :
    wpAny (model X.prog X.w) X.A (eval a X.env) (fun v s₁ => wpAny (model X.prog X.w) X.A (eval b X.env) (fun u s₂ => wpAny (model X.prog X.w) X.A (f v u) Q X.xe s₂) X.xe s₁) X.xe s := by
  refine thn (ha pins s σ H _ I h) fun v s1 ⟨x, H1, I1, r1, q1⟩ => ?_
  refine thn (hb pins s1 σ H1 _ I1 q1) fun u s2 ⟨y, H2, I2, r2, q2⟩ => ?_
  exact hf v u s2 x y H2 I2 r1 r2 q2

theorem pe_op {op : Operator} {r : R2} (ho : OpR X (binaryOp op) r) (ha : PE X a ta) (hb : PE X b tb) : PE X (.BinOp a op b pos) (tOp r ta tb) := by
  intro pins s σ H Q I h
  exact wpAny_BinOp (binT ha hb I h fun v u s2 x y H2 I2 rx ry q => ho pins s2 σ H2 x y v u Q I2 rx ry q)
theorem pe_un {op : UnaryOp} {r : V → Hp → VK → Prop} (ho : UnR X (unaryOp op) r) (ha : PE X a ta) : PE X (.UnaryOp op a pos) (tUn r ta) := by
  intro pins s σ H Q I h
  exact UnaryOp_ (thn (ha pins s σ H _ I h) fun v s1 ⟨x, H1, I1, r1, q1⟩ => ho pins s1 σ H1 x v Q I1 r1 q1)

/-! ### ints -/
theorem opI {f : Value → Value → Sem Value} {C : Int → Int → Prop} {g : Int → Int → Int}
    (rule : ∀ (i j : Int) (t u : Tok) (s : Shared) (Q : Value → Shared → Prop) (E : Value → Shared → Prop), C i j → Q (.int (g i j) s.toks) { s with toks := s.toks + 1 } → wpAny (model X.prog X.w) X.A (f (.int i t) (.int j u)) Q E s) :
    OpR X f (rI C fun i j => .int (g i j)) := by
  intro pins s σ H x y v u Q I rx ry h
  obtain ⟨i, j, rfl, rfl, hc, q⟩ := h
  obtain ⟨t, rfl⟩ := rx
  obtain ⟨t', rfl⟩ := ry
  exact rule i j t t' s _ _ hc ⟨.int (g i j), H, I.tok _, ⟨_, rfl⟩, q⟩
theorem opI0 {f : Value → Value → Sem Value} {g : Int → Int → Int}
    (rule : ∀ (i j : Int) (t u : Tok) (s : Shared) (Q : Value → Shared → Prop) (E : Value → Shared → Prop), Q (.int (g i j) s.toks) { s with toks := s.toks + 1 } → wpAny (model X.prog X.w) X.A (f (.int i t) (.int j u)) Q E s) :
    OpR X f (rI0 fun i j => .int (g i j)) := by
  intro pins s σ H x y v u Q I rx ry h
  obtain ⟨i, j, rfl, rfl, q⟩ := h
  obtain ⟨t, rfl⟩ := rx
  obtain ⟨t', rfl⟩ := ry
  exact rule i j t t' s _ _ ⟨.int (g i j), H, I.tok _, ⟨_, rfl⟩, q⟩
theorem opB0 {f : Value → Value → Sem Value} {g : Int → Int → Bool}
    (rule : ∀ (i j : Int) (t u : Tok) (s : Shared) (Q : Value → Shared → Prop) (E : Value → Shared → Prop), Q (.bool (g i j)) s → wpAny (model X.prog X.w) X.A (f (.int i t) (.int j u)) Q E s) :
    OpR X f (rI0 fun i j => .bl (g i j)) := by
  intro pins s σ H x y v u Q I rx ry h
  obtain ⟨i, j, rfl, rfl, q⟩ := h
  obtain ⟨t, rfl⟩ := rx
  obtain ⟨t', rfl⟩ := ry
  exact rule i j t t' s _ _ ⟨.bl (g i j), H, I, rfl, q⟩

def CDiv (i j : Int) : Prop := 0 < j ∧ j < 1073741824
def CPow (i j : Int) : Prop := 0 ≤ j ∧ j ≤ 1000000 ∧ i.natAbs < 2 ^ 64
def CMul (i j : Int) : Prop := (-(2 ^ 64) < i ∧ i < 2 ^ 64) ∨ (-(2 ^ 64) < j ∧ j < 2 ^ 64)
theorem CMul.ok {i j : Int} (h : CMul i j) : IntMulOk i j := by
  rcases h with ⟨h1, h2⟩ | ⟨h1, h2⟩
  · exact .of_left (intBits_le_64 h1 h2)
  · exact .of_right (intBits_le_64 h1 h2)
theorem two_pow_nn (k : Nat) : (0 : Int) ≤ 2 ^ k := by
  rw [two_pow_cast]
  exact Int.natCast_nonneg _

theorem op_add : OpR X (binaryOp .Add) (rI0 fun i j => .int (i + j)) := opI0 fun _ _ _ _ _ _ _ q => add_int q
theorem op_sub : OpR X (binaryOp .Sub) (rI0 fun i j => .int (i - j)) := opI0 fun _ _ _ _ _ _ _ q => sub_int q
theorem op_mul : OpR X (binaryOp .Mult) (rI CMul fun i j => .int (i * j)) := opI fun _ _ _ _ _ _ _ hc q => mul_int q hc.ok
/-- // by a positive divisor -/
theorem op_fdiv : OpR X (binaryOp .FloorDiv) (rI CDiv fun i j => .int (i / j)) := opI fun i j _ _ _ _ _ hc q => by
  have h1 : (0 : Int) < j := hc.1
  have h2 : j < 1073741824 := hc.2
  exact floordiv_int (by omega) (by rw [Int.fdiv_eq_ediv_of_nonneg i (by omega)]; exact q) (.inl (PyProof.noPylong_small (by omega)))
/-- % by a positive divisor of any size -/
theorem op_mod : OpR X (binaryOp .Mod) (rI (fun _ j => 0 < j) fun i j => .int (i % j)) := opI fun i j _ _ _ _ _ hc q => by
  have h1 : (0 : Int) < j := hc
  exact mod_int' (by omega) (by rw [Int.fmod_eq_emod_of_nonneg i (by omega)]; exact q)
theorem op_shl : OpR X (binaryOp .LShift) (rI CPow fun i j => .int (i * 2 ^ j.toNat)) := opI fun _ _ _ _ _ _ _ hc q => lshift_int_small hc.1 hc.2.1 hc.2.2 q
theorem op_shr : OpR X (binaryOp .RShift) (rI (fun _ j => 0 ≤ j) fun i j => .int (i / 2 ^ j.toNat)) := opI fun i j _ _ _ _ _ hc q =>
  rshift_int hc (by rw [Int.fdiv_eq_ediv_of_nonneg i (two_pow_nn _)]; exact q)
theorem op_and : OpR X (binaryOp .BitAnd) (rI0 fun i j => .int (Builtin.bitAnd i j)) := opI0 fun _ _ _ _ _ _ _ q => and_int q
theorem op_or : OpR X (binaryOp .BitOr) (rI0 fun i j => .int (Builtin.bitOr i j)) := opI0 fun _ _ _ _ _ _ _ q => or_int q


theorem unI {f : Value → Sem Value} {g : Int → Int}
    (rule : ∀ (i : Int) (t : Tok) (s : Shared) (Q : Value → Shared → Prop) (E : Value → Shared → Prop), Q (.int (g i) s.toks) { s with toks := s.toks + 1 } → wpAny (model X.prog X.w) X.A (f (.int i t)) Q E s) :
    UnR X f (rU fun i => .int (g i)) := by
  intro pins s σ H x v Q I rx h
  obtain ⟨i, rfl, q⟩ := h
  obtain ⟨t, rfl⟩ := rx
  exact rule i t s _ _ ⟨.int (g i), H, I.tok _, ⟨_, rfl⟩, q⟩
theorem un_neg : UnR X (unaryOp .USub) (rU fun i => .int (-i)) := unI fun _ _ _ _ _ q => neg_int q
theorem un_inv : UnR X (unaryOp .Invert) (rU fun i => .int (Builtin.bitNot i)) := unI fun _ _ _ _ _ q => invert_int q

/-! ### bools among ints: n += (a < b) -/
end

/-! ### comparisons -/
/-- the scalars that == tells apart as data does -/
def scal : V → V → Bool
  | .non, .non => true | .non, .int _ => true | .int _, .non => true | .non, .bl _ => true | .bl _, .non => true | .non, .str _ => true | .str _, .non => true
  | .int _, .int _ => true | .bl _, .bl _ => true | .str _, .str _ => true | .byt _, .byt _ => true
  | .int _, .str _ => true | .str _, .int _ => true | .bl _, .str _ => true | .str _, .bl _ => true
  | _, _ => false
def rEq : R2 := fun x y H Q => scal x y = true ∧ Q (.bl (decide (x = y))) H
def rNe : R2 := fun x y H Q => scal x y = true ∧ Q (.bl (!decide (x = y))) H

theorem dec_int {i j : Int} : decide (V.int i = V.int j) = (i == j) := by
  rw [Bool.eq_iff_iff]
  simp
theorem dec_bl {i j : Bool} : decide (V.bl i = V.bl j) = (i == j) := by
  rw [Bool.eq_iff_iff]
  simp
theorem dec_str {i j : Str} : decide (V.str i = V.str j) = (i == j) := by
  rw [Bool.eq_iff_iff]
  simp
theorem dec_byt {i j : Array UInt8} : decide (V.byt i = V.byt j) = (i.toList == j.toList) := by
  rw [Bool.eq_iff_iff]
  cases i
  cases j
  simp

section
variable {X : Cx} {a b c : Expr} {ta tb tc : TE} {pos : Pos}
theorem fin_bl {pins : List (Addr × Obj)} {σ : St} {H : Hp} {s : Shared} {Q : VK} {k k' : Bool} (I : Inv X pins σ H s) (q : Q (.bl k) H) (e : k = k') : EP X pins σ Q (.bool k') s := by
  subst e
  exact ⟨.bl k, H, I, rfl, q⟩
theorem op_eq : OpR X (compareOp .Eq) rEq := by
  intro pins s σ H x y v u Q I rx ry h
  obtain ⟨hs, q⟩ := h
  cases x with
  | non =>
    cases rx
    cases y with
    | non => cases ry; exact PySem.EqNone.eq_none_none (fin_bl I q (by simp))
    | bl j => cases ry; exact PySem.EqNone.eq_none_bool (fin_bl I q (by simp))
    | int j => obtain ⟨t', rfl⟩ := ry; exact PySem.EqNone.eq_none_int (fin_bl I q (by simp))
    | str j => obtain ⟨t', rfl⟩ := ry; exact PySem.EqNone.eq_none_str (fin_bl I q (by simp))
    | _ => exact absurd (show false = true from hs) Bool.false_ne_true
  | bl i =>
    cases rx
    cases y with
    | non => cases ry; exact PySem.EqNone.eq_bool_none (fin_bl I q (by simp))
    | bl j => cases ry; exact eq_bool (fin_bl I q dec_bl)
    | str j => obtain ⟨t', rfl⟩ := ry; exact PySem.EqMixed.eq_bool_str (fin_bl I q (by simp))
    | _ => exact absurd (show false = true from hs) Bool.false_ne_true
  | int i =>
    obtain ⟨t, rfl⟩ := rx
    cases y with
    | non => cases ry; exact PySem.EqNone.eq_int_none (fin_bl I q (by simp))
    | int j => obtain ⟨t', rfl⟩ := ry; exact eq_int (fin_bl I q dec_int)
    | str j => obtain ⟨t', rfl⟩ := ry; exact PySem.EqMixed.eq_int_str (fin_bl I q (by simp))
    | _ => exact absurd (show false = true from hs) Bool.false_ne_true
  | str i =>
    obtain ⟨t, rfl⟩ := rx
    cases y with
    | non => cases ry; exact PySem.EqNone.eq_str_none (fin_bl I q (by simp))
    | bl j => cases ry; exact PySem.EqMixed.eq_str_bool (fin_bl I q (by simp))
    | int j => obtain ⟨t', rfl⟩ := ry; exact PySem.EqMixed.eq_str_int (fin_bl I q (by simp))
    | str j => obtain ⟨t', rfl⟩ := ry; exact eq_str (fin_bl I q dec_str)
    | _ => exact absurd (show false = true from hs) Bool.false_ne_true
  | byt i =>
    obtain ⟨t, rfl⟩ := rx
    cases y with
    | byt j => obtain ⟨t', rfl⟩ := ry; exact PySem.W.eq_bytes (fin_bl I q dec_byt)
    | _ => exact absurd (show false = true from hs) Bool.false_ne_true
  | _ => cases y <;> exact absurd (show false = true from hs) Bool.false_ne_true
theorem op_ne : OpR X (compareOp .NotEq) rNe := by
  intro pins s σ H x y v u Q I rx ry h
  obtain ⟨hs, q⟩ := h
  cases x with
  | non =>
    cases rx
    cases y with
    | non => cases ry; exact PySem.EqNone.ne_none_none (fin_bl I q (by simp))
    | bl j => cases ry; exact PySem.EqNone.ne_none_bool (fin_bl I q (by simp))
    | int j => obtain ⟨t', rfl⟩ := ry; exact PySem.EqNone.ne_none_int (fin_bl I q (by simp))
    | str j => obtain ⟨t', rfl⟩ := ry; exact PySem.EqNone.ne_none_str (fin_bl I q (by simp))
    | _ => exact absurd (show false = true from hs) Bool.false_ne_true
  | bl i =>
    cases rx
    cases y with
    | non => cases ry; exact PySem.EqNone.ne_bool_none (fin_bl I q (by simp))
    | bl j => cases ry; exact ne_bool (fin_bl I q (congrArg not dec_bl))
    | str j => obtain ⟨t', rfl⟩ := ry; exact PySem.EqMixed.ne_bool_str (fin_bl I q (by simp))
    | _ => exact absurd (show false = true from hs) Bool.false_ne_true
  | int i =>
    obtain ⟨t, rfl⟩ := rx
    cases y with
    | non => cases ry; exact PySem.EqNone.ne_int_none (fin_bl I q (by simp))
    | int j => obtain ⟨t', rfl⟩ := ry; exact ne_int (fin_bl I q (congrArg not dec_int))
    | str j => obtain ⟨t', rfl⟩ := ry; exact PySem.EqMixed.ne_int_str (fin_bl I q (by simp))
    | _ => exact absurd (show false = true from hs) Bool.false_ne_true
  | str i =>
    obtain ⟨t, rfl⟩ := rx
    cases y with
    | non => cases ry; exact PySem.EqNone.ne_str_none (fin_bl I q (by simp))
    | bl j => cases ry; exact PySem.EqMixed.ne_str_bool (fin_bl I q (by simp))
    | int j => obtain ⟨t', rfl⟩ := ry; exact PySem.EqMixed.ne_str_int (fin_bl I q (by simp))
    | str j => obtain ⟨t', rfl⟩ := ry; exact ne_str (fin_bl I q (congrArg not dec_str))
    | _ => exact absurd (show false = true from hs) Bool.false_ne_true
  | byt i =>
    obtain ⟨t, rfl⟩ := rx
    cases y with
    | byt j => obtain ⟨t', rfl⟩ := ry; exact PySem.W.ne_bytes (fin_bl I q (congrArg not dec_byt))
    | _ => exact absurd (show false = true from hs) Bool.false_ne_true
  | _ => cases y <;> exact absurd (show false = true from hs) Bool.false_ne_true

theorem op_lt : OpR X (compareOp .Lt) (rI0 fun i j => .bl (decide (i < j))) := opB0 fun _ _ _ _ _ _ _ q => lt_int q
theorem op_le : OpR X (compareOp .LtE) (rI0 fun i j => .bl (decide (i ≤ j))) := opB0 fun _ _ _ _ _ _ _ q => le_int q
theorem op_gt : OpR X (compareOp .Gt) (rI0 fun i j => .bl (decide (j < i))) := opB0 fun _ _ _ _ _ _ _ q => gt_int q
theorem op_ge : OpR X (compareOp .GtE) (rI0 fun i j => .bl (decide (j ≤ i))) := opB0 fun _ _ _ _ _ _ _ q => ge_int q



/-- two rules for one operation: by cases -/
theorem OpR.or {f : Value → Value → Sem Value} {r r' : R2} (h : OpR X f r) (h' : OpR X f r') : OpR X f (fun x y H Q => r x y H Q ∨ r' x y H Q) := by
  intro pins s σ H x y v u Q I rx ry q
  rcases q with q | q
  · exact h pins s σ H x y v u Q I rx ry q
  · exact h' pins s σ H x y v u Q I rx ry q

theorem nomark (b : Expr) {op : CmpOp} (h : op ≠ .In := by decide) (h2 : op ≠ .NotIn := by decide) : behindInMarks op b = false := by
  have e1 : (op == CmpOp.In) = false := by cases op <;> first | rfl | exact absurd rfl h
  have e2 : (op == CmpOp.NotIn) = false := by cases op <;> first | rfl | exact absurd rfl h2
  cases b <;> simp [behindInMarks, e1, e2]
/-- a comparison as a value; hm: nomark b, or (for in, not in) by with_unfolding_all rfl -/
theorem pe_cmpR {op : CmpOp} {r : R2} (ho : OpR X (compareOp op) r) (ha : PE X a ta) (hb : PE X b tb) (hm : behindInMarks op b = false) : PE X (.Compare a [op] [b] pos) (tOp r ta tb) := by
  intro pins s σ H Q I h
  exact wpAny_Compare1 (binT ha hb I h fun v u s2 x y H2 I2 rx ry q => ho pins s2 σ H2 x y v u Q I2 rx ry q) hm
/-- a reading of a value as a test -/
def tTest (t : TE) : TT := fun σ H Q => t σ H fun x H' => ∃ k, x = .bl k ∧ Q k H'
theorem pt_cmpR {op : CmpOp} {r : R2} (ho : OpR X (compareOp op) r) (ha : PE X a ta) (hb : PE X b tb) (hm : behindInMarks op b = false) : PT X (.Compare a [op] [b] pos) (tTest (tOp r ta tb)) := by
  intro pins s σ H Q I h
  refine wpAny_isTrue_Compare1 (thn (ha pins s σ H _ I h) fun v s1 ⟨x, H1, I1, r1, q1⟩ => thn (hb pins s1 σ H1 _ I1 q1) fun u s2 ⟨y, H2, I2, r2, q2⟩ =>
    thn (ho pins s2 σ H2 x y v u _ I2 r1 r2 q2) fun c s3 ⟨z, H3, I3, r3, k, e, q3⟩ => ?_) hm
  subst e
  cases r3
  exact wpAny_truthy_bool ⟨H3, I3, q3⟩
/-- a op1 b op2 c -/
def tChain (r r' : R2) (ta tb tc : TE) : TE := fun σ H Q => ta σ H fun x H1 => tb σ H1 fun y H2 => r x y H2 fun z H3 => ∃ k, z = .bl k ∧
  (if k = true then tc σ H3 fun w' H4 => r' y w' H4 Q else Q (.bl false) H3)
theorem pe_chain {op op' : CmpOp} {r r' : R2} (ho : OpR X (compareOp op) r) (ho' : OpR X (compareOp op') r') (ha : PE X a ta) (hb : PE X b tb) (hc : PE X c tc)
    (hm : lastMarks [op, op'] [b, c] = false := by with_unfolding_all rfl) : PE X (.Compare a [op, op'] [b, c] pos) (tChain r r' ta tb tc) := by
  intro pins s σ H Q I h
  refine Compare_chain (thn (ha pins s σ H _ I h) fun v s1 ⟨x, H1, I1, r1, q1⟩ => chain_link (thn (hb pins s1 σ H1 _ I1 q1) fun u s2 ⟨y, H2, I2, r2, q2⟩ =>
    thn (ho pins s2 σ H2 x y v u _ I2 r1 r2 q2) fun d s3 ⟨z, H3, I3, r3, k, e, q3⟩ => ?_)) hm
  subst e
  cases r3
  refine wpAny_truthy_bool ?_
  cases k with
  | false => exact ite_ff ⟨.bl false, H3, I3, rfl, q3⟩
  | true => exact ite_tt (chain_last (thn (hc pins s3 σ H3 _ I3 q3) fun w' s4 ⟨z', H4, I4, r4, q4⟩ => ho' pins s4 σ H4 y z' u w' Q I4 r2 r4 q4))

/-! ### truth -/
/-- a value's truth by the abstract heap -/
def TruV (K : PySem.W.Frag) (x : V) (H : Hp) (k : Bool) : Prop :=
  match x with
  | .non => k = false
  | .bl b => k = b
  | .int i => k = (i != 0)
  | .str y => y.length ≤ sizeLine ∧ k = ((y.length : Int) != 0)
  | .byt y => y.size ≤ sizeLine ∧ k = ((y.size : Int) != 0)
  | .ref p => (∃ xs, SqL K H p xs ∧ k = !xs.isEmpty) ∨ (∃ xs, SqT K H p xs ∧ k = !xs.isEmpty) ∨ ∃ kvs, H p = some (.dK kvs) ∧ k = !kvs.isEmpty
  | _ => False
theorem isEmpty_kv {κ : Type} {kvs : List (κ × V)} {vs : List (κ × Value)} (r : KV kvs vs) : (!vs.isEmpty) = !kvs.isEmpty := by
  cases r <;> rfl
theorem isEmpty_of {xs : List V} {its : List Value} (r : Vals xs its) : (!its.toArray.isEmpty) = !xs.isEmpty := by
  cases r <;> simp
theorem line63 : (sizeLine : Nat) < 2 ^ 63 := by rw [sizeLine_eq]; decide
theorem tru_ok : TruR X (fun x H Q => ∃ k, TruV X.K x H k ∧ Q k H) := by
  intro pins s σ H x v Q I rx h
  obtain ⟨k, e, q⟩ := h
  have hl := line63
  have hs : sizeLine = 16777216 := sizeLine_eq
  cases x with
  | non =>
    cases rx
    have e' : k = false := e
    subst e'
    exact truthy_none ⟨H, I, q⟩
  | bl b =>
    cases rx
    have e' : k = b := e
    subst e'
    exact wpAny_truthy_bool ⟨H, I, q⟩
  | int i =>
    obtain ⟨t, rfl⟩ := rx
    have e' : k = (i != 0) := e
    subst e'
    exact PySem.P.truthy_int ⟨H, I, q⟩
  | str y =>
    obtain ⟨t, rfl⟩ := rx
    obtain ⟨hy, e'⟩ : y.length ≤ sizeLine ∧ k = ((y.length : Int) != 0) := e
    subst e'
    exact PySem.P.truthy_str (by omega) ⟨H, I.tok _, q⟩
  | byt y =>
    obtain ⟨t, rfl⟩ := rx
    obtain ⟨hy, e'⟩ : y.size ≤ sizeLine ∧ k = ((y.size : Int) != 0) := e
    subst e'
    exact PySem.W.truthy_bytes (by omega) ⟨H, I.tok _, q⟩
  | ref p =>
    cases rx
    have e' : (∃ xs, SqL X.K H p xs ∧ k = !xs.isEmpty) ∨ (∃ xs, SqT X.K H p xs ∧ k = !xs.isEmpty) ∨ ∃ kvs, H p = some (.dK kvs) ∧ k = !kvs.isEmpty := e
    rcases e' with ⟨xs, hx, e'⟩ | ⟨xs, hx, e'⟩ | ⟨kvs, hx, e'⟩
    · subst e'
      obtain ⟨its, r, pl, hz⟩ := I.list hx
      have hlen := r.length
      exact wpAny_truthy_list pl.isList (by simp only [List.size_toArray]; omega) ⟨H, I.tok _, by rw [isEmpty_of r]; exact q⟩
    · subst e'
      obtain ⟨its, r, pl, hz⟩ := I.tuple hx
      have hlen := r.length
      exact truthy_tuple pl (by simp only [List.size_toArray]; omega) ⟨H, I.tok _, by rw [isEmpty_of r]; exact q⟩
    · subst e'
      obtain ⟨hz, hS, vs, r, m⟩ : kvs.length ≤ sizeLine ∧ (p == sysModules) = false ∧ ∃ vs, KV kvs vs ∧ s.heap.DictOf (mixKind X.prog X.w) p vs := I.hok p _ hx
      have hlen : kvs.length = vs.length := Paired.length r
      exact wpAny_truthy_dict hS m (by omega) ⟨H, I.tok _, by rw [isEmpty_kv r]; exact q⟩
  | _ => exact (show False from e).elim
/-- any expression whose test is its value's truth (a name, a call, a subscript, a field ..: he by fun _ => rfl) -/
theorem pt_truth (ha : PE X a ta) (he : ∀ whole, isTrue a X.env whole = (do let v ← whole; standAt a.pos; holding [v] (truthy v))) :
    PT X a (fun σ H Q => ta σ H fun x H' => ∃ k, TruV X.K x H' k ∧ Q k H') := by
  intro pins s σ H Q I h
  exact isTrue_plain (thn (ha pins s σ H _ I h) fun v s1 ⟨x, H1, I1, r1, q1⟩ => tru_ok pins s1 σ H1 x v Q I1 r1 q1) (he _)

/-! ### strs and bytes -/


/-! ### scalar builtins, by CallR -/
theorem vals1 {x : V} {us : List Value} (r : Vals [x] us) : ∃ u, us = [u] ∧ RelV x u := by
  cases r with
  | cons r1 r2 => cases r2; exact ⟨_, rfl, r1⟩
theorem vals2 {x y : V} {us : List Value} (r : Vals [x, y] us) : ∃ u w', us = [u, w'] ∧ RelV x u ∧ RelV y w' := by
  cases r with
  | cons r1 r2 =>
    cases r2 with
    | cons r3 r4 => cases r4; exact ⟨_, _, rfl, r1, r3⟩
theorem call_min2 (hc : X.calm = true) : CallR X (.builtin "min") (fun xs H Q => ∃ i j, xs = [.int i, .int j] ∧ Q (.int (if j < i then j else i)) H) := by
  intro pins s σ H xs us Q I r h
  obtain ⟨i, j, rfl, q⟩ := h
  obtain ⟨u, w', rfl, ⟨t, rfl⟩, ⟨t', rfl⟩⟩ := vals2 r
  refine min_two_ints (I.ok.hd hc) fun h' tk k => ⟨_, H, I.kept k, ?_, q⟩
  by_cases hj : j < i
  · rw [if_pos hj, if_pos hj]; exact ⟨_, rfl⟩
  · rw [if_neg hj, if_neg hj]; exact ⟨_, rfl⟩
end
end L2

namespace L2
open PySem PySem.Spec PyProof.Rows

/-! ### an instance, its attributes a map -/
structure ObjM (h : Heap) (x dx C : Addr) (mA : Str → Option Value) : Prop where
  obj : h.get? x = some (PySem.W.instObj C dx)
  ns : h.Ns1 dx mA
  ne : dx ≠ x

theorem lookIn_ns {h : Heap} {dx : Addr} {mA : Str → Option Value} (n : h.Ns1 dx mA) : ∃ od, h.get? dx = some od ∧ ∀ name, PySem.W.lookIn name od = some (mA name) := by
  obtain ⟨o, es, ep, ho, hd, hk, _, hm⟩ := n
  refine ⟨o, ho, fun name => ?_⟩
  have e := hm name
  unfold nsFind findBy at e
  rw [← Array.find?_toList] at e
  unfold PySem.W.lookIn
  rw [hd]
  dsimp only
  split
  · rename_i y q
    rw [q] at e
    exact congrArg some e
  · rename_i q
    rw [q] at e
    have a : es.toList.any (·.refKey) = false := by
      rw [List.any_eq_false]
      intro y hy
      obtain ⟨z, t, hkey⟩ := hk y (Array.mem_toList_iff.mp hy)
      simp [DictEntry.refKey, hkey]
    have a' : ¬ es.toList.any (·.refKey) = true := by rw [a]; exact Bool.false_ne_true
    rw [if_neg a']
    exact congrArg some e

theorem ObjM.look {h : Heap} {x dx C : Addr} {mA : Str → Option Value} (I : ObjM h x dx C mA) : ∃ od, PySem.W.InstAt h x (PySem.W.instObj C dx) C (some od) ∧ ∀ name, PySem.W.lookIn name od = some (mA name) :=
  let ⟨od, ho, hl⟩ := lookIn_ns I.ns
  ⟨od, ⟨I.obj, rfl, rfl, ho⟩, hl⟩

section
variable {prog : Program} {w : World} {A : Around} {E : Value → Shared → Prop} {s : Shared} {K : PySem.W.Frag} {x dx C f : Addr} {mA : Str → Option Value} {name : Str} {v : Value}

theorem get_map {expr : Bool} {Q : Value → Shared → Prop} (X : K.In s.heap) (I : ObjM s.heap x dx C mA) (hg : PySem.W.plainGet K C name = true) (hh : PySem.W.hasDictIn K C = true)
    (ha : PySem.W.findIn K (.ref C) name = some none) (hv : mA name = some v) (hv' : PySem.W.handedIn v = true) (h : Q v { s with toks := s.toks + 1 }) :
    wpAny (model prog w) A (getAttr (.ref x) name expr) Q E s := by
  obtain ⟨od, J, hl⟩ := I.look
  exact PySem.W.get_value X J (PySem.W.plainGet_of hg).1 (PySem.W.findObj_own hh ha rfl (by rw [hl, hv])) hv' h


theorem get_meth {pl : Sem Bool} {Q : Value × List Value → Shared → Prop} (X : K.In s.heap) (I : ObjM s.heap x dx C mA) (hg : PySem.W.plainGet K C name = true)
    (hf : PySem.W.findIn K (.ref C) name = some (some (.ref f))) (ht : PySem.W.isFn K (.ref f) = true) (hv : mA name = none) (h : Q (.ref f, [.ref x]) s) :
    wpAny (model prog w) A (getMethod (.ref x) name pl) Q E s := by
  obtain ⟨od, J, hl⟩ := I.look
  exact PySem.W.method_fn X J (PySem.W.plainGet_of hg).1 (PySem.W.plainGet_of hg).2 hf (beq_iff_eq.mp ht) (by show (PySem.W.lookIn name od).map (·.isSome) = some false; rw [hl, hv]; rfl) h

theorem set_map {ns : List Str} {Q : Unit → Shared → Prop} (X : K.In s.heap) (I : ObjM s.heap x dx C mA)
    (hs : PySem.W.findIn K (.ref C) "__setattr__" = some (some (.builtin "object.__setattr__"))) (hp : PySem.W.plainOver K C = true) (ht : PySem.W.takerIn K C name = some none) (hh : PySem.W.hasDictIn K C = true)
    (hw : PySem.Within mA ns) (hsz : ns.length ≤ sizeLine)
    (h : ∀ h', ObjM h' x dx C (fun y => if y = name then some v else mA y) → Heap.SameBut dx s.heap h' → Q () { s with heap := h', toks := s.toks + 2 }) :
    wpAny (model prog w) A (setAttr (.ref x) name v) Q E s := by
  obtain ⟨od, J, hl⟩ := I.look
  refine PySem.W.set_plain X J hs (PySem.W.osa_open (s := { s with toks := s.toks + 1 }) (r := none) X J hp ht fun b => ?_)
  obtain ⟨cd, hc, hd'⟩ := PySem.W.any_some hh
  have hx : s.heap.get? x = some ⟨.ref C, some dx, .plain, #[]⟩ := I.obj
  refine wpAny_bind (wpAny_pure (wpAny_bind (wpAny_bind (wpAny_loadPart hx (wpAny_bind (PySem.W.Looks.here (s := { s with toks := s.toks + 1 }) (PySem.W.looks_clsIn X hc) ?_))))))
  rw [hd']
  refine wpAny_pure (a := some dx) (wpAny_bind (wpAny_pure (wpAny_bind ?_)))
  refine wpAny_nsSet1 (s := { s with toks := s.toks + 1 }) I.ns fun h' hn2 hs2 => ?_
  obtain ⟨oD, esD, epD, hoD, hdD, hcD⟩ := hn2.count (PySem.Within.cons name v hw)
  refine wpAny_bind (wpAny_lookBehind hoD (by rw [hdD]; exact pastItsLine_dict (Nat.le_trans hcD (by rw [List.length_cons]; omega))) ?_)
  exact wpAny_pure (h _ ⟨(hs2.2 _ (Ne.symm I.ne)).trans I.obj, hn2, I.ne⟩ hs2)

/-- C(..): the dict at the heap's end, the instance behind it; then its __init__ -/
theorem make_map {R : Result → Shared → Prop} {vs : List Value} {kw : List (Str × Value)} (X : K.In s.heap) (hm : PySem.W.makesIn K C = true)
    (hi : PySem.W.findIn K (.ref C) "__init__" = some (some (.ref f))) (hf : PySem.W.typeIn K (.ref f) = some (.type "function"))
    (h : codeAny (model prog w) (A.under (.builtin "type.__call__" ⟨.ref C :: vs, kw⟩)) (.call (.ref f) ⟨.ref (s.heap.objs.size + 1) :: vs, kw⟩) (PySem.W.InitBack (s.heap.objs.size + 1) R)
      { s with heap := (s.heap.push PySem.W.emptyDict).push (PySem.W.instObj C s.heap.objs.size) }) :
    codeAny (model prog w) A (.call (.ref C) ⟨vs, kw⟩) R s := by
  obtain ⟨hh, g, d, t, os⟩ := s
  exact PySem.W.make_core (PySem.W.makes_of X hm) (PySem.W.looks_findIn X hi) (fun self => PySem.W.bind_fn X self hf) (.inl rfl) h
end

/-! ### the attributes as a list of pairs -/
def putF (f : Str) (v : V) : List (Str × V) → List (Str × V)
  | [] => [(f, v)]
  | (g, x) :: r => if g = f then (g, v) :: r else (g, x) :: putF f v r
theorem lookup_putF (f g : Str) (v : V) : ∀ fs : List (Str × V), (putF f v fs).lookup g = if g = f then some v else fs.lookup g
  | [] => by
    show List.lookup g [(f, v)] = _
    by_cases h : g = f
    · have hb : (g == f) = true := beq_iff_eq.mpr h
      simp only [List.lookup, hb, if_pos h]
    · have hb : (g == f) = false := beq_eq_false_iff_ne.mpr h
      simp only [List.lookup, hb, if_neg h]
  | (k, x) :: r => by
    have ih := lookup_putF f g v r
    rw [show putF f v ((k, x) :: r) = (if k = f then (k, v) :: r else (k, x) :: putF f v r) from rfl]
    by_cases hk : k = f
    · rw [if_pos hk]
      by_cases h : g = k
      · have hb : (g == k) = true := beq_iff_eq.mpr h
        simp only [List.lookup, hb, if_pos (h.trans hk)]
      · have hb : (g == k) = false := beq_eq_false_iff_ne.mpr h
        simp only [List.lookup, hb, if_neg (fun e : g = f => h (e.trans hk.symm))]
    · rw [if_neg hk]
      by_cases h : g = k
      · have hb : (g == k) = true := beq_iff_eq.mpr h
        simp only [List.lookup, hb, if_neg (fun e : g = f => hk (h.symm.trans e))]
      · have hb : (g == k) = false := beq_eq_false_iff_ne.mpr h
        simp only [List.lookup, hb]
        exact ih
theorem keys_putF (f : Str) (v : V) : ∀ fs : List (Str × V), f ∈ (putF f v fs).map (·.1) ∧ ∀ g, g ∈ fs.map (·.1) → g ∈ (putF f v fs).map (·.1)
  | [] => ⟨by simp [putF], fun g h => by simp at h⟩
  | (k, x) :: r => by
    obtain ⟨i1, i2⟩ := keys_putF f v r
    rw [show putF f v ((k, x) :: r) = (if k = f then (k, v) :: r else (k, x) :: putF f v r) from rfl]
    by_cases hk : k = f
    · rw [if_pos hk]
      subst hk
      exact ⟨by simp, fun g h => by simpa using h⟩
    · rw [if_neg hk]
      refine ⟨?_, fun g h => ?_⟩
      · rw [List.map_cons]
        exact List.mem_cons_of_mem _ i1
      · rw [List.map_cons] at h ⊢
        rcases List.mem_cons.mp h with e | e
        · exact List.mem_cons.mpr (.inl e)
        · exact List.mem_cons_of_mem _ (i2 g e)
theorem length_putF (f : Str) (v : V) : ∀ fs : List (Str × V), (putF f v fs).length ≤ fs.length + 1
  | [] => by simp [putF]
  | (k, x) :: r => by
    have ih := length_putF f v r
    rw [show putF f v ((k, x) :: r) = (if k = f then (k, v) :: r else (k, x) :: putF f v r) from rfl]
    by_cases hk : k = f
    · rw [if_pos hk, List.length_cons, List.length_cons]; omega
    · rw [if_neg hk, List.length_cons, List.length_cons]; omega

theorem RelO.some_of {v : V} {o : Option Value} (r : RelO (some v) o) : ∃ u, o = some u ∧ RelV v u := by
  cases o with
  | none => exact (show False from r).elim
  | some u => exact ⟨u, rfl, r⟩
theorem RelO.none_of {o : Option Value} (r : RelO none o) : o = none := by
  cases o with
  | none => rfl
  | some u => exact (show False from r).elim
theorem handed_of {v : V} {u : Value} (r : RelV v u) : PySem.W.handedIn u = true := by
  cases v with
  | non => cases (show u = Value.none from r); rfl
  | bl b => cases (show u = Value.bool b from r); rfl
  | int i => obtain ⟨t, e⟩ := (show ∃ t, u = Value.int i t from r); cases e; rfl
  | str x => obtain ⟨t, e⟩ := (show ∃ t, u = Value.str x t from r); cases e; rfl
  | byt b => obtain ⟨t, e⟩ := (show ∃ t, u = Value.bytes b t from r); cases e; rfl
  | flt b => obtain ⟨t, e⟩ := (show ∃ t, u = Value.float b t from r); cases e; rfl
  | ref a => cases (show u = Value.ref a from r); rfl
  | ty n => cases (show u = Value.type n from r); rfl

section
variable {P : Program} {w : World} {H H' : Hp} {h h' : Heap} {a C dx : Addr} {fs fs' : List (Str × V)}
theorem ins_get (hok : HOk P w H h) (e : H a = some (.ins C dx fs)) : ∃ mA, ObjM h a dx C mA ∧ (∀ f, RelO (fs.lookup f) (mA f)) ∧ PySem.Within mA (fs.map (·.1)) ∧ fs.length ≤ 1000 ∧ H dx = some (.own a) := by
  obtain ⟨d, z, ne, ob, mA, n, r, q⟩ := (show ObjOk P w H h a (.ins C dx fs) from hok a _ e)
  exact ⟨mA, ⟨ob, n, ne⟩, r, q, z, d⟩
end

/-! ### what of the text a class must have -/
structure Cls (K : PySem.W.Frag) (C : Addr) : Prop where
  pg : PySem.W.plainGet K C Str.empty = true
  hd : PySem.W.hasDictIn K C = true
  po : PySem.W.plainOver K C = true
  sa : PySem.W.findIn K (.ref C) "__setattr__" = some (some (.builtin "object.__setattr__"))
theorem Cls.get {K : PySem.W.Frag} {C : Addr} (c : Cls K C) (f : Str) : PySem.W.plainGet K C f = true := c.pg
/-- no class of it has the name -/
def NoAttr (K : PySem.W.Frag) (C : Addr) (f : Str) : Prop := PySem.W.findIn K (.ref C) f = some none
theorem NoAttr.taker {K : PySem.W.Frag} {C : Addr} {f : Str} (n : NoAttr K C f) : PySem.W.takerIn K C f = some none := by
  unfold PySem.W.takerIn
  rw [show PySem.W.findIn K (.ref C) f = some none from n]
  rfl
/-- a method: a plain def of the class or of one above it -/
structure Meth (K : PySem.W.Frag) (C : Addr) (m : Str) (f : Addr) : Prop where
  at_ : PySem.W.findIn K (.ref C) m = some (some (.ref f))
  fn : PySem.W.isFn K (.ref f) = true
  kp : PySem.W.keepIn K (.ref f) = true

section
variable {X : Cx} {pins : List (Addr × Obj)} {σ : St} {H : Hp} {s : Shared} {a C dx : Addr} {fs : List (Str × V)} {f : Str} {v : V} {A : Around} {E : Value → Shared → Prop}

theorem getattr_ok {b : Bool} {Q : Value → Shared → Prop} (I : Inv X pins σ H s) (e : H a = some (.ins C dx fs)) (c : Cls X.K C) (n : NoAttr X.K C f) (l : fs.lookup f = some v)
    (h : ∀ u s', Inv X pins σ H s' → RelV v u → Q u s') : wpAny (model X.prog X.w) A (getAttr (.ref a) f b) Q E s := by
  obtain ⟨mA, O, r, _, _, _⟩ := ins_get I.hok e
  obtain ⟨u, hu, ru⟩ := RelO.some_of (v := v) (o := mA f) (by rw [← l]; exact r f)
  exact get_map I.kIn O (c.get f) c.hd n hu (handed_of ru) (h u _ (I.tok _) ru)


theorem getmeth_ok {m : Str} {g : Addr} {pl : Sem Bool} {Q : Value × List Value → Shared → Prop} (I : Inv X pins σ H s) (e : H a = some (.ins C dx fs)) (c : Cls X.K C) (k : Meth X.K C m g) (l : fs.lookup m = none)
    (h : Q (.ref g, [.ref a]) s) : wpAny (model X.prog X.w) A (getMethod (.ref a) m pl) Q E s := by
  obtain ⟨mA, O, r, _, _, _⟩ := ins_get I.hok e
  have hn : mA m = none := RelO.none_of (by rw [← l]; exact r m)
  exact get_meth I.kIn O (c.get m) k.at_ k.fn hn h

theorem setattr_ok {y : V} {u : Value} {Q : Unit → Shared → Prop} (I : Inv X pins σ H s) (e : H a = some (.ins C dx fs)) (c : Cls X.K C) (n : NoAttr X.K C f) (hl : fs.length < 1000) (ry : RelV y u)
    (h : ∀ s', Inv X pins σ (upd H a (.ins C dx (putF f y fs))) s' → Q () s') : wpAny (model X.prog X.w) A (setAttr (.ref a) f u) Q E s := by
  obtain ⟨mA, O, r, wi, _, ho⟩ := ins_get I.hok e
  have hz : (fs.map (·.1)).length ≤ sizeLine := by rw [List.length_map, sizeLine_eq]; omega
  refine set_map I.kIn O c.sa c.po n.taker c.hd wi hz fun h' O' sb => h _ ?_
  have hd : ∃ o, h'.get? dx = some o := let ⟨o, _, _, e', _⟩ := O'.ns; ⟨o, e'⟩
  refine I.write (x := a) (e := dx) (by rw [e]; exact True.intro) (.inr ho) (fun b q hb z => (sb.2 b hb).trans z) hd ?_
  refine ⟨by rw [upd_ne O.ne]; exact ho, ?_, O.ne, O'.obj, _, O'.ns, fun g => ?_, fun g hg => ?_⟩
  · have := length_putF f y fs; omega
  · show RelO ((putF f y fs).lookup g) (if g = f then some u else mA g)
    rw [lookup_putF]
    by_cases q : g = f
    · rw [if_pos q, if_pos q]; exact ry
    · rw [if_neg q, if_neg q]; exact r g
  · by_cases q : g = f
    · rw [q]; exact (keys_putF f y fs).1
    · refine (keys_putF f y fs).2 g (wi g fun z => hg ?_)
      show (if g = f then some u else mA g) = none
      rw [if_neg q]; exact z

/-- a new instance, tracked, without attributes -/
theorem Inv.made (I : Inv X pins σ H s) : Inv X pins σ (upd (upd H s.heap.objs.size (.own (s.heap.objs.size + 1))) (s.heap.objs.size + 1) (.ins C s.heap.objs.size []))
    { s with heap := (s.heap.push PySem.W.emptyDict).push (PySem.W.instObj C s.heap.objs.size) } := by
  have e1 : (s.heap.push PySem.W.emptyDict).get? s.heap.objs.size = some PySem.W.emptyDict := Heap.get?_push_size s.heap rfl
  have e2 : ((s.heap.push PySem.W.emptyDict).push (PySem.W.instObj C s.heap.objs.size)).get? (s.heap.objs.size + 1) = some (PySem.W.instObj C s.heap.objs.size) := by
    have := Heap.get?_push_size (s.heap.push PySem.W.emptyDict) (o := PySem.W.instObj C s.heap.objs.size) rfl
    rwa [Heap.size_push] at this
  have e3 : (s.heap.push PySem.W.emptyDict).Ns s.heap.objs.size (fun _ => none) := ⟨PySem.W.emptyDict, #[], _, e1, rfl, (fun e he => absurd he (by simp)), fun _ => rfl⟩
  have I1 := I.laid (a := s.heap.objs.size) (o := .own (s.heap.objs.size + 1)) (h' := s.heap.push PySem.W.emptyDict) (t' := s.toks) (fun b u q => Heap.get?_push_of_some _ q) (Nat.le_refl _) ⟨_, e1⟩
  refine I1.laid (a := s.heap.objs.size + 1) (o := .ins C s.heap.objs.size []) (t' := s.toks) (fun b u q => Heap.get?_push_of_some _ q) (Nat.le_of_eq (Heap.size_push _ _)) ?_
  have ne : s.heap.objs.size ≠ s.heap.objs.size + 1 := Nat.ne_of_lt (Nat.lt_succ_self _)
  refine ⟨by rw [upd_ne ne, upd_same], Nat.zero_le _, ne, e2, fun _ => none, (Heap.Ns1.of_empty e3).at fun o q => Heap.get?_push_of_some _ q, fun _ => True.intro, fun y hy => absurd rfl hy⟩

/-- e.f where nothing but the object is asked: through attributeBase (super) and the last hold -/
theorem attr_of {prog : Program} {w : World} {env : Env} {e : Expr} {f : Str} {pos : Pos} {s : Shared} {Q : Value → Shared → Prop} (hb : attributeBase e f env (eval e env) = eval e env)
    (h : wpAny (model prog w) A (eval e env) (fun o s₁ => wpAny (model prog w) A (getAttr o f true) Q E s₁) E s) : wpAny (model prog w) A (eval (.Attribute e f pos) env) Q E s :=
  Attribute_any_ h (by rw [arm_eval_Attribute, hb])
end

/-! ### readings and rules -/
/-- e.f, an attribute of the instance -/
def tFld (K : PySem.W.Frag) (ta : TE) (f : Str) : TE := fun σ H Q => ta σ H fun x H1 => ∃ a C dx fs v, x = .ref a ∧ H1 a = some (.ins C dx fs) ∧ Cls K C ∧ NoAttr K C f ∧ fs.lookup f = some v ∧ Q v H1
/-- e.f = value -/
def sFld (K : PySem.W.Frag) (ta tv : TE) (f : Str) : TS := fun D σ H => tv σ H fun y H1 => ta σ H1 fun x H2 => ∃ a C dx fs, x = .ref a ∧ H2 a = some (.ins C dx fs) ∧ Cls K C ∧ NoAttr K C f ∧ fs.length < 1000 ∧
  D.nx σ (upd H2 a (.ins C dx (putF f y fs)))

section
variable {X : Cx} {o e value : Expr} {f : Str} {pos pos' tpos : Pos} {ta tv : TE}
theorem pe_fld (he : PE X e ta) (hb : attributeBase e f X.env (eval e X.env) = eval e X.env) : PE X (.Attribute e f pos) (tFld X.K ta f) := by
  intro pins s σ H Q I h
  refine attr_of hb (thn (he pins s σ H _ I h) fun u s1 ⟨x, H1, I1, rx, a, C, dx, fs, v, ex, ea, c, n, l, q⟩ => ?_)
  subst ex
  obtain rfl : u = Value.ref a := rx
  exact getattr_ok I1 ea c n l fun u' s2 I2 ru => ⟨v, H1, I2, ru, q⟩
theorem ps_fld (ha : PE X o ta) (hv : PE X value tv) (hs : swapsWith value (some (.Attribute o f pos')) pos.line X.env = pure false) : PS X (.Assign [.Attribute o f pos'] value pos) (sFld X.K ta tv f) := by
  intro pins s σ H D I h
  refine plainObj_wpAny_Assign_Attribute (thn (hv pins s σ H _ I h) fun u s1 ⟨y, H1, I1, ry, q⟩ => thn (ha pins s1 σ H1 _ I1 q) fun ov s2 ⟨x, H2, I2, rx, a, C, dx, fs, ex, ea, c, n, l, q2⟩ => ?_) hs
  subst ex
  obtain rfl : ov = Value.ref a := rx
  exact setattr_ok I2 ea c n l ry fun s3 I3 => ⟨σ, _, I3, q2⟩

end

/-! ### isinstance -/
section
variable {X : Cx} {pins : List (Addr × Obj)} {σ : St} {H : Hp} {s : Shared} {A : Around} {E : Value → Shared → Prop} {Q : Value → Shared → Prop} {c : Value} {b : Bool}
/-- the type of a value, as the fragment's deciders take it; for an instance its class -/
inductive TyOf (K : PySem.W.Frag) (H : Hp) : V → Value → Prop where
  | non : TyOf K H .non (.type "NoneType")
  | bl (x : Bool) : TyOf K H (.bl x) (.type "bool")
  | int (i : Int) : TyOf K H (.int i) (.type "int")
  | str (x : Str) : TyOf K H (.str x) (.type "str")
  | flt (x : UInt64) : TyOf K H (.flt x) (.type "float")
  | lst {a : Addr} {xs : List V} (e : H a = some (.lst xs)) : TyOf K H (.ref a) (.type "list")
  | frz {a : Addr} {o : Obj} {xs : List V} (e : H a = some (.frz o (.lst xs))) : TyOf K H (.ref a) (.type "list")
  | tup {a : Addr} {xs : List V} (e : H a = some (.tup xs)) : TyOf K H (.ref a) (.type "tuple")
  | dK {a : Addr} {kvs : List (Key × V)} (e : H a = some (.dK kvs)) : TyOf K H (.ref a) (.type "dict")
  | dT {a : Addr} {kvs : List (List Key × V)} (e : H a = some (.dT kvs)) : TyOf K H (.ref a) (.type "dict")
  | ins {a C dx : Addr} {fs : List (Str × V)} (e : H a = some (.ins C dx fs)) (cl : Cls K C) (ha : PySem.W.findIn K (.ref C) "__class__" = some (some (.builtin "object.__class__")))
      (hn : PySem.W.specialIn K (.builtin "object.__class__") "__get__" = some (some (.builtin "getset_descriptor.__get__"))) (htk : PySem.W.takesIn K (.builtin "object.__class__") = some true)
      (hm : PySem.W.mroIn K C (.type "object") = some true) : TyOf K H (.ref a) (.ref C)
/-- isinstance(x, c) for one class c, a built-in or an own one: kitOne's answer -/
theorem isinst_ok {x : V} {u t : Value} (I : Inv X pins σ H s) (rx : RelV x u) (ty : TyOf X.K H x t) (e : PySem.W.kitOne X.K t c = some b) (h : ∀ tk, Q (.bool b) { s with toks := tk }) :
    wpAny (model X.prog X.w) A (call (.builtin "isinstance") [u, c]) Q E s := by
  cases ty with
  | non => cases (show u = Value.none from rx); exact PySem.W.kia_one PySem.W.kitx_none I.kIn True.intro e (fun z => nomatch z) h
  | bl y => cases (show u = Value.bool y from rx); exact PySem.W.kia_one PySem.W.kitx_bool I.kIn True.intro e (fun z => nomatch z) h
  | int i => obtain ⟨t, q⟩ := (show ∃ t, u = Value.int i t from rx); cases q; exact PySem.W.kia_one PySem.W.kitx_int I.kIn True.intro e (fun z => nomatch z) h
  | str y => obtain ⟨t, q⟩ := (show ∃ t, u = Value.str y t from rx); cases q; exact PySem.W.kia_one PySem.W.kitx_str I.kIn True.intro e (fun z => nomatch z) h
  | flt y => obtain ⟨t, q⟩ := (show ∃ t, u = Value.float y t from rx); cases q; exact PySem.W.kia_one PySem.W.kitx_float I.kIn True.intro e (fun z => nomatch z) h
  | @lst a xs ea =>
    cases (show u = Value.ref a from rx)
    obtain ⟨_, _, n, _, h1⟩ := (show ObjOk X.prog X.w H s.heap a (.lst xs) from I.hok a _ ea)
    exact PySem.W.kia_one PySem.W.kitx_list I.kIn ⟨_, h1, rfl⟩ e (fun z => nomatch z) h
  | @frz a ob xs ea =>
    cases (show u = Value.ref a from rx)
    obtain ⟨_, _, _, n, _, h1⟩ := (show ObjOk X.prog X.w H s.heap a (.frz ob (.lst xs)) from I.hok a _ ea)
    exact PySem.W.kia_one PySem.W.kitx_list I.kIn ⟨_, h1, rfl⟩ e (fun z => nomatch z) h
  | @tup a xs ea =>
    cases (show u = Value.ref a from rx)
    obtain ⟨_, _, _, p⟩ := (show ObjOk X.prog X.w H s.heap a (.tup xs) from I.hok a _ ea)
    obtain ⟨o, h1, h2, _⟩ := p
    exact PySem.W.kia_one PySem.W.kitx_tuple I.kIn ⟨o, h1, h2⟩ e (fun z => nomatch z) h
  | @dK a kvs ea =>
    cases (show u = Value.ref a from rx)
    obtain ⟨_, _, vs, _, p⟩ := (show ObjOk X.prog X.w H s.heap a (.dK kvs) from I.hok a _ ea)
    obtain ⟨o, es, ep, h1, h2, _⟩ := p
    exact PySem.W.kia_one PySem.W.kitx_dict I.kIn ⟨o, h1, h2.1⟩ e (fun z => nomatch z) h
  | @dT a kvs ea =>
    cases (show u = Value.ref a from rx)
    obtain ⟨_, _, xs, _, o, es, ep, h1, h2, _⟩ := (show ObjOk X.prog X.w H s.heap a (.dT kvs) from I.hok a _ ea)
    exact PySem.W.kia_one PySem.W.kitx_dict I.kIn ⟨o, h1, h2.1⟩ e (fun z => nomatch z) h
  | @ins a C dx fs ea cl ha hn htk hm =>
    cases (show u = Value.ref a from rx)
    obtain ⟨mA, O, _⟩ := ins_get I.hok ea
    obtain ⟨od, J, _⟩ := O.look
    exact PySem.W.kia_one (PySem.W.kitx_own (cl.get _) cl.hd ha hn htk hm) I.kIn J e (fun z => nomatch z) h
end
end L2

namespace L2
open PySem PySem.Spec PyProof.Rows

/-! ### room -/
structure Room (k : Nat) (A : Around) : Prop where
  hd : A.handled = none
  dp : A.depth + 3 * k + 5 < recursionLimit
  un : A.units + 16 * k + 200 < cLine
theorem Room.mono {j k : Nat} {A : Around} (r : Room k A) (h : j ≤ k) : Room j A := ⟨r.hd, by have := r.dp; omega, by have := r.un; omega⟩
theorem Room.deeper {k : Nat} {A : Around} (r : Room (k + 1) A) (env : Env) : Room k (A.deeper env) :=
  ⟨r.hd, by have := r.dp; show A.depth + 1 + 3 * k + 5 < _; omega, by have := r.un; show A.units + 3 + 16 * k + 200 < _; omega⟩
theorem Room.in1 {k : Nat} {A : Around} (r : Room (k + 1) A) : Room k A.in1 :=
  ⟨r.hd, by have := r.dp; show A.depth + 3 * k + 5 < _; omega, by have := r.un; show A.units + 1 + 16 * k + 200 < _; omega⟩
theorem make_depth {A : Around} {C : Addr} {us : List Value} {kw : List (Str × Value)} : (A.under (.builtin "type.__call__" ⟨.ref C :: us, kw⟩)).depth = A.depth + 1 := by
  first | rfl | simp [Around.under, Code.weight, Code.isCreation, Code.isGuard, Code.isCaller, Code.frames, Code.isFrame, guardIds]
theorem make_units {A : Around} {C : Addr} {us : List Value} {kw : List (Str × Value)} : (A.under (.builtin "type.__call__" ⟨.ref C :: us, kw⟩)).units = A.units + 1 := by
  first | rfl | simp [Around.under, Code.cUnits, Code.frames, Code.isFrame]
theorem Room.make {k : Nat} {A : Around} (r : Room (k + 1) A) (C : Addr) (us : List Value) (kw : List (Str × Value)) : Room k (A.under (.builtin "type.__call__" ⟨.ref C :: us, kw⟩)) :=
  ⟨r.hd, by have := r.dp; rw [make_depth]; omega, by have := r.un; rw [make_units]; omega⟩
theorem Room.depth {k : Nat} {A : Around} (r : Room k A) : A.depth < recursionLimit := by have := r.dp; omega
theorem Room.units {k : Nat} {A : Around} (r : Room k A) : A.units + 64 < cLine := by have := r.un; omega

/-! ### argument lists and displays -/
def tNil : TA := fun _ H Q => Q [] H
def tCons (ta : TE) (tr : TA) : TA := fun σ H Q => ta σ H fun x H1 => tr σ H1 fun xs H2 => Q (x :: xs) H2
section
variable {X : Cx} {e : Expr} {es : List Expr} {te : TE} {t : TA} {pos : Pos}
theorem pa_nil : PA X [] tNil := fun _ _ _ _ H Q I h => Calls.spliced_nil ⟨[], H, I, .nil, h⟩
theorem pa_cons (ha : PE X e te) (hr : PA X es t) (hs : starEach (e :: es) X.env = (false, eval e X.env) :: starEach es X.env := by rfl) : PA X (e :: es) (tCons te t) := by
  intro pos pins s σ H Q I h
  rw [hs]
  show wpAny _ _ (spliced ((false, eval e X.env) :: backTo pos (starEach es X.env))) _ _ s
  refine Calls.spliced_cons (thn (ha pins s σ H _ I h) fun u s1 ⟨x, H1, I1, r1, q1⟩ => ?_)
  exact thn (hr pos pins s1 σ H1 _ I1 q1) fun us s2 ⟨xs, H2, I2, r2, q2⟩ => ⟨x :: xs, H2, I2, .cons r1 r2, q2⟩

/-- a tuple, a list of written items -/
def tTup (t : TA) : TE := fun σ H Q => t σ H fun xs H1 => xs.length ≤ sizeLine ∧ ∀ p, H1 p = none → Q (.ref p) (upd H1 p (.tup xs))
def tLst (t : TA) : TE := fun σ H Q => t σ H fun xs H1 => xs.length ≤ sizeLine ∧ ∀ p, H1 p = none → Q (.ref p) (upd H1 p (.lst xs))
theorem pe_tup {x1} (h : PA X es t) : PE X (.Tuple es x1 pos) (tTup t) := by
  intro pins s σ H Q I hq
  refine wpAny_Tuple_spliced (thn (h pos pins s σ H _ I hq) fun us s1 ⟨xs, H1, I1, r, z, q⟩ => ⟨by rw [← r.length]; exact z, ?_⟩)
  have hf : H1 s1.heap.objs.size = none := I1.hok.fresh (Nat.le_refl _)
  refine ⟨.ref s1.heap.objs.size, upd H1 s1.heap.objs.size (.tup xs), I1.laid (t' := s1.toks) (fun b u e => Heap.get?_push_of_some _ e) (Nat.le_refl _) ?_, rfl, q _ hf⟩
  exact ⟨z, us, r, ⟨_, Heap.get?_push_size _ rfl, rfl, _, rfl⟩⟩
theorem pe_lst (h : PA X es t) : PE X (.List es pos) (tLst t) := by
  intro pins s σ H Q I hq
  refine wpAny_List_spliced (thn (h pos pins s σ H _ I hq) fun us s1 ⟨xs, H1, I1, r, z, q⟩ => ⟨by rw [← r.length]; exact z, ?_⟩)
  have hf : H1 s1.heap.objs.size = none := I1.hok.fresh (Nat.le_refl _)
  refine ⟨.ref s1.heap.objs.size, upd H1 s1.heap.objs.size (.lst xs), I1.laid (t' := s1.toks) (fun b u e => Heap.get?_push_of_some _ e) (Nat.le_refl _) ?_, rfl, q _ hf⟩
  exact ⟨z, us, 0, r, Heap.get?_push_size _ rfl⟩
end

/-! ### what a def promises -/
/-- a def's promise: the bound arguments in the parameters' order, the heap, the wanted end, the wanted exception -/
abbrev Sp := List V → Hp → VK → XK → Prop
/-- how an exception lies behind a call (file 08 gives it): the callers' frames, abstract heap and state ahead of the call, the wish, the exception, the state -/
abbrev CXT := List Env → Hp → Shared → XK → Value → Shared → Prop

/-- the state at a call -/
structure Env0 (P : Program) (w : World) (K : PySem.W.Frag) (mg : Str → Option Value) (base : Heap) (A : Around) (outer : List Env) (s : Shared) (H : Hp) : Prop where
  frames : A.frames = some outer
  mod : Mod K mg base
  bs : ∀ b o, base.get? b = some o → s.heap.get? b = some o ∧ H b = none
  bsz : base.objs.size ≤ s.heap.objs.size
  funs : s.heap.FunFrames base outer
  frf : ∀ b ∈ frs outer, H b = none
  hok : HOk P w H s.heap
  bare : AllBare s.gens
/-- a call's end -/
def CE (outer : List Env) (P : Program) (w : World) (H : Hp) (s : Shared) (Q : VK) (u : Value) (s' : Shared) : Prop :=
  ∃ v H', s'.os = s.os ∧ AllBare s'.gens ∧ Un (frs outer) [] H H' s.heap s'.heap ∧ HOk P w H' s'.heap ∧ RelV v u ∧ Q v H'
def CR (CX : CXT) (outer : List Env) (P : Program) (w : World) (H : Hp) (s : Shared) (Q : VK) (E : XK) (r : Result) (s' : Shared) : Prop :=
  match r with
  | .ok (.ret u) => CE outer P w H s Q u s'
  | .ok _ => False
  | .error e => CX outer H s E e s'
structure FnOk (P : Program) (w : World) (K : PySem.W.Frag) (mg : Str → Option Value) (base : Heap) (CX : CXT) (k : Nat) (f : Addr) (fd : FuncData) (ps : List Str) (sp : Sp) : Prop where
  len : ∀ vs H Q E, sp vs H Q E → vs.length = ps.length
  run : ∀ (A : Around) (outer : List Env) (s : Shared) (H : Hp) (args : Args) (us : List Value) (vs : List V) (Q : VK) (E : XK), Room k A → Env0 P w K mg base A outer s H → BindsTo s fd args (ps.zip us) → Vals vs us → sp vs H Q E →
    codeAny (model P w) A (.call (.ref f) args) (CR CX outer P w H s Q E) s
theorem FnOk.mono {P : Program} {w : World} {K : PySem.W.Frag} {mg : Str → Option Value} {base : Heap} {CX : CXT} {j k : Nat} {f : Addr} {fd : FuncData} {ps : List Str} {sp : Sp} (F : FnOk P w K mg base CX j f fd ps sp) (h : j ≤ k) :
    FnOk P w K mg base CX k f fd ps sp := ⟨F.len, fun A outer s H args us vs Q E hr => F.run A outer s H args us vs Q E (hr.mono h)⟩

theorem Env0.make {P : Program} {w : World} {K : PySem.W.Frag} {mg : Str → Option Value} {base : Heap} {A : Around} {outer : List Env} {s : Shared} {H : Hp} (e : Env0 P w K mg base A outer s H) (C : Addr) (us : List Value) (kw : List (Str × Value)) :
    Env0 P w K mg base (A.under (.builtin "type.__call__" ⟨.ref C :: us, kw⟩)) outer s H := ⟨by first | exact e.frames | (simpa [Around.under, Code.envs, Code.isFrame, pushEnvs] using e.frames), e.mod, e.bs, e.bsz, e.funs, e.frf, e.hok, e.bare⟩
theorem Env0.in1 {P : Program} {w : World} {K : PySem.W.Frag} {mg : Str → Option Value} {base : Heap} {A : Around} {outer : List Env} {s : Shared} {H : Hp} (e : Env0 P w K mg base A outer s H) :
    Env0 P w K mg base A.in1 outer s H := ⟨e.frames, e.mod, e.bs, e.bsz, e.funs, e.frf, e.hok, e.bare⟩

section
variable {X : Cx} {pins : List (Addr × Obj)} {σ : St} {H : Hp} {s s' : Shared}
/-- from a body: what a callee wants -/
theorem Inv.env0 (I : Inv X pins σ H s) : Env0 X.prog X.w X.K X.mg X.base X.A X.stack s H :=
  ⟨I.ok.frames, I.ok.mod, I.bs, Nat.le_trans I.ok.bsz I.sz, I.stack, I.stkFree, I.hok, I.bare⟩
/-- behind a call -/
theorem Inv.after {Q : VK} {u : Value} (I : Inv X pins σ H s) (h : CE X.stack X.prog X.w H s Q u s') : EP X pins σ Q u s' := by
  obtain ⟨v, H', os, bare, un, hok, r, q⟩ := h
  obtain ⟨hh, g, d, t, os'⟩ := s'
  obtain rfl : os' = s.os := os
  exact ⟨v, H', I.call (h' := hh) (g' := g) (d' := d) (t' := t) (ch := []) un hok bare (fun b z => absurd z (by simp)), r, q⟩
end

/-! ### calls -/
/-- f(..): the written arguments, then the defaults dvs; E: what is wanted of an exception -/
def tCall (sp : Sp) (dvs : List V) (E : XK) (t : TA) : TE := fun σ H Q => t σ H fun vs H1 => sp (vs ++ dvs) H1 Q E
/-- o.m(..) of an instance of the class at C -/
def tMeth (C : Addr) (m : Str) (sp : Sp) (dvs : List V) (E : XK) (ta : TE) (t : TA) : TE := fun σ H Q => ta σ H fun x H1 => ∃ a dx fs, x = .ref a ∧ H1 a = some (.ins C dx fs) ∧ fs.lookup m = none ∧
  t σ H1 fun vs H2 => sp (x :: (vs ++ dvs)) H2 Q E
/-- C(..): a new instance and its dict, then __init__ -/
def tMake (C : Addr) (sp : Sp) (dvs : List V) (E : XK) (t : TA) : TE := fun σ H Q => t σ H fun vs H1 => ∀ x dx, H1 x = none → H1 dx = none → dx ≠ x →
  sp (.ref x :: (vs ++ dvs)) (upd (upd H1 dx (.own x)) x (.ins C dx [])) (fun v H2 => v = .non ∧ Q (.ref x) H2) E

/-- how the parameters are bound: us the positional arguments, kw the keywords' values by name, ds the defaults that fill up -/
def Binds (K : PySem.W.Frag) (fd : FuncData) (ps : List Str) (ds : List Value) : Prop :=
  ∀ (s : Shared) (us : List Value), K.In s.heap → (us ++ ds).length = ps.length → BindsTo s fd ⟨us, []⟩ (ps.zip (us ++ ds))
/-- every parameter is given -/
theorem Binds.all {K : PySem.W.Frag} {fd : FuncData} {ps : List Str} (h : ∀ us : List Value, us.length = ps.length → bindArgs fd ⟨us, []⟩ = pure (ps.zip us)) : Binds K fd ps [] := fun s us _ hl => by
  rw [List.append_nil] at hl ⊢
  exact .of_eq (h us hl)

/-- an exception of a callee reaches what this body wants of exceptions -/
def Passes (CX : CXT) (X : Cx) (E : XK) : Prop := ∀ (pins : List (Addr × Obj)) (σ : St) (H : Hp) (s : Shared) (e : Value) (s' : Shared), Inv X pins σ H s → CX X.stack H s E e s' → X.xe e s'

section
variable {X : Cx} {CX : CXT} {k : Nat} {f C : Addr} {fd : FuncData} {ps : List Str} {sp : Sp} {dvs : List V} {ds : List Value} {E : XK} {x m : Str} {p pos apos : Pos} {e o : Expr} {es : List Expr} {ta : TE} {t : TA}

/-- the callee runs -/
theorem run_fn {pins : List (Addr × Obj)} {σ : St} {H : Hp} {s : Shared} {Q : VK} {us : List Value} {vs : List V} (F : FnOk X.prog X.w X.K X.mg X.base CX k f fd ps sp) (hr : Room k X.A) (hb : Binds X.K fd ps ds) (hd : Vals dvs ds) (hx : Passes CX X E)
    (I : Inv X pins σ H s) (r : Vals vs us) (h : sp (vs ++ dvs) H Q E) : wpAny (model X.prog X.w) X.A (call (.ref f) us) (EP X pins σ Q) X.xe s := by
  have r2 : Vals (vs ++ dvs) (us ++ ds) := r.append hd
  have hl : (us ++ ds).length = ps.length := by rw [← r2.length]; exact F.len _ _ _ _ h
  refine wpAny_call (codeAny_mono (F.run X.A X.stack s H ⟨us, []⟩ (us ++ ds) (vs ++ dvs) Q E hr I.env0 (hb s us I.kIn hl) r2 h) fun r s' hq => ?_)
  cases r with
  | error e => exact hx pins σ H s e s' I hq
  | ok fl =>
    cases fl with
    | ret u => exact I.after hq
    | next => exact False.elim hq
    | brk => exact False.elim hq
    | cont => exact False.elim hq

theorem pe_call (F : FnOk X.prog X.w X.K X.mg X.base CX k f fd ps sp) (hr : Room k X.A) (hg : Gl X x) (hm : X.mg x = some (.ref f)) (hk : PySem.W.keepIn X.K (.ref f) = true) (hb : Binds X.K fd ps ds) (hd : Vals dvs ds) (hx : Passes CX X E)
    (ha : PA X (e :: es) t) (hdb : (x == ("__debug__" : Str)) = false := by decide) (he : starEach (e :: es) X.env = (false, eval e X.env) :: starEach es X.env := by rfl) (hpl : (backTo pos (starEach es X.env)).any (·.1) = false := by rfl) :
    PE X (.Call (.Name x p) (e :: es) [] pos) (tCall sp dvs E t) := by
  intro pins s σ H Q I h
  refine wpAny_Call_Name_kw (ld_glob I hg hm ?_ hdb)
  refine PySem.W.callWith_K (h₀ := X.base) I.ok.mod.kin hk (thn (ha pos pins s σ H _ I h) fun us s1 ⟨vs, H1, I1, r, q⟩ => ⟨I1.kIn, ?_⟩) he hpl
  exact run_fn F hr hb hd hx I1 r q

/-- o.m(e, ..) -/
theorem pe_meth {pl : Sem Bool} (he : PE X o ta) (c : Cls X.K C) (hm : Meth X.K C m f) (F : FnOk X.prog X.w X.K X.mg X.base CX k f fd ps sp) (hr : Room k X.A) (hb : Binds X.K fd ps ds) (hd : Vals dvs ds) (hx : Passes CX X E) (ha : PA X (e :: es) t)
    (hst : starEach (e :: es) X.env = (false, eval e X.env) :: starEach es X.env := by rfl) (hpl : (backTo pos (starEach es X.env)).any (·.1) = false := by rfl)
    (ht : eval (.Call (.Attribute o m apos) (e :: es) [] pos) X.env = (do
      let ov ← eval o X.env
      standAt apos.atName
      let (f, first) ← holding [ov] (getMethod ov m pl)
      callWith pos f first (backTo pos (starEach (e :: es) X.env)) (backToKw pos (keywordEach [] X.env))) := by rfl) :
    PE X (.Call (.Attribute o m apos) (e :: es) [] pos) (tMeth C m sp dvs E ta t) := by
  intro pins s σ H Q I h
  refine PySem.W.methodCall_KW (pl := pl) (thn (he pins s σ H _ I h) fun u s1 ⟨x, H1, I1, rx, a, dx, fs, ex, ea, l, q⟩ => ?_) ht
  subst ex
  obtain rfl : u = Value.ref a := rx
  refine getmeth_ok I1 ea c hm l ?_
  refine PySem.W.callWith_K (first := [.ref a]) (h₀ := X.base) I.ok.mod.kin hm.kp (thn (ha pos pins s1 σ H1 _ I1 q) fun us s2 ⟨vs, H2, I2, r, q2⟩ => ⟨I2.kIn, ?_⟩) hst hpl
  exact run_fn (us := .ref a :: us) (vs := .ref a :: vs) F hr hb hd hx I2 (.cons rfl r) q2
/-- o.m() -/
theorem pe_meth0 {pl : Sem Bool} (he : PE X o ta) (c : Cls X.K C) (hm : Meth X.K C m f) (F : FnOk X.prog X.w X.K X.mg X.base CX k f fd ps sp) (hr : Room k X.A) (hb : Binds X.K fd ps ds) (hd : Vals dvs ds) (hx : Passes CX X E)
    (ht : eval (.Call (.Attribute o m apos) [] [] pos) X.env = (do
      let ov ← eval o X.env
      standAt apos.atName
      let (f, first) ← holding [ov] (getMethod ov m pl)
      callWith pos f first (backTo pos (starEach [] X.env)) (backToKw pos (keywordEach [] X.env))) := by rfl) :
    PE X (.Call (.Attribute o m apos) [] [] pos) (tMeth C m sp dvs E ta tNil) := by
  intro pins s σ H Q I h
  refine PySem.W.methodCall_KW (pl := pl) (thn (he pins s σ H _ I h) fun u s1 ⟨x, H1, I1, rx, a, dx, fs, ex, ea, l, q⟩ => ?_) ht
  subst ex
  obtain rfl : u = Value.ref a := rx
  refine getmeth_ok I1 ea c hm l ?_
  exact PySem.W.callWith_K0 (first := [.ref a]) I1.kIn hm.kp (run_fn (us := [.ref a]) (vs := [.ref a]) F hr hb hd hx I1 (.cons rfl .nil) q)

/-- what a class must have to be made -/
structure Mk (K : PySem.W.Frag) (C f : Addr) : Prop where
  makes : PySem.W.makesIn K C = true
  init : PySem.W.findIn K (.ref C) "__init__" = some (some (.ref f))
  fn : PySem.W.isFn K (.ref f) = true
  kp : PySem.W.keepIn K (.ref C) = true

theorem run_make {pins : List (Addr × Obj)} {σ : St} {H : Hp} {s : Shared} {Q : VK} {us : List Value} {vs : List V} (M : Mk X.K C f) (F : FnOk X.prog X.w X.K X.mg X.base CX k f fd ps sp) (hr : Room (k + 1) X.A) (hb : Binds X.K fd ps ds) (hd : Vals dvs ds)
    (hx : Passes CX X E) (I : Inv X pins σ H s) (r : Vals vs us)
    (h : ∀ x dx, H x = none → H dx = none → dx ≠ x → sp (.ref x :: (vs ++ dvs)) (upd (upd H dx (.own x)) x (.ins C dx [])) (fun v H2 => v = .non ∧ Q (.ref x) H2) E) :
    wpAny (model X.prog X.w) X.A (call (.ref C) us) (EP X pins σ Q) X.xe s := by
  have hq := h (s.heap.objs.size + 1) s.heap.objs.size (I.hok.fresh (Nat.le_succ _)) (I.hok.fresh (Nat.le_refl _)) (Nat.ne_of_lt (Nat.lt_succ_self _))
  have I2 := Inv.made (C := C) I
  have r2 : Vals (V.ref (s.heap.objs.size + 1) :: (vs ++ dvs)) (Value.ref (s.heap.objs.size + 1) :: (us ++ ds)) := .cons rfl (r.append hd)
  have hl : (Value.ref (s.heap.objs.size + 1) :: us ++ ds).length = ps.length := by
    have e := r2.length
    rw [F.len _ _ _ _ hq] at e
    exact e.symm
  refine wpAny_call (make_map (f := f) I.kIn M.makes M.init (beq_iff_eq.mp M.fn) (codeAny_mono (F.run _ X.stack _ _ ⟨Value.ref (s.heap.objs.size + 1) :: us, []⟩ (Value.ref (s.heap.objs.size + 1) :: (us ++ ds)) _ _ E (hr.make C us [])
    (I2.env0.make C us []) (hb _ (Value.ref (s.heap.objs.size + 1) :: us) I2.kIn hl) r2 hq) fun r s' hq' => ?_))
  cases r with
  | error e => exact hx pins σ _ _ e s' I2 hq'
  | ok fl =>
    cases fl with
    | ret u =>
      obtain ⟨v, H', I3, rv, ev, q3⟩ := I2.after hq'
      subst ev
      exact ⟨rv, ⟨V.ref (s.heap.objs.size + 1), H', I3, rfl, q3⟩⟩
    | next => exact False.elim hq'
    | brk => exact False.elim hq'
    | cont => exact False.elim hq'
theorem pe_make (M : Mk X.K C f) (F : FnOk X.prog X.w X.K X.mg X.base CX k f fd ps sp) (hr : Room (k + 1) X.A) (hg : Gl X x) (hm : X.mg x = some (.ref C)) (hb : Binds X.K fd ps ds) (hd : Vals dvs ds) (hx : Passes CX X E)
    (ha : PA X (e :: es) t) (hdb : (x == ("__debug__" : Str)) = false := by decide) (he : starEach (e :: es) X.env = (false, eval e X.env) :: starEach es X.env := by rfl) (hpl : (backTo pos (starEach es X.env)).any (·.1) = false := by rfl) :
    PE X (.Call (.Name x p) (e :: es) [] pos) (tMake C sp dvs E t) := by
  intro pins s σ H Q I h
  refine wpAny_Call_Name_kw (ld_glob I hg hm ?_ hdb)
  refine PySem.W.callWith_K (h₀ := X.base) I.ok.mod.kin M.kp (thn (ha pos pins s σ H _ I h) fun us s1 ⟨vs, H1, I1, r, q⟩ => ⟨I1.kIn, ?_⟩) he hpl
  exact run_make M F hr hb hd hx I1 r q
end

/-! ### keywords -/
section
variable {X : Cx} {CX : CXT} {k : Nat} {f C : Addr} {fd : FuncData} {ps ks : List Str} {sp : Sp} {E : XK} {x m : Str} {p pos apos kpos : Pos} {e o : Expr} {es : List Expr} {kws : List Keyword} {te ta : TE} {t tk : TA} {nm : Option Str}

variable {g : List Value → List Value → List Value} {gV : List V → List V → List V}
end

/-! ### a def's body keeps its promise -/
/-- names: the parameters first -/
structure FnScope (N P : List Str) (sc : Scope) : Prop where
  kind : sc.kind = .function
  co : sc.isCoroutine = false
  gen : sc.isGenerator = false
  nd : N.Nodup
  pre : N.take P.length = P
  par : ∀ x ∈ P, sc.names.lookup x = some .local ∨ sc.names.lookup x = some .cell
  nofree : ∀ y ∈ sc.names, y.2 ≠ .free

theorem bindL_out {kindOf : Str → Option NameKind} {x : Str} : ∀ {binds : List (Str × Value)} {m : Str → Option Value}, (∀ v, (x, v) ∉ binds) → bindL kindOf binds m x = m x
  | [], _, _ => rfl
  | (n, v) :: r, m, h => by
    unfold bindL
    rw [bindL_out fun w hw => h w (List.mem_cons_of_mem _ hw)]
    split
    · have : x ≠ n := by rintro rfl; exact h v List.mem_cons_self
      simp [this]
    · rfl
theorem bindC_out {kindOf : Str → Option NameKind} {x : Str} : ∀ {binds : List (Str × Value)} {m : Str → Option Value}, (∀ v, (x, v) ∉ binds) → bindC kindOf binds m x = m x
  | [], _, _ => rfl
  | (n, v) :: r, m, h => by
    unfold bindC
    rw [bindC_out fun w hw => h w (List.mem_cons_of_mem _ hw)]
    split
    · rfl
    · have : x ≠ n := by rintro rfl; exact h v List.mem_cons_self
      simp [this]
theorem bindL_get {kindOf : Str → Option NameKind} {x : Str} {v : Value} : ∀ {P : List Str} {vs : List Value} {i : Nat} {m : Str → Option Value}, P.Nodup → P[i]? = some x → vs[i]? = some v → kindOf x = some .local →
    bindL kindOf (P.zip vs) m x = some v
  | [], _, _, _, _, h, _, _ => by simp at h
  | _ :: _, [], _, _, _, _, h, _ => by simp at h
  | p :: P, w :: vs, 0, m, nd, h1, h2, hk => by
    simp at h1 h2; subst h1; subst h2
    show bindL kindOf ((p, w) :: P.zip vs) m p = _
    unfold bindL
    rw [bindL_out fun v hv => (List.nodup_cons.mp nd).1 (List.of_mem_zip hv).1, if_pos hk]
    simp
  | p :: P, w :: vs, i + 1, m, nd, h1, h2, hk => by
    show bindL kindOf ((p, w) :: P.zip vs) m x = _
    unfold bindL
    exact bindL_get (i := i) (List.nodup_cons.mp nd).2 (by simpa using h1) (by simpa using h2) hk
theorem bindC_get {kindOf : Str → Option NameKind} {x : Str} {v : Value} : ∀ {P : List Str} {vs : List Value} {i : Nat} {m : Str → Option Value}, P.Nodup → P[i]? = some x → vs[i]? = some v → kindOf x ≠ some .local →
    bindC kindOf (P.zip vs) m x = some v
  | [], _, _, _, _, h, _, _ => by simp at h
  | _ :: _, [], _, _, _, _, h, _ => by simp at h
  | p :: P, w :: vs, 0, m, nd, h1, h2, hk => by
    simp at h1 h2; subst h1; subst h2
    show bindC kindOf ((p, w) :: P.zip vs) m p = _
    unfold bindC
    rw [bindC_out fun v hv => (List.nodup_cons.mp nd).1 (List.of_mem_zip hv).1, if_neg hk]
    simp
  | p :: P, w :: vs, i + 1, m, nd, h1, h2, hk => by
    show bindC kindOf ((p, w) :: P.zip vs) m x = _
    unfold bindC
    exact bindC_get (i := i) (List.nodup_cons.mp nd).2 (by simpa using h1) (by simpa using h2) hk

/-- the names' values at the entry -/
def start (N : List Str) (vs : List V) : St := vs.map some ++ List.replicate (N.length - vs.length) none

/-- the context of a def's body, at its entry; an exception leaves the frame, then lies as CX says -/
def cxOf (CX : CXT) (P : Program) (w : World) (K : PySem.W.Frag) (mg : Str → Option Value) (base : Heap) (N : List Str) (qual : Str) (scope : Scope) (f : Addr) (cd : Value) (A : Around) (outer : List Env) (s : Shared) (H : Hp) (E : XK) : Cx where
  prog := P
  w := w
  K := K
  mg := mg
  base := base
  A := A.deeper (envOfC qual scope s.heap.objs.size f cd)
  N := N
  s₀ := s
  H₀ := H
  env := envOfC qual scope s.heap.objs.size f cd
  outer := outer
  stack := envOfC qual scope s.heap.objs.size f cd :: outer
  ex := []
  calm := true
  fn := fun _ => true
  pn := []
  xe := fun e s' => wpAny (model P w) (A.deeper (envOfC qual scope s.heap.objs.size f cd)) (leaving (envOfC qual scope s.heap.objs.size f cd) e) (fun _ s'' => CX outer H s E e s'') (fun e' s'' => CX outer H s E e' s'') s'

theorem cell_has {sc : Scope} {n : Nat} {x : Str} (h : sc.names.lookup x = some .cell) : ∃ c, (cellsFrom n sc.names []).lookup x = some c := by
  have q := PySem.W.cellsFrom_some sc.names n [] (.inl h)
  exact Option.isSome_iff_exists.mp q

theorem inv_start {CX : CXT} {P : Program} {w : World} {K : PySem.W.Frag} {mg : Str → Option Value} {base : Heap} {N ps : List Str} {qual : Str} {scope : Scope} {f : Addr} {cd : Value} {A : Around} {outer : List Env} {s s1 : Shared} {H : Hp} {E : XK} {us : List Value} {vs : List V}
    (S : FnScope N ps scope) (hd : A.handled = none) (e0 : Env0 P w K mg base A outer s H) (hl : vs.length = ps.length) (r : Vals vs us)
    (x : InCallC s s.heap.objs.size (bindL (envOfC qual scope s.heap.objs.size f cd).kindOf (ps.zip us) fun _ => none) (cellsFrom (s.heap.objs.size + 1) scope.names []) (bindC (envOfC qual scope s.heap.objs.size f cd).kindOf (ps.zip us) fun _ => none) s1) :
    Inv (cxOf CX P w K mg base N qual scope f cd A outer s H E) [] (start N vs) H s1 := by
  have hpl : ps.length ≤ N.length := by have := congrArg List.length S.pre; rw [List.length_take] at this; omega
  obtain ⟨h1, tk, rfl, hk⟩ := x.done
  have noA : ∀ b : Addr, b ∉ (cxOf CX P w K mg base N qual scope f cd A outer s H E).ex := fun b z => absurd (show b ∈ ([] : List Addr) from z) (by simp)
  refine ⟨⟨e0.mod, S.kind, rfl, rfl, Nat.le_refl _, fun y z c h1 h2 => ?_, fun y hy => ?_, fun y c _ h => ?_, fun _ => hd, Around.frames_deeper e0.frames, .inr ⟨rfl, rfl⟩, fun b z => absurd z (noA b), e0.bs, e0.bsz, fun b _ _ => noA b, fun b z => absurd z (noA b), e0.funs, e0.frf⟩,
    rfl, e0.bare, Un.kept hk, ⟨_, x.toInCall.ns, fun i y v h1 h2 h3 => ?_⟩, fun y c h => ⟨_, x.cell y c h⟩, e0.hok.fresh (Nat.le_refl _), fun y c h => ?_, fun p hp => absurd (show p ∈ ([] : List (Addr × Obj)) from hp) (by simp), e0.hok.kept hk, ?_⟩
  · exact name_of_addr x.apart (PySem.mem_of_lookup h1) (PySem.mem_of_lookup h2)
  · have hy : scope.names.lookup y = some .cell ∨ scope.names.lookup y = some .free := hy
    rcases hy with hy | hy
    · exact cell_has hy
    · exact absurd rfl (S.nofree _ (PySem.mem_of_lookup hy))
  · exact Nat.le_of_lt (x.above y c (PySem.mem_of_lookup h))
  · have hi : i < vs.length := by
      unfold start at h2
      by_cases hi : i < vs.length
      · exact hi
      · rw [List.getElem?_append_right (by simpa using hi)] at h2
        rw [List.getElem?_replicate] at h2
        split at h2 <;> cases h2
    have ha : vs[i]? = some v := by
      unfold start at h2
      rw [List.getElem?_append_left (by simpa using hi), List.getElem?_map] at h2
      cases e : vs[i]? with
      | none => rw [e] at h2; cases h2
      | some a => rw [e] at h2; cases h2; rfl
    obtain ⟨u, hu, rv⟩ := r.get ha
    have hp : ps[i]? = some y := by
      rw [← S.pre, List.getElem?_take_of_lt (by omega)]; exact h1
    have ndP : ps.Nodup := by rw [← S.pre]; exact S.nd.sublist (List.take_sublist _ _)
    refine ⟨u, rv, ?_⟩
    rcases S.par y (List.mem_of_getElem? hp) with k | k
    · exact .inl ⟨k, bindL_get ndP hp hu k⟩
    · obtain ⟨c, e⟩ := cell_has (n := s.heap.objs.size + 1) k
      refine .inr ⟨.inl k, c, e, ?_⟩
      have q := x.cell y c e
      rw [bindC_get ndP hp hu (by show scope.names.lookup y ≠ _; rw [k]; decide)] at q
      exact q
  · exact e0.hok.fresh (Nat.le_of_lt (x.above y c (PySem.mem_of_lookup h)))
  · unfold start
    show _ = N.length
    rw [List.length_append, List.length_map, List.length_replicate]
    omega

/-- THE RULE: a def (or a method) of the text, by its body. The body's reading t is chosen for each entry; it is run at the parameters' values -/
theorem fn_of {CX : CXT} {P : Program} {w : World} {K : PySem.W.Frag} {mg : Str → Option Value} {base : Heap} {k : Nat} {f : Addr} {name qual : Str} {params : Arguments} {body : List Stmt} {scope : Scope} {dV kV doc pm cdv ct oc : Value} {an od : Option Addr}
    {osl : Array (Option Value)} {N ps : List Str} {sp : Sp} (lk : K.lookup f = some ⟨oc, od, .func (PySem.W.fnOf name qual params body scope dV kV doc pm an cdv ct), osl⟩) (hcd : PySem.W.codeIn K cdv qual = true) (S : FnScope N ps scope)
    (len : ∀ vs H Q E, sp vs H Q E → vs.length = ps.length)
    (hbody : ∀ (A : Around) (outer : List Env) (s : Shared) (H : Hp) (vs : List V) (Q : VK) (E : XK), Room k (A.deeper (envOfC qual scope s.heap.objs.size f cdv)) → sp vs H Q E →
      ∃ t, PSs (cxOf CX P w K mg base N qual scope f cdv A outer s H E) body t ∧ t { nx := fun _ H' => Q .non H', rt := Q } (start N vs) H) :
    FnOk P w K mg base CX (k + 1) f (PySem.W.fnOf name qual params body scope dV kV doc pm an cdv ct) ps sp := by
  refine ⟨len, fun A outer s H args us vs Q E hr e0 hb r hsp => ?_⟩
  have hl := len _ _ _ _ hsp
  have KX : K.In s.heap := e0.mod.kin.keeps fun b o e => (e0.bs b o e).1
  have lim : s.heap.NoLimit := e0.mod.nolimit.keeps fun b o e => (e0.bs b o e).1
  have hkind : ∀ y ∈ ps.zip us, scope.names.lookup y.1 = some .local ∨ (scope.names.lookup y.1 = some .cell ∧ ((cellsFrom (s.heap.objs.size + 1) scope.names []).lookup y.1).isSome = true) := fun ⟨n, v⟩ hy => by
    rcases S.par n (List.of_mem_zip hy).1 with q | q
    · exact .inl q
    · exact .inr ⟨q, PySem.W.cellsFrom_some _ _ _ (.inl q)⟩
  refine codeAny_call_function hr.depth (KX _ _ lk) rfl S.co S.gen rfl (PySem.W.codeRec_of KX hcd) (hb _ _ _ _ ?_)
  refine wpAny_newFunctionEnv_cells S.kind hkind fun env he s1 x => ?_
  subst he
  refine ⟨lim.keeps x.toInCall.keep, codeAny_func ?_⟩
  obtain ⟨t, ht, hq⟩ := hbody A outer s H vs Q E (hr.deeper _) hsp
  have I : Inv (cxOf CX P w K mg base N qual scope f cdv A outer s H E) [] (start N vs) H s1 := inv_start S hr.hd e0 hl r x
  refine wpAny_mono (ht [] s1 (start N vs) H _ I hq) (fun fl s' hs => ?_) fun e s' hs => hs
  have fin : ∀ {σ' : St} {H' : Hp} {v : V} {u : Value}, Inv (cxOf CX P w K mg base N qual scope f cdv A outer s H E) [] σ' H' s' → RelV v u → Q v H' → CE outer P w H s Q u s' :=
    fun {σ' H' v u} J rv q => ⟨v, H', J.os, J.bare, J.base, J.hok, rv, q⟩
  cases fl with
  | ret u =>
    obtain ⟨v, σ', H', J, rv, q⟩ := hs
    exact fin J rv q
  | next =>
    obtain ⟨σ', H', J, q⟩ := hs
    exact fin (v := V.non) (u := Value.none) J rfl q
  | brk =>
    obtain ⟨_, _, _, q⟩ := hs
    exact False.elim q
  | cont =>
    obtain ⟨_, _, _, q⟩ := hs
    exact False.elim q
end L2

namespace L2
open PySem PySem.Spec PyProof.Rows
section
variable {X : Cx} {x : Str} {p pos : Pos} {e : Expr} {es : List Expr} {t : TA} {id T : String} {r : List V → Hp → VK → Prop}

def tCB (r : List V → Hp → VK → Prop) (t : TA) : TE := fun σ H Q => t σ H fun vs H1 => r vs H1 Q
/-- f(e, ..), f a built-in function -/
theorem pe_callB (hc : CallR X (.builtin id) r) (hg : Gl X x) (hm : X.mg x = none) (hv : bootBuiltins x = some (.builtin id)) (ha : PA X (e :: es) t) (hn : x ≠ "__name__" := by decide) (hdb : (x == ("__debug__" : Str)) = false := by decide)
    (he : starEach (e :: es) X.env = (false, eval e X.env) :: starEach es X.env := by rfl) (hpl : (backTo pos (starEach es X.env)).any (·.1) = false := by rfl) : PE X (.Call (.Name x p) (e :: es) [] pos) (tCB r t) := by
  intro pins s σ H Q I h
  refine wpAny_Call_Name_kw (ld_blt I hg hm hv ?_ hn hdb)
  exact PyProof.Rows.callWith_builtin1 (thn (ha pos pins s σ H _ I h) fun us s1 ⟨vs, H1, I1, r1, q1⟩ => hc pins s1 σ H1 vs us Q I1 r1 q1) he hpl
/-- T(e, ..), T a built-in type -/
theorem pe_callTy (hc : CallR X (.type T) r) (hg : Gl X x) (hm : X.mg x = none) (hv : bootBuiltins x = some (.type T)) (ha : PA X (e :: es) t) (hn : x ≠ "__name__" := by decide) (hdb : (x == ("__debug__" : Str)) = false := by decide)
    (he : starEach (e :: es) X.env = (false, eval e X.env) :: starEach es X.env := by rfl) (hpl : (backTo pos (starEach es X.env)).any (·.1) = false := by rfl) : PE X (.Call (.Name x p) (e :: es) [] pos) (tCB r t) := by
  intro pins s σ H Q I h
  refine wpAny_Call_Name_kw (ld_blt I hg hm hv ?_ hn hdb)
  exact PyProof.Rows.callWith_type1 (thn (ha pos pins s σ H _ I h) fun us s1 ⟨vs, H1, I1, r1, q1⟩ => hc pins s1 σ H1 vs us Q I1 r1 q1) he hpl
end
end L2

namespace HT
open PySem PyProof.Rows



section
open PySem.SeqAt
open PySem.AutoSeq1 (wpAny_loadPart')
open PySem.MeetsSeq PySem.MeetsSeq2 PySem.MeetsSeq3

end

section
variable {prog : Program} {w : World} {A : Around} {E : Value → Shared → Prop} {s : Shared}



/-! ### t[a:b], not the whole -/

end
end HT

namespace L2
open PySem PySem.Spec PyProof.Rows

/-! ### the parts of a slice -/
abbrev TO := St → Hp → (Option Int → Hp → Prop) → Prop


section
variable {X : Cx} {e : Expr} {te : TE} {lo hi : Option Expr} {tl th : TO} {pos p2 : Pos}


/-- what a slice of a value is, by values: the slice object stands at sl -/
def SlR (X : Cx) (r : V → Option Int → Option Int → Hp → VK → Prop) : Prop :=
  ∀ (pins : List (Addr × Obj)) (s : Shared) (σ : St) (H : Hp) (x : V) (v vl vu : Value) (lo hi : Option Int) (sl : Addr) (Q : VK), Inv X pins σ H s → RelV x v → s.heap.IsSliceOf sl vl vu .none → IsPart vl lo → IsPart vu hi → r x lo hi H Q →
    ∃ T id, typeLookup (.type T) "__getitem__" = pure (some (.builtin id)) ∧ s.TypeIs v T ∧ wpAny (model X.prog X.w) X.A (getItem v (.ref sl)) (EP X pins σ Q) X.xe s
theorem SlR.or {r r' : V → Option Int → Option Int → Hp → VK → Prop} (h : SlR X r) (h' : SlR X r') : SlR X (fun x lo hi H Q => r x lo hi H Q ∨ r' x lo hi H Q) := by
  intro pins s σ H x v vl vu lo hi sl Q I rx hs pl pu q
  rcases q with q | q
  · exact h pins s σ H x v vl vu lo hi sl Q I rx hs pl pu q
  · exact h' pins s σ H x v vl vu lo hi sl Q I rx hs pl pu q


/-! ### t < u, t + u -/
end
end L2

namespace L2
open PySem PySem.Spec PyProof.Rows

/-! ### places -/
/-- the place that an index of any sign means -/
def ixN (n : Nat) (i : Int) : Option Nat := if 0 ≤ i then (if i < n then some i.toNat else none) else if -(n : Int) ≤ i then some (i + n).toNat else none
def atI {α : Type} (xs : List α) (i : Int) : Option α := (ixN xs.length i).bind fun j => xs[j]?
theorem ixN_seq {n : Nat} {i : Int} {j : Nat} (h : ixN n i = some j) : seqIndex? i n = some j ∧ j < n ∧ -(n : Int) ≤ i ∧ i < n := by
  unfold ixN at h
  by_cases h0 : 0 ≤ i
  · rw [if_pos h0] at h
    by_cases h1 : i < n
    · rw [if_pos h1] at h
      have e : i.toNat = j := Option.some.inj h
      exact ⟨by rw [seqIndex_of h0 h1, e], by omega, by omega, h1⟩
    · rw [if_neg h1] at h; cases h
  · rw [if_neg h0] at h
    by_cases h1 : -(n : Int) ≤ i
    · rw [if_pos h1] at h
      have e : (i + n).toNat = j := Option.some.inj h
      exact ⟨by rw [seqIndex_neg (by omega) h1, e], by omega, h1, by omega⟩
    · rw [if_neg h1] at h; cases h
theorem atI_get {α : Type} {xs : List α} {i : Int} {v : α} (h : atI xs i = some v) : ∃ j, seqIndex? i xs.length = some j ∧ xs[j]? = some v ∧ j < xs.length ∧ -(xs.length : Int) ≤ i ∧ i < xs.length := by
  unfold atI at h
  cases e : ixN xs.length i with
  | none => rw [e] at h; cases h
  | some j =>
    rw [e] at h
    obtain ⟨h1, h2, h3, h4⟩ := ixN_seq e
    exact ⟨j, h1, h, h2, h3, h4⟩
theorem atI_nat {α : Type} {xs : List α} {j : Nat} {v : α} (h : xs[j]? = some v) : atI xs (j : Int) = some v := by
  have hj : j < xs.length := (List.getElem?_eq_some_iff.mp h).1
  have e : ixN xs.length (j : Int) = some j := by
    unfold ixN
    rw [if_pos (by omega), if_pos (by omega)]; simp
  unfold atI; rw [e]; exact h

/-! ### what may be subscripted -/
/-- what stands as an index of a plain subscript -/
def PlainIx (b : Expr) : Prop := ∀ o i, subscripted b false o i = operate [o, i] (getItem o i)
/-- a subscript by values -/
def IxR (X : Cx) (r : R2) : Prop :=
  ∀ (value slice : Expr) (pins : List (Addr × Obj)) (s : Shared) (σ : St) (H : Hp) (x y : V) (v u : Value) (Q : VK), Inv X pins σ H s → RelV x v → RelV y u → r x y H Q →
    subscripted slice false v u = operate [v, u] (getItem v u) → wpAny (model X.prog X.w) X.A (subscriptTail value slice v u) (EP X pins σ Q) X.xe s
/-- a call of a builtin's method by values: the receiver, the arguments -/
def MtR (X : Cx) (id : String) (r : V → List V → Hp → VK → Prop) : Prop :=
  ∀ (pins : List (Addr × Obj)) (s : Shared) (σ : St) (H : Hp) (x : V) (xs : List V) (v : Value) (us : List Value) (Q : VK), Inv X pins σ H s → RelV x v → Vals xs us → r x xs H Q →
    wpAny (model X.prog X.w) X.A (call (.builtin id) (v :: us)) (EP X pins σ Q) X.xe s
section
variable {X : Cx} {a b : Expr} {ta tb : TE} {pos : Pos}
theorem IxR.or {r r' : R2} (h : IxR X r) (h' : IxR X r') : IxR X (fun x y H Q => r x y H Q ∨ r' x y H Q) := by
  intro value slice pins s σ H x y v u Q I rx ry q hs
  rcases q with q | q
  · exact h value slice pins s σ H x y v u Q I rx ry q hs
  · exact h' value slice pins s σ H x y v u Q I rx ry q hs
theorem MtR.or {id : String} {r r' : V → List V → Hp → VK → Prop} (h : MtR X id r) (h' : MtR X id r') : MtR X id (fun x xs H Q => r x xs H Q ∨ r' x xs H Q) := by
  intro pins s σ H x xs v us Q I rx rs q
  rcases q with q | q
  · exact h pins s σ H x xs v us Q I rx rs q
  · exact h' pins s σ H x xs v us Q I rx rs q
/-- a[b] -/
theorem pe_ix {r : R2} (hr : IxR X r) (ha : PE X a ta) (hb : PE X b tb) (hs : PlainIx b) : PE X (.Subscript a b pos) (tOp r ta tb) := by
  intro pins s σ H Q I h
  exact Subscript_ (binT ha hb I h fun v u s2 x y H2 I2 rx ry q => hr a b pins s2 σ H2 x y v u Q I2 rx ry q (hs _ _))

def rIxL (K : PySem.W.Frag) : R2 := fun x y H Q => ∃ p xs i v, x = .ref p ∧ y = .int i ∧ SqL K H p xs ∧ atI xs i = some v ∧ Q v H
def rIxT (K : PySem.W.Frag) : R2 := fun x y H Q => ∃ p xs i v, x = .ref p ∧ y = .int i ∧ SqT K H p xs ∧ atI xs i = some v ∧ Q v H
theorem ix_list : IxR X (rIxL X.K) := by
  intro value slice pins s σ H x y v u Q I rx ry h hs
  obtain ⟨p, xs, i, z, rfl, rfl, hq, he, q⟩ := h
  cases rx
  obtain ⟨t, rfl⟩ := ry
  obtain ⟨its, r, pl, hz⟩ := I.list hq
  obtain ⟨j, h1, h2, h3, h4, h5⟩ := atI_get he
  obtain ⟨w, ew, rw'⟩ := r.get h2
  have hl := r.length
  have hn := line63
  have fin : EP X pins σ Q w s := ⟨z, H, I, rw', q⟩
  by_cases h0 : 0 ≤ i
  · have hj : i.toNat = j := by
      rw [seqIndex_of h0 h5] at h1
      exact Option.some.inj h1
    exact item_listR pl.isList h0 (by omega) (by rw [hj]; simpa using ew) fin hs
  · have hj : (i + (its.toArray.size : Int)).toNat = j := by
      rw [seqIndex_neg (by omega) h4] at h1
      rw [List.size_toArray, ← hl]
      exact Option.some.inj h1
    exact subscriptTail_builtinR (x := w) pl.isList.typeIs slot_list_getitem.lookup
      (wpAny_getItem_list_neg (Q := fun r s' => r = w ∧ EP X pins σ Q r s') pl.isList (by omega) (by rw [List.size_toArray] <;> omega) (by omega) (by rw [hj]; simpa using ew) ⟨rfl, fin⟩) hs
theorem ix_tup : IxR X (rIxT X.K) := by
  intro value slice pins s σ H x y v u Q I rx ry h hs
  obtain ⟨p, xs, i, z, rfl, rfl, hq, he, q⟩ := h
  cases rx
  obtain ⟨t, rfl⟩ := ry
  obtain ⟨its, r, pl, hz⟩ := I.tuple hq
  obtain ⟨j, h1, h2, h3, h4, h5⟩ := atI_get he
  obtain ⟨w, ew, rw'⟩ := r.get h2
  have hl := r.length
  have hn := line63
  have fin : EP X pins σ Q w s := ⟨z, H, I, rw', q⟩
  exact subscriptTail_builtinR (x := w) pl.typeIs slot_tuple_getitem.lookup
    (getItem_tuple (j := j) (Q := fun r s' => r = w ∧ EP X pins σ Q r s') pl (by omega) (by omega) (by rw [List.size_toArray, ← hl]; exact h1) (by simpa using ew) ⟨rfl, fin⟩) hs

/-! ### xs[i] = v, any sign -/
/-- the list's object behind a store -/
theorem mapSeq_set (its : List Value) (n j : Nat) (u : Value) : Obj.mapSeq (·.setIfInBounds j u) { cls := .type "list", data := .seq its.toArray n } = { cls := .type "list", data := .seq (its.set j u).toArray n } := by
  simp [Obj.mapSeq]
theorem Inv.lst {pins : List (Addr × Obj)} {σ : St} {H : Hp} {s : Shared} {p : Addr} {xs : List V} (I : Inv X pins σ H s) (h : H p = some (.lst xs)) :
    ∃ (its : List Value) (n : Nat), Vals xs its ∧ s.heap.get? p = some { cls := .type "list", data := .seq its.toArray n } ∧ xs.length ≤ sizeLine := by
  obtain ⟨z, its, n, r, e⟩ := I.hok p _ h
  exact ⟨its, n, r, e, z⟩
/-- the list at p is written by an update of its object -/
theorem Inv.lstUpd {pins : List (Addr × Obj)} {σ : St} {H : Hp} {s : Shared} {p : Addr} {xs ys : List V} {its its' : List Value} {n n' : Nat} {f : Obj → Obj} (I : Inv X pins σ H s) (h : H p = some (.lst xs))
    (ho : s.heap.get? p = some { cls := .type "list", data := .seq its.toArray n }) (hf : f { cls := .type "list", data := .seq its.toArray n } = { cls := .type "list", data := .seq its'.toArray n' }) (r : Vals ys its') (hz : ys.length ≤ sizeLine) (t : Nat) :
    Inv X pins σ (upd H p (.lst ys)) { s with heap := s.heap.update p f, toks := t } := by
  have e : (s.heap.update p f).get? p = some { cls := .type "list", data := .seq its'.toArray n' } := by
    rw [Heap.get?_update_self f ho (by rw [hf] <;> rfl), hf]
  refine I.write (x := p) (e := p) (by rw [h]; trivial) (.inl rfl) (fun b u hb q => (Heap.get?_update_other _ _ (Ne.symm hb)).trans q) ⟨_, e⟩ ?_
  exact ⟨hz, its', n', r, e⟩
def rSetL : V → V → V → Hp → (Hp → Prop) → Prop := fun o i v H Q => ∃ p xs k j, o = .ref p ∧ i = .int k ∧ H p = some (.lst xs) ∧ ixN xs.length k = some j ∧ Q (upd H p (.lst (xs.set j v)))
theorem set_list : PSet X rSetL := by
  intro pins s σ H o i v ov iv u Q I ro ri rv h
  obtain ⟨p, xs, k, j, rfl, rfl, hp, hj, q⟩ := h
  cases ro
  obtain ⟨t, rfl⟩ := ri
  obtain ⟨its, n, r, ho, hz⟩ := I.lst hp
  obtain ⟨h1, h2, h3, h4⟩ := ixN_seq hj
  have hl := r.length
  have hn := line63
  have I' : Inv X pins σ (upd H p (.lst (xs.set j v))) { s with heap := s.heap.update p (Obj.mapSeq (·.setIfInBounds j u)) } :=
    I.lstUpd hp ho (mapSeq_set its n j u) (r.set rv j) (by rw [List.length_set]; exact hz) s.toks
  by_cases h0 : 0 ≤ k
  · have hk : k.toNat = j := by
      rw [seqIndex_of h0 h4] at h1
      exact Option.some.inj h1
    exact PySem.W.ki_setAt ho h0 (by omega) (by rw [List.size_toArray, ← hl]; exact h4) (by rw [hk]; exact ⟨_, I', q⟩)
  · have hk : (k + (its.toArray.size : Int)).toNat = j := by
      rw [seqIndex_neg (by omega) h3] at h1
      rw [List.size_toArray, ← hl]
      exact Option.some.inj h1
    exact PySem.W.ki_setBack ho (by omega) (by rw [List.size_toArray, ← hl]; exact h3) (by omega) (by rw [hk]; exact ⟨_, I', q⟩)

/-! ### slices -/

/-! ### in, not in: flat items -/
def flatV : V → Bool
  | .non => true
  | .bl _ => true
  | .int _ => true
  | .str _ => true
  | _ => false
/-- == of flat values -/
def eqV : V → V → Bool
  | .non, .non => true
  | .bl a, .bl b => a == b
  | .bl a, .int b => (if a then 1 else 0) == b
  | .int a, .bl b => a == (if b then 1 else 0)
  | .int a, .int b => a == b
  | .str a, .str b => a == b
  | _, _ => false
theorem eqAt_V {A : Around} {s : Shared} {y x : V} {u v : Value} (ry : RelV y u) (rx : RelV x v) (fy : flatV y = true) (fx : flatV x = true) : SeqAt.EqAt A s u v (eqV y x) := by
  cases y with
  | non =>
    cases ry
    cases x with
    | non => cases rx; exact SeqAt.EqAt.same _
    | bl b => cases rx; exact SeqAt.EqAt.none_bool b
    | int b => obtain ⟨t, rfl⟩ := rx; exact SeqAt.EqAt.none_int b t
    | str b => obtain ⟨t, rfl⟩ := rx; exact SeqAt.EqAt.none_str b t
    | _ => exact absurd (show false = true from fx) Bool.false_ne_true
  | bl a =>
    cases ry
    cases x with
    | non => cases rx; exact SeqAt.EqAt.bool_none a
    | bl b => cases rx; exact SeqAt.EqAt.bool_bool a b
    | int b => obtain ⟨t, rfl⟩ := rx; exact SeqAt.EqAt.bool_int a b t
    | str b => obtain ⟨t, rfl⟩ := rx; exact SeqAt.EqAt.bool_str a b t
    | _ => exact absurd (show false = true from fx) Bool.false_ne_true
  | int a =>
    obtain ⟨t', rfl⟩ := ry
    cases x with
    | non => cases rx; exact SeqAt.EqAt.int_none a t'
    | bl b => cases rx; exact SeqAt.EqAt.int_bool a t' b
    | int b => obtain ⟨t, rfl⟩ := rx; exact SeqAt.EqAt.int_int a t' b t
    | str b => obtain ⟨t, rfl⟩ := rx; exact SeqAt.EqAt.int_str a t' b t
    | _ => exact absurd (show false = true from fx) Bool.false_ne_true
  | str a =>
    obtain ⟨t', rfl⟩ := ry
    cases x with
    | non => cases rx; exact SeqAt.EqAt.str_none a t'
    | bl b => cases rx; exact SeqAt.EqAt.str_bool a t' b
    | int b => obtain ⟨t, rfl⟩ := rx; exact SeqAt.EqAt.str_int a t' b t
    | str b => obtain ⟨t, rfl⟩ := rx; exact SeqAt.EqAt.str_str a t' b t
    | _ => exact absurd (show false = true from fx) Bool.false_ne_true
  | _ => exact absurd (show false = true from fy) Bool.false_ne_true
/-- the items' answers, read off the values (a value's own answer does not lean on its token) -/
def eqU (x : V) (u : Value) : Bool := match u with
  | .none => eqV .non x
  | .bool b => eqV (.bl b) x
  | .int i _ => eqV (.int i) x
  | .str z _ => eqV (.str z) x
  | _ => false
theorem eqU_of {x y : V} {u : Value} (r : RelV y u) (f : flatV y = true) : eqU x u = eqV y x := by
  cases y with
  | non => cases r; rfl
  | bl b => cases r; rfl
  | int i => obtain ⟨t, rfl⟩ := r; rfl
  | str z => obtain ⟨t, rfl⟩ := r; rfl
  | _ => exact absurd (show false = true from f) Bool.false_ne_true
theorem any_eqU {x : V} : ∀ {xs : List V} {us : List Value}, Vals xs us → xs.all flatV = true → us.any (eqU x) = xs.any fun y => eqV y x
  | _, _, .nil, _ => rfl
  | y :: xs, u :: us, .cons r t, f => by
    rw [List.all_cons, Bool.and_eq_true] at f
    rw [List.any_cons, List.any_cons, eqU_of r f.1, any_eqU t f.2]
theorem mem_eqAt {A : Around} {s : Shared} {x : V} {v : Value} (rx : RelV x v) (fx : flatV x = true) : ∀ {xs : List V} {us : List Value}, Vals xs us → xs.all flatV = true → ∀ u ∈ us, SeqAt.EqAt A s u v (eqU x u)
  | _, _, .nil, _ => fun u hu => by cases hu
  | y :: xs, u :: us, .cons r t, f => fun u' hu => by
    rw [List.all_cons, Bool.and_eq_true] at f
    rcases List.mem_cons.mp hu with rfl | hu
    · rw [eqU_of r f.1]; exact eqAt_V r rx f.1 fx
    · exact mem_eqAt rx fx t f.2 u' hu
def inV (x : V) (xs : List V) : Bool := xs.any fun y => eqV y x
/-- x in a list or tuple of flat items -/
def rIn (K : PySem.W.Frag) (neg : Bool) : R2 := fun x y H Q => ∃ p xs, y = .ref p ∧ (SqL K H p xs ∨ SqT K H p xs) ∧ flatV x = true ∧ xs.all flatV = true ∧ Q (.bl (if neg then !inV x xs else inV x xs)) H
theorem op_in_seq : OpR X (compareOp .In) (rIn X.K false) := by
  intro pins s σ H x y v u Q I rx ry h
  obtain ⟨p, xs, rfl, hq, fx, fs, q⟩ := h
  cases ry
  rcases hq with hq | hq
  · obtain ⟨its, r, pl, hz⟩ := I.list hq
    refine SeqAt.in_listAt (eqU x) pl.isList (fun w hw => mem_eqAt rx fx r fs w (by simpa using hw)) ⟨.bl _, H, I, rfl, ?_⟩
    rw [show its.toArray.any (eqU x) = its.any (eqU x) by simp, any_eqU r fs]
    exact q
  · obtain ⟨its, r, pl, hz⟩ := I.tuple hq
    refine SeqAt.in_tupleAt (eqU x) pl (fun w hw => mem_eqAt rx fx r fs w (by simpa using hw)) ⟨.bl _, H, I, rfl, ?_⟩
    rw [show its.toArray.any (eqU x) = its.any (eqU x) by simp, any_eqU r fs]
    exact q

/-! ### len, list(x), tuple(x) of any list or tuple that is read -/
theorem call_len_seq : CallR X (.builtin "len") (fun xs H Q => ∃ p ys, xs = [.ref p] ∧ (SqL X.K H p ys ∨ SqT X.K H p ys) ∧ Q (.int ys.length) H) := by
  intro pins s σ H xs us Q I r h
  obtain ⟨p, ys, rfl, hq, q⟩ := h
  obtain ⟨u, rfl, rx⟩ := vals1 r
  cases rx
  have hn := line63
  rcases hq with hq | hq
  · obtain ⟨its, r', pl, hz⟩ := I.list hq
    have hlen := r'.length
    exact Calls.call_len_list pl.isList (by simp only [List.size_toArray] <;> omega) ⟨.int ys.length, H, I.tok _, ⟨s.toks + 1, by rw [List.size_toArray, hlen]⟩, q⟩
  · obtain ⟨its, r', pl, hz⟩ := I.tuple hq
    have hlen := r'.length
    exact len_tuple pl (by simp only [List.size_toArray] <;> omega) ⟨.int ys.length, H, I.tok _, ⟨s.toks + 1, by rw [List.size_toArray, hlen]⟩, q⟩
theorem CallR.or {f : Value} {r r' : List V → Hp → VK → Prop} (h : CallR X f r) (h' : CallR X f r') : CallR X f (fun xs H Q => r xs H Q ∨ r' xs H Q) := by
  intro pins s σ H xs us Q I rs q
  rcases q with q | q
  · exact h pins s σ H xs us Q I rs q
  · exact h' pins s σ H xs us Q I rs q
theorem call_list_of : CallR X (.type "list") (fun xs H Q => ∃ p ys, xs = [.ref p] ∧ (SqL X.K H p ys ∨ SqT X.K H p ys) ∧ ∀ l, H l = none → Q (.ref l) (upd H l (.lst ys))) := by
  intro pins s σ H xs us Q I r h
  obtain ⟨p, ys, rfl, hq, q⟩ := h
  obtain ⟨u, rfl, rx⟩ := vals1 r
  cases rx
  have fin : ∀ (its : List Value), Vals ys its → ys.length ≤ sizeLine → ∀ (h' : Heap) (c' : Nat), (∀ b o', s.heap.get? b = some o' → h'.get? b = some o') →
      h'.get? s.heap.objs.size = some { cls := .type "list", dict := none, data := .seq its.toArray c', slots := #[] } → EP X pins σ Q (.ref s.heap.objs.size) { s with heap := h' } := fun its r' hz h' c' kp e =>
    ⟨.ref s.heap.objs.size, _, I.laid (t' := s.toks) kp (Nat.le_refl _) (show ObjOk X.prog X.w _ h' _ (.lst ys) from ⟨hz, its, c', r', e⟩), rfl, q _ (I.hok.fresh (Nat.le_refl _))⟩
  rcases hq with hq | hq
  · obtain ⟨its, r', pl, hz⟩ := I.list hq
    have hlen := r'.length
    obtain ⟨o, ho, hc, n, hd⟩ := pl.isList
    exact call_list_seq p (.inl rfl) ho hc hd (fun h' c' kp e => fin its r' hz h' c' kp e) (by simp only [List.size_toArray] <;> omega)
  · obtain ⟨its, r', pl, hz⟩ := I.tuple hq
    have hlen := r'.length
    obtain ⟨o, ho, hc, n, hd⟩ := pl
    exact call_list_seq p (.inr rfl) ho hc hd (fun h' c' kp e => fin its r' hz h' c' kp e) (by simp only [List.size_toArray] <;> omega)
theorem call_tuple_of : CallR X (.type "tuple") (fun xs H Q => ∃ p ys, xs = [.ref p] ∧ ((SqL X.K H p ys ∧ ∀ l, H l = none → Q (.ref l) (upd H l (.tup ys))) ∨ (SqT X.K H p ys ∧ Q (.ref p) H))) := by
  intro pins s σ H xs us Q I r h
  obtain ⟨p, ys, rfl, h⟩ := h
  obtain ⟨u, rfl, rx⟩ := vals1 r
  cases rx
  rcases h with ⟨hq, q⟩ | ⟨hq, q⟩
  · obtain ⟨its, r', pl, hz⟩ := I.list hq
    have hlen := r'.length
    refine call_tuple_list pl.isList (fun h' kp => ?_) (by simp only [List.size_toArray] <;> omega)
    have I1 : Inv X pins σ H { s with heap := h' } := I.kept (t' := s.toks) kp
    have I2 : Inv X pins σ (upd H h'.objs.size (.tup ys)) { s with heap := h'.push { cls := .type "tuple", data := .seq its.toArray } } :=
      I1.laid (t' := s.toks) (fun b o e => Heap.get?_push_of_some _ e) (Nat.le_refl _) (show ObjOk X.prog X.w _ _ _ (.tup ys) from ⟨hz, its, r', IsTup.new _ _⟩)
    exact ⟨.ref h'.objs.size, _, I2, rfl, q _ (I1.hok.fresh (Nat.le_refl _))⟩
  · obtain ⟨its, r', pl, hz⟩ := I.tuple hq
    exact call_tuple_same pl ⟨.ref p, H, I, rfl, q⟩

/-! ### the call of a builtin's method: o.m(..) -/
/-- the value is of that builtin type -/
def tyV (K : PySem.W.Frag) (T : String) (x : V) (H : Hp) : Prop := match x with
  | .str _ => T = "str"
  | .int _ => T = "int"
  | .ref p => (T = "list" ∧ ∃ xs, SqL K H p xs) ∨ (T = "tuple" ∧ ∃ o, K.lookup p = some o ∧ o.cls = .type "tuple" ∧ o.dict = none) ∨
      (T = "dict" ∧ ((∃ kvs, H p = some (.dK kvs)) ∨ ∃ kvs, H p = some (.dT kvs))) ∨ (T = "set" ∧ ∃ S n, H p = some (.set S n))
  | _ => False
theorem tyV_is {pins : List (Addr × Obj)} {σ : St} {H : Hp} {s : Shared} {T : String} {x : V} {v : Value} (I : Inv X pins σ H s) (r : RelV x v) (ty : tyV X.K T x H) :
    s.TypeIs v T ∧ ∀ a, v = .ref a → ∃ ob, s.heap.get? a = some ob ∧ ob.dict = none := by
  cases x with
  | str z =>
    obtain ⟨t, rfl⟩ := r
    cases (show T = "str" from ty)
    exact ⟨typeIs_str s z t, fun _ e => nomatch e⟩
  | int i =>
    obtain ⟨t, rfl⟩ := r
    cases (show T = "int" from ty)
    exact ⟨typeIs_int s i t, fun _ e => nomatch e⟩
  | ref p =>
    cases r
    rcases ty with ⟨rfl, xs, hq⟩ | ⟨rfl, o, hk, hc, hd⟩ | ⟨rfl, hk⟩ | ⟨rfl, S, n, hk⟩
    · obtain ⟨its, _, pl, _⟩ := I.list hq
      refine ⟨pl.isList.typeIs, fun a e => ?_⟩
      cases e
      obtain ⟨o, n, e, c, hd, _⟩ := pl
      exact ⟨o, e, hd⟩
    · refine ⟨⟨o, I.kIn p o hk, hc⟩, fun a e => ?_⟩
      cases e
      exact ⟨o, I.kIn _ o hk, hd⟩
    · have z : ∃ o, s.heap.get? p = some o ∧ o.ExactDict := by
        rcases hk with ⟨kvs, hk⟩ | ⟨kvs, hk⟩
        · obtain ⟨_, _, _, _, o, _, _, e, ex, _⟩ := I.hok p _ hk
          exact ⟨o, e, ex⟩
        · obtain ⟨_, _, _, _, o, _, _, e, ex, _⟩ := I.hok p _ hk
          exact ⟨o, e, ex⟩
      obtain ⟨o, e, ex⟩ := z
      refine ⟨⟨o, e, ex.1⟩, fun a e2 => ?_⟩
      cases e2
      exact ⟨o, e, ex.2.1⟩
    · obtain ⟨o, _, _, _, e, ex, _⟩ := I.hok p _ hk
      refine ⟨⟨o, e, ex.1⟩, fun a e2 => ?_⟩
      cases e2
      exact ⟨o, e, ex.2.1⟩
  | _ => exact False.elim ty
def tBM (K : PySem.W.Frag) (T : String) (r : V → List V → Hp → VK → Prop) (to : TE) (t : TA) : TE := fun σ H Q => to σ H fun x H1 => tyV K T x H1 ∧ t σ H1 fun xs H2 => r x xs H2 Q
variable {o e : Expr} {es : List Expr} {to : TE} {t : TA} {name : Str} {apos cpos : Pos} {T id : String} {r : V → List V → Hp → VK → Prop}
theorem pe_bm (pa : PlainAttrs T) (slot : Slot T name id) (hty : typeOf (.builtin id) = pure (.type "method_descriptor")) (hm : MtR X id r) (ho : PE X o to) (ha : PA X (e :: es) t)
    (hbase : attributeBase o name X.env (eval o X.env) = eval o X.env := by rfl)
    (hfew : ((backTo cpos (starEach (e :: es) X.env)).all (fun x => !x.1) && (backToKw cpos (keywordEach [] X.env)).all (fun x => x.1.isSome)
      && decide ((e :: es).length + ([] : List Keyword).length + (if ([] : List Keyword).isEmpty then 0 else 1) < 30)) = true := by rfl)
    (hline : (apos.endLine == cpos.line) = true := by rfl) (hs : starEach (e :: es) X.env = (false, eval e X.env) :: starEach es X.env := by rfl) (hplain : (backTo cpos (starEach es X.env)).any (·.1) = false := by rfl) :
    PE X (.Call (.Attribute o name apos) (e :: es) [] cpos) (tBM X.K T r to t) := by
  intro pins s σ H Q I h
  refine wpAny_Call_method_late hbase hfew hline rfl (thn (ho pins s σ H _ I h) fun v s1 ⟨x, H1, I1, r1, ty, q1⟩ => ?_)
  obtain ⟨h1, h2⟩ := tyV_is I1 r1 ty
  refine ⟨T, id, pa, slot, hty, h1, h2, ?_⟩
  have hA := ha cpos pins s1 σ H1 _ I1 q1
  rw [hs] at hA ⊢
  refine Calls.callWith_builtin (by show (false || (backTo cpos (starEach es X.env)).any (·.1)) = false; rw [hplain] <;> rfl) (Calls.evalArgs_plain ?_)
  exact thn hA fun us s2 ⟨vs, H2, I2, r2, q2⟩ => hm pins s2 σ H2 x vs v us Q I2 r1 r2 q2
/- xs.append(e), list.index on a module's tuple .. are MtR facts of 06m -/
end
end L2

namespace L2
open PySem PySem.Spec PyProof.Rows

def MtM (X : Cx) (id : String) (r : V → List V → Hp → VK → Prop) : Prop :=
  ∀ (pins : List (Addr × Obj)) (s : Shared) (σ : St) (H : Hp) (x : V) (xs : List V) (v : Value) (us : List Value) (Q : VK), Inv X pins σ H s → RelV x v → Vals xs us → r x xs H Q →
    wpAny (model X.prog X.w) X.A (call (.builtin id) (v :: us)) (EP X pins σ Q) X.xe s

/-! ### lists of values -/
theorem Vals.one : ∀ {x : V} {us : List Value}, Vals [x] us → ∃ u, us = [u] ∧ RelV x u
  | _, _, .cons r .nil => ⟨_, rfl, r⟩
theorem Vals.two : ∀ {x y : V} {us : List Value}, Vals [x, y] us → ∃ u v, us = [u, v] ∧ RelV x u ∧ RelV y v
  | _, _, _, .cons r (.cons q .nil) => ⟨_, _, rfl, r, q⟩
theorem Vals.zero : ∀ {us : List Value}, Vals [] us → us = []
  | _, .nil => rfl
theorem Vals.reverse {xs : List V} {us : List Value} (h : Vals xs us) : Vals xs.reverse us.reverse := by
  induction h with
  | nil => exact .nil
  | cons r t ih => rw [List.reverse_cons, List.reverse_cons]; exact Vals.append ih (.cons r .nil)
theorem Vals.rep {xs : List V} {us : List Value} (h : Vals xs us) : ∀ k : Nat, Vals (List.replicate k xs).flatten (List.replicate k us).flatten
  | 0 => .nil
  | k + 1 => by
    rw [List.replicate_succ, List.replicate_succ, List.flatten_cons, List.flatten_cons]
    exact Vals.append h (Vals.rep h k)
theorem foldl_rep (its : List Value) : ∀ (k : Nat) (acc : List Value),
    List.foldl (fun x1 x2 => x1 ++ x2) acc.toArray (List.replicate k its.toArray) = (acc ++ (List.replicate k its).flatten).toArray
  | 0, acc => by simp
  | k + 1, acc => by
    have e : acc.toArray ++ its.toArray = (acc ++ its).toArray := by simp
    have e2 : (acc ++ its) ++ (List.replicate k its).flatten = acc ++ (List.replicate (k + 1) its).flatten := by
      rw [List.replicate_succ, List.flatten_cons, List.append_assoc]
    rw [← e2, ← foldl_rep its k (acc ++ its), ← e, List.replicate_succ, List.foldl_cons]

section
variable {X : Cx} {pins : List (Addr × Obj)} {σ : St} {H : Hp} {s : Shared} {l b : Addr} {xs ys zs : List V}

/-! ### the two steps: a tracked list is rewritten, a new list is laid -/
theorem Inv.lset {its its' : List Value} {n : Nat} {f : Array Value → Array Value} {t' : Nat} (I : Inv X pins σ H s) (hH : H l = some (.lst xs))
    (e : s.heap.get? l = some { cls := .type "list", data := .seq its.toArray n }) (hf : f its.toArray = its'.toArray) (hv : Vals ys its') (hz : ys.length ≤ sizeLine) :
    Inv X pins σ (upd H l (.lst ys)) { s with heap := s.heap.update l (Obj.mapSeq f), toks := t' } := by
  have q := PySem.IsL.update e f
  rw [hf] at q
  refine I.write (x := l) (e := l) (by rw [hH]; exact trivial) (.inl rfl) (fun b' u hb hu => (Heap.get?_update_other s.heap (Obj.mapSeq f) (Ne.symm hb)).trans hu) ⟨_, q⟩ ?_
  exact ⟨hz, its', _, hv, q⟩
theorem Inv.lnew {its : List Value} {t' : Nat} (I : Inv X pins σ H s) (hv : Vals ys its) (hz : ys.length ≤ sizeLine) :
    Inv X pins σ (upd H s.heap.objs.size (.lst ys)) { s with heap := s.heap.push { cls := .type "list", data := .seq its.toArray }, toks := t' } :=
  I.laid (fun _ _ q => Heap.get?_push_of_some _ q) (Nat.le_refl _) ⟨hz, its, 0, hv, Heap.get?_push_size _ rfl⟩
theorem Inv.fresh (I : Inv X pins σ H s) : H s.heap.objs.size = none := I.hok.fresh (Nat.le_refl _)
theorem Inv.lstM (I : Inv X pins σ H s) (hH : H l = some (.lst xs)) : xs.length ≤ sizeLine ∧ ∃ (its : List Value) (n : Nat), Vals xs its ∧ xs.length = its.length ∧ s.heap.get? l = some { cls := .type "list", data := .seq its.toArray n } := by
  obtain ⟨z, its, n, r, e⟩ := I.hok l _ hH
  exact ⟨z, its, n, r, r.length, e⟩

theorem notLongL {n : Nat} (h : n ≤ sizeLine) : Builtin.List.listTooLong n = false := by
  unfold Builtin.List.listTooLong
  exact decide_eq_false (by omega)
end

section
variable {X : Cx}

/-! ### methods -/
def rAppend : V → List V → Hp → VK → Prop := fun x vs H Q => ∃ l xs y, x = .ref l ∧ vs = [y] ∧ H l = some (.lst xs) ∧ xs.length < sizeLine ∧ Q .non (upd H l (.lst (xs ++ [y])))
theorem mt_append : MtM X "list.append" rAppend := by
  intro pins s σ H x vs v us Q I rx rv h
  obtain ⟨l, xs, y, rfl, rfl, hH, hz, q⟩ := h
  cases rx
  obtain ⟨u, rfl, ru⟩ := rv.one
  obtain ⟨z, its, n, r, hl, e⟩ := I.lstM hH
  refine call_meets F.slot_list_append ⟨_, e, rfl⟩ F.entry_list_append (F.args_list_append_2 _ _) (PySem.list_append l its.toArray n u (by rw [List.size_toArray]; omega)) ⟨e, ?_⟩
  refine ⟨.non, _, I.lset (its' := its ++ [u]) hH e (by simp) (r.append (.cons ru .nil)) ?_, rfl, q⟩
  rw [List.length_append, List.length_singleton]
  omega

def rExtend : V → List V → Hp → VK → Prop := fun x vs H Q => ∃ l b xs zs, x = .ref l ∧ vs = [.ref b] ∧ H l = some (.lst xs) ∧ H b = some (.lst zs) ∧ xs.length + zs.length ≤ sizeLine ∧ Q .non (upd H l (.lst (xs ++ zs)))
theorem mt_extend : MtM X "list.extend" rExtend := by
  intro pins s σ H x vs v us Q I rx rv h
  obtain ⟨l, b, xs, zs, rfl, rfl, hH, hB, hz, q⟩ := h
  cases rx
  obtain ⟨u, rfl, ru⟩ := rv.one
  cases ru
  obtain ⟨z, its, n, r, hl, e⟩ := I.lstM hH
  obtain ⟨z2, its2, n2, r2, hl2, e2⟩ := I.lstM hB
  have hsz : its.toArray.size + its2.toArray.size ≤ sizeLine := by rw [List.size_toArray, List.size_toArray]; omega
  have hlong : ¬ (!its.toArray.isEmpty && Builtin.List.listTooLong (its.toArray.size + its2.toArray.size)) = true := by
    rw [notLongL hsz, Bool.and_false]
    exact Bool.false_ne_true
  refine call_meets F.slot_list_extend ⟨_, e, rfl⟩ F.entry_list_extend (F.args_list_extend_2 _ _)
    (AutoSeq1.list_extend_list_list_0 l its.toArray n b its2.toArray n2 hlong (by rw [List.size_toArray]; omega) (by omega)) ⟨e, e2, ?_⟩
  refine ⟨.non, _, I.lset (its' := its ++ its2) hH e (by simp) (r.append r2) ?_, rfl, q⟩
  rw [List.length_append]
  omega





/-! ### list + list, list += list, list * int -/
/-- a list times an int (a negative one is nothing) -/
def rRep : R2 := fun x y H Q => ∃ l k xs, x = .ref l ∧ y = .int k ∧ H l = some (.lst xs) ∧ -(2 ^ 63) ≤ k ∧ k < 2 ^ 63 ∧ xs.length * k.toNat ≤ sizeLine ∧
  ∀ p, H p = none → Q (.ref p) (upd H p (.lst (List.replicate k.toNat xs).flatten))
theorem len_rep {α : Type} (xs : List α) (k : Nat) : (List.replicate k xs).flatten.length = k * xs.length := by
  induction k with
  | zero => simp
  | succ k ih => rw [List.replicate_succ, List.flatten_cons, List.length_append, ih, Nat.succ_mul, Nat.add_comm]
theorem op_rep : OpR X (binaryOp .Mult) rRep := by
  intro pins s σ H x y v u Q I rx ry h
  obtain ⟨l, k, xs, rfl, rfl, hH, h1, h2, hz, q⟩ := h
  cases rx
  obtain ⟨t, rfl⟩ := ry
  obtain ⟨z, its, n, r, hl, e⟩ := I.lstM hH
  have hlen : its.toArray.size * k.toNat ≤ sizeLine := by rw [List.size_toArray, ← hl]; exact hz
  have hcap : ¬ its.toArray.size * k.toNat > (2 ^ 63 - 1) / 8 := by
    have : (sizeLine : Nat) ≤ (2 ^ 63 - 1) / 8 := by decide
    omega
  have hfit : ¬ (!Builtin.List.listFitsIndex k) = true := by
    rw [fitsIndex_both h1 h2]
    exact Bool.false_ne_true
  have hlong : ¬ Builtin.List.listTooLong (its.toArray.size * k.toNat) = true := by
    rw [notLongL hlen]
    exact Bool.false_ne_true
  have hnew : List.foldl (fun x1 x2 => x1 ++ x2) #[] (List.replicate (if its.toArray.isEmpty = true then 0 else k.toNat) its.toArray) = (List.replicate k.toNat its).flatten.toArray := by
    have f0 : ∀ m : Nat, List.foldl (fun x1 x2 => x1 ++ x2) #[] (List.replicate m its.toArray) = (List.replicate m its).flatten.toArray := fun m => by
      have := foldl_rep its m []
      rw [List.nil_append] at this
      exact this
    rw [f0]
    cases its with
    | nil => simp
    | cons a r' => rw [if_neg (by simp)]
  refine wpAny_binaryOp_repeat_ref (T := "list") (U := "int") (by decide) ⟨_, e, rfl⟩ (fun s' => typeIs_int s' k t) noFill_list_mul F.fills_int_mul F.slot_int_rmul repeat_list F.slot_int_index.lookup
    (call_meets F.slot_int_rmul (typeIs_int s k t) F.entry_int_rmul (F.args_int_rmul_2 _ _) (int___rmul___int_list k t l its.toArray n)
      ⟨e, rfl, ⟨_, e, rfl⟩, call_meets F.slot_list_mul ⟨_, e, rfl⟩ F.entry_list_mul (F.args_list_mul_2 _ _) (AutoListH.list___mul___list_int_3 l its.toArray n k t hfit hcap hlong) ⟨e, ?_⟩⟩)
  rw [hnew]
  exact ⟨.ref _, _, I.lnew (t' := s.toks) (r.rep k.toNat) (by rw [len_rep, Nat.mul_comm]; exact hz), rfl, q _ I.fresh⟩

/-! ### del xs[i] -/
end

/-! ### xs[a:b] = ys -/
section
variable {prog : Program} {w : World} {A : Around} {E : Value → Shared → Prop} {s : Shared}
end

section
variable {X : Cx}
end
end L2

namespace Att
open PySem PySem.W PySem.Calls PyProof.Rows

/-! ### the script -/
theorem ints_of_wellAll {P : Params} {h : Heap} : ∀ (ns : List Int) (vs : List Value), WellAll P h vs (ns.map WData.int) → IntsAre vs ns := by
  intro ns
  induction ns with
  | nil =>
    intro vs w
    rw [List.map_nil] at w
    cases w
    exact .nil
  | cons n ns ih =>
    intro vs w
    rw [List.map_cons] at w
    cases w with
    | cons a b =>
      cases a
      exact .cons _ _ (ih _ b)

theorem script_of {l : OpenLaw} {n : Nat} (hn : l.most = some n) {P : Params} {h : Heap} {args : List WData} {vals : List Value}
    (hpre : l.row.toRowW.claim.pre args = true) (hwl : WellAll P h vals args) :
    ∃ a vs ns, vals = [Value.ref a] ∧ args = [WData.list (ns.map WData.int)] ∧ h.get? a = some { cls := .type "list", data := .seq vs.toArray } ∧ IntsAre vs ns ∧ ns.length ≤ n := by
  have hsh : WShape.hasAll [] args [.list .int] = true := (pre_splitW hpre).1
  have hc : l.pre.holds [] { args := args } = true := (pre_splitW hpre).2
  obtain ⟨d, r, rfl, h1, h2⟩ := hasAllW_cons hsh
  obtain rfl := hasAllW_nil h2
  obtain ⟨xs, rfl, h3⟩ := hasW_list h1
  obtain ⟨ns, rfl⟩ := items_int h3
  have hlen : ns.length ≤ n := by
    unfold OpenLaw.pre at hc
    have h4 : (WTm.not (.lt (.lit (.int (n : Int))) (.len (.arg 0)))).holds [] { args := [.list (ns.map .int)] } = true := by
      have h4 := (holds_andW hc).1
      rw [hn] at h4
      exact h4
    have h5 := condW_of h4 (w_not (w_lt w_lit (w_len_list (w_arg rfl))))
    rw [List.length_map] at h5
    refine Nat.le_of_not_lt fun q => ?_
    have q' : (n : Int) < ((ns.length : Nat) : Int) := by omega
    first
      | (rw [decide_eq_true q'] at h5; exact absurd h5 (by decide))
      | (simp at h5; omega)
  cases hwl with
  | cons w1 w2 =>
    cases w2
    cases w1 with
    | list ho hall => exact ⟨_, _, ns, rfl, rfl, ho, ints_of_wellAll ns _ hall, hlen⟩

theorem post_true (l : OpenLaw) (args : List WData) : l.row.toRowW.claim.post args (.bool true) args = true :=
  postW_of (r := l.row.toRowW) (X := (true == true))
    (show WShape.has [] (.bool true) .bool = true by first | rfl | decide | simp [WShape.has, WShape.arms, WShape.armsAll])
    (show (WTm.eq .res (.lit (.bool true))).value [] { args := args, res := some (.bool true), after := args } = some (.bool (true == true)) from w_eq_bool (w_res rfl) w_lit) rfl

/-! ### the attachment: holds_open's last premise (the goal 'hc' behind k_head) from a wpAny of the law's body -/

/-- the same from a codeAny of the CALL (for a layer whose function contracts speak of calls) -/
theorem attach_call {l : OpenLaw} {n : Nat} {q : Program} {loose : List Str} {XP : (Str → Option Value) → Heap → Prop} {YP : World → Heap → Prop} {d : DefRec}
    (hn : l.most = some n) (hdf : d.params.defaults = [])
    (call : ∀ (w : World) (s₀ s₁ : Shared) (mg mb : Str → Option Value) (fa : Addr) (o : Obj) (pm cd doc : Value) (a : Addr) (vs : List Value) (ns : List Int),
      Ground q loose [] XP w s₀ mg mb s₁.heap → YP w s₁.heap →
      s₁.heap.get? fa = some o → o.data = .func (docDef d.name d.params d.body d.scope pm cd doc) → s₁.heap.CodeRec cd d.name → mg d.name = some (.ref fa) →
      s₁.heap.get? a = some { cls := .type "list", data := .seq vs.toArray } → IntsAre vs ns → ns.length ≤ n → s₁.gens = #[] →
      codeAny (model l.prog w) callerA (.call (.ref fa) ⟨[.ref a], []⟩) (fun r s' => r = .ok (.ret (.bool true)) ∧ OldK s₁.heap s'.heap ∧ s'.os = s₁.os ∧ AllBare s'.gens) s₁) :
    WalkO q loose XP YP l.row.toRowW d [] (fun f vs => PySem.call f vs) := by
  intro w s₀ s₁ mg mb G Y fa o pm cd doc dV kV ho hd hcd hD hmg hg args vals as hpre hlay hrd hwl hlo
  obtain rfl : dV = .none := Dflts.none hD hdf
  obtain rfl : kV = .none := Dflts.noKw hD
  obtain ⟨a, vs, ns, rfl, rfl, hobj, hints, hlen⟩ := script_of hn hpre hwl
  refine enter_call (codeAny_mono (call w s₀ s₁ mg mb fa o pm cd doc a vs ns G Y ho (fd_plain hd) hcd hmg hobj hints hlen hg) fun r s' hq => ?_)
  obtain ⟨rfl, h2, h3, h4⟩ := hq
  exact ⟨.inl ⟨.bool true, .bool true, [], rfl, fun _ => rfl, .bool true, post_true l _, fun _ => ⟨List.Pairwise.nil, fun _ hm => (nomatch hm)⟩⟩, h2, h3, h4⟩


/-! ### rules over ANY heap (no ledger) from facts about the written part K: the library's own take a ledger (News) for what they write -/
section
variable {prog : Program} {w : World} {A : Around} {E : Value → Shared → Prop} {s : Shared} {K : Frag}





/-! the whole heap as the ledger: makes every rule that writes through a ledger a rule over any heap -/
def ledger (h : Heap) (L d : Addr) : List (Addr × Obj) := (List.range h.objs.size).filterMap fun a => if a = L ∨ a = d then none else (h.get? a).map fun o => (a, o)

end
end Att

namespace L2
open PySem PySem.Spec PyProof.Rows

theorem vals_ints : ∀ {vs : List Value} {ns : List Int}, IntsAre vs ns → Vals (ns.map V.int) vs
  | _, _, .nil => .nil
  | _, _, .cons n t h => .cons ⟨t, rfl⟩ (vals_ints h)

/-- nothing is tracked but the script, known to the object (or it is an object of the module) -/
def Only (H : Hp) : Prop := ∀ b, H b = none ∨ ∃ o xs, H b = some (.frz o (.lst xs))

/-- THE HEAD: the law's promise, at the heap behind the top. F, the promise of the law's def, may use that base is part of the heap (so K.In base, base.Ns mainGlobals mg stand in Mod) -/
theorem law_call {P : Program} {w : World} {K : PySem.W.Frag} {mg mb : Str → Option Value} {CX : CXT} {k : Nat} {fa a : Addr} {fd : FuncData} {x : Str} {sp : Sp} {s₁ : Shared} {vs : List Value} {ns : List Int}
    (KX : K.In s₁.heap) (hns : s₁.heap.Ns mainGlobals mg) (hb : s₁.heap.Ns builtinsNs mb) (hbb : ∀ x : Str, x ≠ "__name__" → mb x = bootBuiltins x) (hlim : s₁.heap.NoLimit) (hg : s₁.gens = #[])
    (ha : s₁.heap.get? a = some { cls := .type "list", data := .seq vs.toArray }) (hi : IntsAre vs ns) (hl : ns.length ≤ sizeLine) (hr : Room k callerA)
    (F : ∀ base : Heap, K.In base → base.Ns mainGlobals mg → FnOk P w K mg base CX k fa fd [x] sp) (hbind : ∀ (s : Shared) (u : Value), BindsTo s fd ⟨[u], []⟩ [(x, u)])
    (hsp : ∀ H : Hp, Only H → SqL K H a (ns.map V.int) → sp [.ref a] H (fun v _ => v = .bl true) fun _ _ _ => False)
    (hCX : ∀ H e s', CX [] H s₁ (fun _ _ _ => False) e s' → False) :
    codeAny (model P w) callerA (.call (.ref fa) ⟨[.ref a], []⟩) (fun r s' => r = .ok (.ret (.bool true)) ∧ OldK s₁.heap s'.heap ∧ s'.os = s₁.os ∧ AllBare s'.gens) s₁ := by
  have rv := vals_ints hi
  have lenV := hi.length
  -- from an abstract heap in which nothing but the script may be tracked
  have core : ∀ H : Hp, Only H → SqL K H a (ns.map V.int) → HOk P w H s₁.heap → (∀ b, H b ≠ none → b = a) → (H a ≠ none → K.lookup a = none) →
      codeAny (model P w) callerA (.call (.ref fa) ⟨[.ref a], []⟩) (fun r s' => r = .ok (.ret (.bool true)) ∧ OldK s₁.heap s'.heap ∧ s'.os = s₁.os ∧ AllBare s'.gens) s₁ := by
    intro H hO hS hok hA hK
    have base_of : ∀ {b : Addr} {o : Obj}, s₁.heap.get? b = some o → H b = none → (hidT s₁.heap H).get? b = some o := fun e n => hidT_get e n
    have noA : ∀ {b : Addr} {o : Obj} {es : Array DictEntry} {ep : Nat}, s₁.heap.get? b = some o → o.data = .dict es ep → H b = none := fun {b o es ep} e d => by
      cases q : H b with
      | none => rfl
      | some u =>
        have e' : b = a := hA b (by rw [q]; simp)
        subst e'
        rw [ha] at e; cases e
        have d' : Data.seq vs.toArray _ = Data.dict es ep := d
        cases d'
    have nsK : ∀ {b : Addr} {m : Str → Option Value}, s₁.heap.Ns b m → (hidT s₁.heap H).Ns b m := fun {b m} ⟨o, es, ep, e, d, r⟩ => ⟨o, es, ep, base_of e (noA e d), d, r⟩
    have hKb : K.In (hidT s₁.heap H) := fun b o e => base_of (KX b o e) (by
      cases q : H b with
      | none => rfl
      | some u =>
        have e' : b = a := hA b (by rw [q]; simp)
        subst e'
        rw [hK (by rw [q]; simp)] at e; cases e)
    have hM : Mod K mg (hidT s₁.heap H) := ⟨hKb, nsK hns, ⟨mb, nsK hb, hbb⟩, let ⟨mc, h1, h2⟩ := hlim; ⟨mc, nsK h1, h2⟩⟩
    have e0 : Env0 P w K mg (hidT s₁.heap H) callerA [] s₁ H := ⟨rfl, hM, fun b o e => of_hidT e, Nat.le_of_eq (hidT_size _ _), trivial, fun b hb => absurd (show b ∈ ([] : List Addr) from hb) (by simp), hok, .of_eq hg⟩
    refine codeAny_mono ((F _ hKb (nsK hns)).run callerA [] s₁ H ⟨[.ref a], []⟩ [.ref a] [.ref a] _ _ hr e0 (hbind s₁ (.ref a)) (.cons rfl .nil) (hsp H hO hS)) fun r s' h => ?_
    cases r with
    | error e => exact (hCX H e s' h).elim
    | ok fl =>
      cases fl with
      | next => exact False.elim h
      | brk => exact False.elim h
      | cont => exact False.elim h
      | ret u =>
        obtain ⟨v, H', os, bare, un, hok', r', q⟩ := h
        have q' : v = .bl true := q
        subst q'
        obtain rfl : u = Value.bool true := r'
        refine ⟨rfl, OldK.of_keep fun b o e => ?_, os, bare⟩
        cases q : H b with
        | none => exact un.keep b o e q (by intro z; exact absurd (show b ∈ ([] : List Addr) from z) (by simp)) (by simp)
        | some u =>
          rcases hO b with z | ⟨ob, xs, z⟩
          · rw [q] at z; cases z
          · have z2 := un.frzs b ob _ z
            obtain ⟨e1, _⟩ := hok b _ z
            obtain ⟨e2, _⟩ := hok' b _ z2
            rw [e] at e1; cases e1
            exact e2
  cases hk : K.lookup a with
  | some o =>
    -- the script is one of the module's own objects
    have e := KX a o hk
    rw [ha] at e
    cases e
    refine core (fun _ => none) (fun _ => .inl rfl) (.inr ⟨_, vs.toArray, _, hk, rfl, rfl, rfl, by rw [List.size_toArray, lenV]; exact hl, by simpa using rv⟩) (fun b u z => by have z' : (none : Option HO) = some u := z; cases z') (fun b z => absurd rfl z) fun z => absurd rfl z
  | none =>
    refine core (fun b => if b = a then some (.frz { cls := .type "list", data := .seq vs.toArray } (.lst (ns.map V.int))) else none) (fun b => ?_) (.inl (.inr ⟨{ cls := .type "list", data := .seq vs.toArray }, if_pos rfl⟩)) (fun b u z => ?_) (fun b z => ?_) fun _ => hk
    · by_cases hb : b = a
      · exact .inr ⟨_, _, if_pos hb⟩
      · exact .inl (if_neg hb)
    · by_cases hb : b = a
      · have z' := (if_pos hb).symm.trans z
        cases z'
        subst hb
        exact ⟨ha, by rw [List.length_map]; exact hl, vs, _, rv, ha⟩
      · have z' := (if_neg hb).symm.trans z
        cases z'
    · by_cases hb : b = a
      · exact hb
      · exact absurd (if_neg hb) z
end L2

namespace L2
open PySem PySem.Spec PyProof.Rows

abbrev KOf {K : PySem.W.Frag} {h : Heap} (_ : K.In h) : PySem.W.Frag := K

/-- the goal that k_head leaves (case hc), from the law's promise. F gives the function object fd (K's own) once, then the promise over every base -/
theorem walk_of {l : PySem.W.OpenLaw} {n k : Nat} {q : Program} {loose : List Str} {XP : (Str → Option Value) → Heap → Prop} {YP : World → Heap → Prop} {d : DefRec} {K : Params → PySem.W.Frag} {CX : World → CXT} {sp : World → Sp} {x : Str}
    (hn : l.most = some n) (hn2 : n ≤ sizeLine) (hdf : d.params.defaults = []) (hr : Room k callerA)
    (hY : ∀ (w : World) (h : Heap), YP w h → (K w.params).In h)
    (F : ∀ (w : World) (mg : Str → Option Value) (fa : Addr) (h : Heap), (K w.params).In h → h.Ns mainGlobals mg → mg d.name = some (.ref fa) →
      ∃ fd : FuncData, (∀ (s : Shared) (u : Value), BindsTo s fd ⟨[u], []⟩ [(x, u)]) ∧
        ∀ base : Heap, (K w.params).In base → base.Ns mainGlobals mg → FnOk l.prog w (K w.params) mg base (CX w) k fa fd [x] (sp w))
    (hsp : ∀ (w : World) (H : Hp) (a : Addr) (ns : List Int), ns.length ≤ n → Only H → SqL (K w.params) H a (ns.map V.int) → sp w [.ref a] H (fun v _ => v = .bl true) fun _ _ _ => False)
    (hCX : ∀ (w : World) (H : Hp) (s : Shared) (e : Value) (s' : Shared), CX w [] H s (fun _ _ _ => False) e s' → False) :
    PySem.W.WalkO q loose XP YP l.row.toRowW d [] (fun f vs => PySem.call f vs) := by
  refine Att.attach_call hn hdf fun w s₀ s₁ mg mb fa o pm cd doc a vs ns G Y ho hd hcd hmg hobj hints hlen hg => ?_
  have KX := hY w _ Y
  obtain ⟨fd, hb, hF⟩ := F w mg fa _ KX G.T.g hmg
  exact law_call KX G.T.g G.T.b G.T.builtins G.T.nolimit hg hobj hints (Nat.le_trans hlen hn2) hr hF hb (fun H hO hS => hsp w H a ns hlen hO hS) fun H e s' => hCX w H s₁ e s'
end L2

/- THE LAST THEOREM (shape; LID, My.* are yours):
   My.Adr: a structure of the addresses that your layer names (classes, functions); My.Txt K t: a structure (Prop) of the equations over K;
   My.txt_mk : {K} {implicit addresses ..} (e1 : nsIn K mainGlobals "law" = some (some (.ref f))) (e2 : K.lookup f = some ⟨oc, od, .func (fnOf "law" "law" params body scope dV kV doc pm an cdv ct), sl⟩) (e3 : codeIn K cdv "law" = true) .. : ∃ t, My.Txt K t

set_option maxRecDepth 100000 in
set_option maxHeartbeats 0 in
theorem PySem.Challenge.cw_LID_holds : PySem.Challenge.rw_LID.Holds := by
  w_on; o_law; k_head; (case hw => w_witness2)
  k_fill
  refine L2.walk_of (l := PySem.Challenge.rw_LID) (n := 63) (k := 40) (x := "script") (CX := fun w => ..) (sp := fun _ => My.sp_law) rfl (by decide) rfl ⟨rfl, by decide, by decide⟩ (fun w h Y => PySem.W.kIn_of Y) ?F ?S ?C
  case F =>
    intro w mg fa h KX G hmg
    have T : ∃ t, My.Txt (L2.KOf KX) t := by
      dsimp only [L2.KOf]                          -- K must stand as «<heap const> w.params» for k_is
      refine' My.txt_mk ?e1 ?e2 ?e3 ..
      (case e1 => PySem.W.k_is)                    -- in the order: a name -> its address -> its object -> its parts
      (case e2 => PySem.W.k_is)
      ..
    obtain ⟨t, T⟩ := T
    have e0 := hmg.symm.trans (PySem.W.mg_of KX G T.law)
    cases e0                                       -- fa is the law's own address
    exact ⟨_, fun s u => .of_eq rfl, fun base kb nb => My.law_fn T kb nb⟩     -- if «.of_eq rfl» comes too early: refine' ⟨_, ?b, fun base kb nb => My.law_fn T kb nb⟩; exact fun s u => .of_eq rfl
  case S => exact fun w H a ns hl hO hS => ..
  case C => exact ..
(the tactic k_is has no namespace: write k_is) -/

/-! SHORT WORDS over the layer: a def of the text, its body, what a loop and a test want. -/
namespace L2
open PySem PySem.Spec PyProof.Rows

/-! ### the text by places -/
/-- the j-th statement of a class's body -/
def inClass (s : Stmt) (j : Nat) : Stmt := match s with
  | .ClassDef _ _ _ body _ _ _ _ _ _ _ => body.getD j (.Pass ⟨0, 0, 0, 0⟩)
  | _ => .Pass ⟨0, 0, 0, 0⟩
def defArgs (s : Stmt) : Arguments := match s with
  | .FunctionDef _ a _ _ _ _ _ _ _ _ => a
  | _ => { posonlyargs := [], args := [], vararg := none, kwonlyargs := [], kw_defaults := [], kwarg := none, defaults := [] }
def defBody (s : Stmt) : List Stmt := match s with
  | .FunctionDef _ _ b _ _ _ _ _ _ _ => b
  | _ => []
def defScope (s : Stmt) : Scope := match s with
  | .FunctionDef _ _ _ _ _ _ sc _ _ _ => sc
  | _ => { kind := .function, names := [], isGenerator := false, isCoroutine := false }

/-! ### no exception leaves a def -/
abbrev CX0 : CXT := fun _ _ _ _ _ _ => False
abbrev E0 : XK := fun _ _ _ => False
theorem pass0 {X : Cx} : Passes CX0 X E0 := fun _ _ _ _ _ _ _ h => h.elim

/-! ### a def (or method) of the text as it stands behind the top -/
structure Fun (K : PySem.W.Frag) (x qual : Str) (st : Stmt) (f : Addr) (fd : FuncData) : Prop where
  ex : ∃ (oc : Value) (od : Option Addr) (kV doc pm : Value) (an : Option Addr) (cdv ct : Value) (osl : Array (Option Value)),
    fd = PySem.W.fnOf x qual (defArgs st) (defBody st) (defScope st) .none kV doc pm an cdv ct ∧ K.lookup f = some ⟨oc, od, .func fd, osl⟩ ∧ PySem.W.codeIn K cdv qual = true
  kp : PySem.W.keepIn K (.ref f) = true
section
variable {P : Program} {w : World} {K : PySem.W.Frag} {mg : Str → Option Value} {base : Heap}
/-- THE RULE for a def: its body as a term of rules, and the reading of that term -/
theorem Fun.ok {x qual : Str} {st : Stmt} {f : Addr} {fd : FuncData} {N ps : List Str} {k : Nat} {sp : Sp} (F : Fun K x qual st f fd) (S : FnScope N ps (defScope st)) (len : ∀ vs H Q E, sp vs H Q E → vs.length = ps.length)
    (hbody : ∀ (cdv : Value) (A : Around) (outer : List Env) (s : Shared) (H : Hp) (vs : List V) (Q : VK) (E : XK), Room k (A.deeper (envOfC qual (defScope st) s.heap.objs.size f cdv)) → sp vs H Q E →
      ∃ t, PSs (cxOf CX0 P w K mg base N qual (defScope st) f cdv A outer s H E).nox (defBody st) t ∧ t { nx := fun _ H' => Q .non H', rt := Q } (start N vs) H) : FnOk P w K mg base CX0 (k + 1) f fd ps sp := by
  obtain ⟨oc, od, kV, doc, pm, an, cdv, ct, osl, rfl, lk, hcd⟩ := F.ex
  refine fn_of lk hcd S len fun A outer s H vs Q E hr hsp => ?_
  obtain ⟨t, h, q⟩ := hbody cdv A outer s H vs Q E hr hsp
  exact ⟨t, h.nox, q⟩
/-- how its arguments bind (no defaults): h is «fun _ _ _ _ _ _ us hl => match us, hl with | [_, _], _ => rfl», one _ a parameter -/
theorem Fun.binds {x qual : Str} {st : Stmt} {f : Addr} {fd : FuncData} {ps : List Str} (F : Fun K x qual st f fd)
    (h : ∀ (kV doc pm : Value) (an : Option Addr) (cdv ct : Value) (us : List Value), us.length = ps.length → bindArgs (PySem.W.fnOf x qual (defArgs st) (defBody st) (defScope st) .none kV doc pm an cdv ct) ⟨us, []⟩ = pure (ps.zip us)) : Binds K fd ps [] := by
  obtain ⟨oc, od, kV, doc, pm, an, cdv, ct, osl, rfl, lk, hcd⟩ := F.ex
  exact .all (h kV doc pm an cdv ct)
theorem fun_mk {x qual : Str} {st : Stmt} {f : Addr} {oc : Value} {od an : Option Addr} {osl : Array (Option Value)} {kV doc pm cdv ct : Value} (l : K.lookup f = some ⟨oc, od, .func (PySem.W.fnOf x qual (defArgs st) (defBody st) (defScope st) .none kV doc pm an cdv ct), osl⟩)
    (c : PySem.W.codeIn K cdv qual = true) (k : PySem.W.keepIn K (.ref f) = true) : Fun K x qual st f (PySem.W.fnOf x qual (defArgs st) (defBody st) (defScope st) .none kV doc pm an cdv ct) := ⟨⟨oc, od, kV, doc, pm, an, cdv, ct, osl, rfl, l, c⟩, k⟩
end
theorem hu_of {A : Around} {k : Nat} (hr : Room k A) : A.units + 1 < cLine := Nat.lt_of_le_of_lt (Nat.add_le_add_left (by decide : 1 ≤ 64) _) hr.units
theorem small1000 {n : Nat} (h : n ≤ 1000) : n < sizeLine := Nat.lt_of_le_of_lt h (by decide)

/-! ### expressions in short: the name that stands in the i-th slot -/
section
variable {X : Cx}
theorem pv (i : Nat) {x : Str} {pos : Pos} (hN : X.N[i]? = some x := by rfl) (hv : Vis X.env.scope x := by first | exact Or.inl rfl | exact Or.inr (Or.inl rfl) | exact Or.inr (Or.inr rfl)) (hd : (x == ("__debug__" : Str)) = false := by decide)
    (hcd : (x == ("__classdict__" : Str)) = false := by decide) : PE X (.Name x pos) (tVar i) := pe_var hN hv hd hcd
end

/-! ### tests -/
theorem iteF {A B : Prop} (h : B) : if false = true then A else B := by
  rw [if_neg Bool.false_ne_true]
  exact h
theorem iteT {A B : Prop} (h : A) : if true = true then A else B := by
  rw [if_pos rfl]
  exact h
theorem ite2 {c A B : Prop} [Decidable c] (h1 : c → A) (h2 : ¬ c → B) : if c then A else B := by
  by_cases h : c
  · rw [if_pos h]
    exact h1 h
  · rw [if_neg h]
    exact h2 h

/-! ### heaps -/
/-- all that was tracked is as it was -/
def Same (H H' : Hp) : Prop := ∀ b o, H b = some o → H' b = some o
theorem Same.refl (H : Hp) : Same H H := fun _ _ h => h
theorem Same.trans {H H1 H2 : Hp} (a : Same H H1) (b : Same H1 H2) : Same H H2 := fun c o h => b c o (a c o h)
theorem Same.free {H H' : Hp} (e : Same H H') {l : Addr} (h : H' l = Option.none) : H l = Option.none := by
  cases q : H l with
  | none => rfl
  | some o =>
    rw [e l o q] at h
    cases h
theorem Same.seq {K : PySem.W.Frag} {H H' : Hp} {a : Addr} {xs : List V} (e : Same H H') (h : SqL K H a xs) : SqL K H' a xs := by
  rcases h with (h | ⟨o, h⟩) | h
  · exact .inl (.inl (e _ _ h))
  · exact .inl (.inr ⟨o, e _ _ h⟩)
  · exact .inr h

end L2

set_option maxHeartbeats 4000000
namespace L2
open PySem PySem.Spec PyProof.Rows

/-! ### lists of pairs as tables -/
section
variable {κ : Type} [DecidableEq κ]
def valV (kvs : List (κ × V)) (k : κ) : Option V := (kvs.find? fun kv => decide (kv.1 = k)).map (·.2)
/-- in its place, or at the end -/
def putK (kvs : List (κ × V)) (k : κ) (v : V) : List (κ × V) :=
  if (kvs.any fun kv => decide (kv.1 = k)) = true then kvs.map (fun kv => if kv.1 = k then (kv.1, v) else kv) else kvs ++ [(k, v)]
def dropK (kvs : List (κ × V)) (k : κ) : List (κ × V) := kvs.filter fun kv => decide (kv.1 ≠ k)

theorem valV_pos {p : κ × V} {r : List (κ × V)} {k : κ} (e : p.1 = k) : valV (p :: r) k = some p.2 := by simp [valV, List.find?_cons, e]
theorem valV_neg {p : κ × V} {r : List (κ × V)} {k : κ} (e : ¬ p.1 = k) : valV (p :: r) k = valV r k := by simp [valV, List.find?_cons, e]
theorem valV_any (k : κ) : ∀ kvs : List (κ × V), (kvs.any fun kv => decide (kv.1 = k)) = (valV kvs k).isSome
  | [] => rfl
  | p :: r => by
    rw [List.any_cons]
    by_cases e : p.1 = k
    · simp only [valV_pos e, decide_eq_true e, Bool.true_or, Option.isSome_some]
    · rw [valV_neg e, decide_eq_false e, Bool.false_or]; exact valV_any k r
theorem valV_map (k j : κ) (y : V) : ∀ kvs : List (κ × V), valV (kvs.map fun kv => if kv.1 = k then (kv.1, y) else kv) j = (valV kvs j).map fun x => if j = k then y else x
  | [] => rfl
  | p :: r => by
    have ih := valV_map k j y r
    rw [List.map_cons]
    by_cases h : p.1 = k
    · rw [if_pos h]
      by_cases e : p.1 = j
      · rw [valV_pos (p := (p.1, y)) e, valV_pos e, Option.map_some, if_pos (e.symm.trans h)]
      · rw [valV_neg (p := (p.1, y)) e, valV_neg e, ih]
    · rw [if_neg h]
      by_cases e : p.1 = j
      · rw [valV_pos (p := p) e, valV_pos e, Option.map_some, if_neg (fun z => h (e.trans z))]
      · rw [valV_neg (p := p) e, valV_neg e, ih]
theorem valV_snoc (k j : κ) (y : V) : ∀ kvs : List (κ × V), valV kvs k = none → valV (kvs ++ [(k, y)]) j = if j = k then some y else valV kvs j
  | [], _ => by
    by_cases e : k = j
    · rw [if_pos e.symm]; exact valV_pos (p := (k, y)) e
    · rw [if_neg (fun z => e z.symm)]; exact valV_neg (p := (k, y)) e
  | p :: r, hn => by
    rw [List.cons_append]
    have hk : ¬ p.1 = k := fun z => by rw [valV_pos z] at hn; cases hn
    rw [valV_neg hk] at hn
    have ih := valV_snoc k j y r hn
    by_cases e : p.1 = j
    · rw [valV_pos e, valV_pos e, if_neg (fun z => hk (e.trans z))]
    · rw [valV_neg e, valV_neg e, ih]
theorem valV_put (kvs : List (κ × V)) (k j : κ) (y : V) : valV (putK kvs k y) j = if j = k then some y else valV kvs j := by
  unfold putK
  by_cases a : (kvs.any fun kv => decide (kv.1 = k)) = true
  · rw [if_pos a, valV_map]
    rw [valV_any] at a
    by_cases e : j = k
    · obtain ⟨x, hx⟩ := Option.isSome_iff_exists.mp a
      rw [if_pos e, e, hx, Option.map_some, if_pos rfl]
    · rw [if_neg e]
      cases valV kvs j with
      | none => rfl
      | some x => rw [Option.map_some, if_neg e]
  · rw [if_neg a]
    refine valV_snoc k j y kvs ?_
    rw [valV_any] at a
    cases q : valV kvs k with
    | none => rfl
    | some x => rw [q] at a; exact (a rfl).elim
theorem length_putK (kvs : List (κ × V)) (k : κ) (v : V) : (putK kvs k v).length ≤ kvs.length + 1 := by
  unfold putK
  split
  · rw [List.length_map]; omega
  · rw [List.length_append, List.length_cons, List.length_nil]; omega

theorem RelO.isSome_eq {o : Option V} {u : Option Value} (r : RelO o u) : o.isSome = u.isSome := by
  cases o with
  | none => cases u with
    | none => rfl
    | some _ => exact (show False from r).elim
  | some _ => cases u with
    | none => exact (show False from r).elim
    | some _ => rfl
theorem RelO.getD {o : Option V} {u : Option Value} {d : V} {d' : Value} (r : RelO o u) (rd : RelV d d') : RelV (o.getD d) (u.getD d') := by
  cases o with
  | none => cases u with
    | none => exact rd
    | some _ => exact (show False from r).elim
  | some _ => cases u with
    | none => exact (show False from r).elim
    | some _ => exact r

/-- raw tables of the same keys -/
theorem KV.val {kvs : List (κ × V)} {vs : List (κ × Value)} (r : KV kvs vs) (k : κ) : RelO (valV kvs k) (valueAt vs k) := by
  unfold KV at r
  induction r with
  | nil => exact True.intro
  | @cons p q ps qs h t ih =>
    obtain ⟨h1, h2⟩ := h
    by_cases e : p.1 = k
    · have e' : q.1 = k := h1.symm.trans e
      have b : valueAt (q :: qs) k = some q.2 := by simp [valueAt, List.find?_cons, e']
      rw [valV_pos e, b]; exact h2
    · have e' : ¬ q.1 = k := fun z => e (h1.trans z)
      have b : valueAt (q :: qs) k = valueAt qs k := by simp [valueAt, List.find?_cons, e']
      rw [valV_neg e, b]; exact ih
theorem KV.any {kvs : List (κ × V)} {vs : List (κ × Value)} (r : KV kvs vs) (k : κ) : (kvs.any fun kv => decide (kv.1 = k)) = vs.any fun kv => decide (kv.1 = k) := by
  unfold KV at r
  induction r with
  | nil => rfl
  | cons h t ih => rw [List.any_cons, List.any_cons, ih, h.1]
theorem KV.repl {kvs : List (κ × V)} {vs : List (κ × Value)} (r : KV kvs vs) (k : κ) {y : V} {u : Value} (ry : RelV y u) :
    KV (kvs.map fun kv => if kv.1 = k then (kv.1, y) else kv) (vs.map fun kv => if kv.1 = k then (kv.1, u) else kv) := by
  unfold KV at r ⊢
  induction r with
  | nil => exact .nil
  | @cons p q ps qs h t ih =>
    rw [List.map_cons, List.map_cons]
    refine .cons ?_ ih
    obtain ⟨h1, h2⟩ := h
    by_cases e : p.1 = k
    · rw [if_pos e, if_pos (h1.symm.trans e)]; exact ⟨h1, ry⟩
    · rw [if_neg e, if_neg (fun z => e (h1.trans z))]; exact ⟨h1, h2⟩
theorem KV.put {kvs : List (κ × V)} {vs : List (κ × Value)} (r : KV kvs vs) (k : κ) {y : V} {u : Value} (ry : RelV y u) : KV (putK kvs k y) (stored vs k u) := by
  unfold putK stored
  rw [r.any k]
  by_cases e : (vs.any fun kv => decide (kv.1 = k)) = true
  · rw [if_pos e, if_pos e]; exact r.repl k ry
  · rw [if_neg e, if_neg e]; exact Paired.snoc r ⟨rfl, ry⟩
theorem KV.drop {kvs : List (κ × V)} {vs : List (κ × Value)} (r : KV kvs vs) (k : κ) : KV (dropK kvs k) (without vs k) := by
  unfold KV at r ⊢
  unfold dropK without
  induction r with
  | nil => exact .nil
  | @cons p q ps qs h t ih =>
    obtain ⟨h1, h2⟩ := h
    rw [List.filter_cons, List.filter_cons]
    by_cases e : p.1 = k
    · have a : ¬ decide (p.1 ≠ k) = true := by simp [e]
      have b : ¬ decide (q.1 ≠ k) = true := by simp [h1.symm.trans e]
      rw [if_neg a, if_neg b]; exact ih
    · have e' : ¬ q.1 = k := fun z => e (h1.trans z)
      have a : decide (p.1 ≠ k) = true := by simp [e]
      have b : decide (q.1 ≠ k) = true := by simp [e']
      rw [if_pos a, if_pos b]; exact .cons ⟨h1, h2⟩ ih
theorem KV.keys {kvs : List (κ × V)} {vs : List (κ × Value)} (r : KV kvs vs) : kvs.map (·.1) = vs.map (·.1) := by
  unfold KV at r
  induction r with
  | nil => rfl
  | cons h t ih => rw [List.map_cons, List.map_cons, ih, h.1]
theorem KV.length {kvs : List (κ × V)} {vs : List (κ × Value)} (r : KV kvs vs) : kvs.length = vs.length := Paired.length r
end


/-! ### a tracked dict, its keys ints and texts or tuples of these -/
theorem kV_is {P : Program} {w : World} {k : Key} {u : Value} (r : RelV (kV k) u) : (mixKind P w).is k u = true := by
  cases k with
  | inl i => obtain ⟨t, e⟩ := (show ∃ t, u = Value.int i t from r); subst e; exact mixKind_int P w i t
  | inr x => obtain ⟨t, e⟩ := (show ∃ t, u = Value.str x t from r); subst e; exact mixKind_str P w x t
theorem items_are {P : Program} {w : World} : ∀ {ks : List Key} {us : List Value}, Vals (ks.map kV) us → ItemsAre (mixKind P w) ks us
  | [], _, r => by rw [List.map_nil] at r; cases r; exact .nil
  | k :: ks, _, r => by
    rw [List.map_cons] at r
    cases r with
    | cons h t => exact .cons (kV_is h) (items_are t)

/-- raw entries of a dict with tuple keys -/
abbrev KT (H : Hp) : List (List Key × V) → List (List Key × Addr × Value) → Prop := Paired fun p q => p.1 = q.1 ∧ H q.2.1 = some (.tup (p.1.map kV)) ∧ RelV p.2 q.2.2
theorem KT.val {H : Hp} {kvs : List (List Key × V)} {xs : List (List Key × Addr × Value)} (r : KT H kvs xs) (k : List Key) : RelO (valV kvs k) ((atKey xs k).map (·.2)) := by
  induction r with
  | nil => exact True.intro
  | @cons p q ps qs h t ih =>
    obtain ⟨h1, _, h2⟩ := h
    by_cases e : p.1 = k
    · have e' : q.1 = k := h1.symm.trans e
      have b : atKey (q :: qs) k = some q.2 := by simp [atKey, List.find?_cons, e']
      rw [valV_pos e, b]; exact h2
    · have e' : ¬ q.1 = k := fun z => e (h1.trans z)
      have b : atKey (q :: qs) k = atKey qs k := by simp [atKey, List.find?_cons, e']
      rw [valV_neg e, b]; exact ih
theorem KT.repl {H : Hp} {kvs : List (List Key × V)} {xs : List (List Key × Addr × Value)} (r : KT H kvs xs) (k : List Key) {y : V} {u : Value} (ry : RelV y u) :
    KT H (kvs.map fun kv => if kv.1 = k then (kv.1, y) else kv) (xs.map (putAt k u)) := by
  induction r with
  | nil => exact .nil
  | @cons p q ps qs h t ih =>
    rw [List.map_cons, List.map_cons]
    refine .cons ?_ ih
    obtain ⟨h1, h2, h3⟩ := h
    unfold putAt
    by_cases e : p.1 = k
    · rw [if_pos e, if_pos (h1.symm.trans e)]; exact ⟨h1, h2, ry⟩
    · rw [if_neg e, if_neg (fun z => e (h1.trans z))]; exact ⟨h1, h2, h3⟩
theorem KT.put {H : Hp} {kvs : List (List Key × V)} {xs : List (List Key × Addr × Value)} (r : KT H kvs xs) (k : List Key) {b : Addr} {y : V} {u : Value} (hb : H b = some (.tup (k.map kV))) (ry : RelV y u) :
    KT H (putK kvs k y) (storedH xs k b u) := by
  have e : (kvs.any fun kv => decide (kv.1 = k)) = (atKey xs k).isSome := by
    rw [valV_any, (r.val k).isSome_eq, Option.isSome_map]
  unfold putK storedH
  rw [e]
  by_cases q : (atKey xs k).isSome = true
  · rw [if_pos q, if_pos q]; exact r.repl k ry
  · rw [if_neg q, if_neg q]; exact Paired.snoc r ⟨rfl, hb, ry⟩
theorem KT.keeps {H H' : Hp} {kvs : List (List Key × V)} {xs : List (List Key × Addr × Value)} (r : KT H kvs xs) (ht : ∀ b ys, H b = some (.tup ys) → H' b = some (.tup ys)) : KT H' kvs xs :=
  Paired.mapP r fun _ _ z => ⟨z.1, ht _ _ z.2.1, z.2.2⟩

section
variable {P : Program} {w : World} {H : Hp} {h : Heap} {a : Addr}
theorem rd_of {u : HO} (ok : HOk P w H h) (e : Rd H a u) : ObjOk P w H h a u := e.ok ok
theorem dk_rd {kvs : List (Key × V)} (ok : HOk P w H h) (e : Rd H a (.dK kvs)) : kvs.length ≤ sizeLine ∧ (a == sysModules) = false ∧ ∃ vs, KV kvs vs ∧ h.DictOf (mixKind P w) a vs :=
  show ObjOk P w H h a (.dK kvs) from rd_of ok e
/-- a tracked tuple of ints and texts is a key -/
theorem key_of {ks : List Key} (ok : HOk P w H h) (e : H a = some (.tup (ks.map kV))) : (tupleKind (mixKind P w)).is h ks a := by
  obtain ⟨_, its, r, o, h1, h2, n, h3⟩ := (show ObjOk P w H h a (.tup (ks.map kV)) from ok a _ e)
  exact ⟨o, its.toArray, n, h1, h2, h3, by simpa using items_are r⟩
theorem dt_rd {kvs : List (List Key × V)} (ok : HOk P w H h) (e : Rd H a (.dT kvs)) : kvs.length ≤ sizeLine ∧ (a == sysModules) = false ∧
    ∃ xs, KT H kvs xs ∧ h.DictOfH (tupleKind (mixKind P w)) a xs := by
  obtain ⟨z, y, xs, r, o, es, ep, h1, h2, h3, h4, h5⟩ := (show ObjOk P w H h a (.dT kvs) from rd_of ok e)
  refine ⟨z, y, xs, r, o, es, ep, h1, h2, h3, h4, fun x hx => ?_, h5⟩
  have all : ∀ {l : List (List Key × V)} {m : List (List Key × Addr × Value)}, KT H l m → ∀ x ∈ m, (tupleKind (mixKind P w)).is h x.1 x.2.1 := by
    intro l m q
    induction q with
    | nil => intro x hx; exact nomatch hx
    | @cons p q ps qs hq t ih =>
      intro x hx
      rcases List.mem_cons.mp hx with e | hx
      · subst e
        exact key_of ok (by rw [← hq.1]; exact hq.2.1)
      · exact ih x hx
  exact all r x hx
theorem dt_of {kvs : List (List Key × V)} (ok : HOk P w H h) (e : H a = some (.dT kvs)) : kvs.length ≤ sizeLine ∧ (a == sysModules) = false ∧
    ∃ xs, KT H kvs xs ∧ h.DictOfH (tupleKind (mixKind P w)) a xs := dt_rd ok (.inl e)
end

/-- what the dict at a holds at the key y -/
def DGet (H : Hp) (a : Addr) (y : V) (r : Option V) : Prop :=
  (∃ kvs k, Rd H a (.dK kvs) ∧ y = kV k ∧ r = valV kvs k) ∨ ∃ kvs k b, Rd H a (.dT kvs) ∧ y = .ref b ∧ H b = some (.tup (k.map kV)) ∧ r = valV kvs k
/-- the heap behind a[y] = v -/
def DPut (H : Hp) (a : Addr) (y v : V) (H' : Hp) : Prop :=
  (∃ kvs k, H a = some (.dK kvs) ∧ y = kV k ∧ kvs.length < sizeLine ∧ H' = upd H a (.dK (putK kvs k v))) ∨
  ∃ kvs k b, H a = some (.dT kvs) ∧ y = .ref b ∧ H b = some (.tup (k.map kV)) ∧ kvs.length < sizeLine ∧ H' = upd H a (.dT (putK kvs k v))
theorem DGet.k {H : Hp} {a : Addr} {kvs : List (Key × V)} {k : Key} (e : H a = some (.dK kvs)) : DGet H a (kV k) (valV kvs k) := .inl ⟨kvs, k, .inl e, rfl, rfl⟩
theorem DGet.t {H : Hp} {a b : Addr} {kvs : List (List Key × V)} {k : List Key} (e : H a = some (.dT kvs)) (eb : H b = some (.tup (k.map kV))) : DGet H a (.ref b) (valV kvs k) := .inr ⟨kvs, k, b, .inl e, rfl, eb, rfl⟩
theorem DPut.k {H : Hp} {a : Addr} {kvs : List (Key × V)} {k : Key} {v : V} (e : H a = some (.dK kvs)) (hl : kvs.length < sizeLine) : DPut H a (kV k) v (upd H a (.dK (putK kvs k v))) := .inl ⟨kvs, k, e, rfl, hl, rfl⟩
theorem DPut.t {H : Hp} {a b : Addr} {kvs : List (List Key × V)} {k : List Key} {v : V} (e : H a = some (.dT kvs)) (eb : H b = some (.tup (k.map kV))) (hl : kvs.length < sizeLine) :
    DPut H a (.ref b) v (upd H a (.dT (putK kvs k v))) := .inr ⟨kvs, k, b, e, rfl, eb, hl, rfl⟩


section
variable {X : Cx} {pins : List (Addr × Obj)} {σ : St} {H : Hp} {s : Shared} {a : Addr} {y v : V} {u r : Value} {o : Option V} {A : Around} {E : Value → Shared → Prop}

theorem Inv.big (I : Inv X pins σ H s) : sysModules < s.heap.objs.size := by
  have h : mainGlobals < s.heap.objs.size := (I.mod.glob.keeps I.bk).lt
  exact Nat.lt_trans (by decide) h

/-- a dict's object is replaced -/
theorem d_write {h' : Heap} {t' : Nat} {ob : HO} (I : Inv X pins σ H s) (mu : Mut (H a)) (hs : Heap.SameBut a s.heap h') (he : ∃ q, h'.get? a = some q) (new : ObjOk X.prog X.w (upd H a ob) h' a ob) :
    Inv X pins σ (upd H a ob) { s with heap := h', toks := t' } :=
  I.write (x := a) (e := a) mu (.inl rfl) (fun b q hb z => (hs.2 b hb).trans z) he new
end

section
variable {X : Cx} {pins : List (Addr × Obj)} {σ : St} {H : Hp} {s : Shared} {a : Addr} {kvs : List (Key × V)} {k : Key} {u : Value} {A : Around} {E : Value → Shared → Prop}
end


/-! ### readings and rules -/



section
variable {X : Cx} {o i e value : Expr} {pos pos' tpos : Pos} {td ty tv : TE}
end


/-! ### displays -/
theorem dt_empty {P : Program} {w : World} {H : Hp} (h : Heap) (hb : sysModules < h.objs.size) : ObjOk P w H (h.push { cls := .type "dict", data := .dict #[] }) h.objs.size (.dT []) :=
  ⟨Nat.zero_le _, beq_eq_false_iff_ne.mpr (Ne.symm (Nat.ne_of_lt hb)), [], .nil, _, #[], 0, Heap.get?_push_size _ rfl, ⟨rfl, rfl, rfl⟩, rfl, rfl, List.nodup_nil⟩
def tDNewT : TE := fun _ H Q => ∀ p, H p = none → Q (.ref p) (upd H p (.dT []))
section
variable {X : Cx} {pos : Pos}
theorem pe_dnewT : PE X (.Dict [] [] pos) tDNewT := fun pins s σ H Q I h =>
  wpAny_Dict_empty ⟨.ref s.heap.objs.size, _, I.laid (a := s.heap.objs.size) (o := .dT []) (t' := s.toks) (fun _ _ q => Heap.get?_push_of_some _ q) (Nat.le_refl _) (dt_empty s.heap I.big), rfl, h _ (I.hok.fresh (Nat.le_refl _))⟩
end




/-! ### methods -/
/-- a method call o.m(e) of a built-in, with one argument: what must be seen of the text -/
structure M1 (X : Cx) (o : Expr) (m : Str) (apos : Pos) (e : Expr) (cpos : Pos) : Prop where
  base : attributeBase o m X.env (eval o X.env) = eval o X.env
  few : ((backTo cpos (starEach [e] X.env)).all (fun x => !x.1) && (backToKw cpos (keywordEach [] X.env)).all (fun x => x.1.isSome)
    && decide (([e] : List Expr).length + ([] : List Keyword).length + (if ([] : List Keyword).isEmpty then 0 else 1) < 30)) = true
  line : (apos.endLine == cpos.line) = true
  trees : backTo cpos (starEach [e] X.env) = [(false, eval e X.env)]
structure M2 (X : Cx) (o : Expr) (m : Str) (apos : Pos) (e f : Expr) (cpos : Pos) : Prop where
  base : attributeBase o m X.env (eval o X.env) = eval o X.env
  few : ((backTo cpos (starEach [e, f] X.env)).all (fun x => !x.1) && (backToKw cpos (keywordEach [] X.env)).all (fun x => x.1.isSome)
    && decide (([e, f] : List Expr).length + ([] : List Keyword).length + (if ([] : List Keyword).isEmpty then 0 else 1) < 30)) = true
  line : (apos.endLine == cpos.line) = true
  trees : backTo cpos (starEach [e, f] X.env) = [(false, eval e X.env), (false, eval f X.env)]

/-- a is a dict, whatever its keys -/
def IsD (H : Hp) (a : Addr) : Prop := (∃ kvs, Rd H a (.dK kvs)) ∨ ∃ kvs, Rd H a (.dT kvs)
theorem isD_at {X : Cx} {pins : List (Addr × Obj)} {σ : St} {H : Hp} {s : Shared} {a : Addr} (I : Inv X pins σ H s) (d : IsD H a) :
    s.TypeIs (.ref a) "dict" ∧ (∀ b, Value.ref a = .ref b → ∃ ob, s.heap.get? b = some ob ∧ ob.dict = none) ∧ (a == sysModules) = false := by
  rcases d with ⟨kvs, e⟩ | ⟨kvs, e⟩
  · obtain ⟨_, hd, vs, _, dd⟩ := dk_rd I.hok e
    refine ⟨dd.typeIs, fun b q => ?_, hd⟩
    cases q
    obtain ⟨ob, _, _, h1, h2, _⟩ := dd
    exact ⟨ob, h1, h2.2.1⟩
  · obtain ⟨_, hd, xs, _, dd⟩ := dt_rd I.hok e
    refine ⟨dd.typeIs, fun b q => ?_, hd⟩
    cases q
    obtain ⟨ob, _, _, h1, h2, _⟩ := dd
    exact ⟨ob, h1, h2.2.1⟩

section
variable {X : Cx} {pins : List (Addr × Obj)} {σ : St} {H : Hp} {s : Shared} {a : Addr} {y d : V} {u r : Value} {o : Option V} {A : Around} {E : Value → Shared → Prop}
end

section
variable {X : Cx} {o e f : Expr} {apos cpos : Pos} {td ty tx : TE}
end

/-! ### dict(d): a copy -/
section
variable {X : Cx} {pins : List (Addr × Obj)} {σ : St} {H : Hp} {s : Shared} {a : Addr} {kvs : List (Key × V)} {A : Around} {E : Value → Shared → Prop}
end


section
variable {X : Cx} {pins : List (Addr × Obj)} {σ : St} {H : Hp} {s : Shared} {a : Addr} {y : V} {u : Value} {A : Around} {E : Value → Shared → Prop}
end
end L2
namespace L2
open PySem PySem.Spec PyProof.Rows
/-! ### a dict's pairs: keys that differ -/
section
variable {κ : Type} [DecidableEq κ]
end
end L2

namespace L2
open PySem
theorem clos_go (env : Env) : ∀ (names : List (Str × NameKind)) (acc : List (Str × Addr)),
    (∀ y ∈ names, y.2 = NameKind.free → ∃ c, env.cells.lookup y.1 = some c) →
    (∀ x c, acc.lookup x = some c → env.cells.lookup x = some c) →
    ∃ cl : List (Str × Addr), (forIn names acc (fun (x : Str × NameKind) (r : List (Str × Addr)) => (match x with
      | (name, kind) => if (kind == NameKind.free) = true then do let a ← cellOf env name; pure (ForInStep.yield ((name, a) :: r)) else pure (ForInStep.yield r) : Sem (ForInStep (List (Str × Addr))))) : Sem (List (Str × Addr))) = pure cl ∧
      (∀ x c, cl.lookup x = some c → env.cells.lookup x = some c) ∧ (∀ x, (acc.lookup x).isSome = true → (cl.lookup x).isSome = true) ∧ (∀ y ∈ names, y.2 = NameKind.free → (cl.lookup y.1).isSome = true)
  | [], acc, _, ha => ⟨acc, rfl, ha, fun _ h => h, fun _ h => nomatch h⟩
  | (n, k) :: r, acc, h, ha => by
    by_cases hk : k = NameKind.free
    · subst hk
      obtain ⟨c, hc⟩ := h (n, NameKind.free) List.mem_cons_self rfl
      obtain ⟨cl, e, h1, h2, h3⟩ := clos_go env r ((n, c) :: acc) (fun y hy => h y (List.mem_cons_of_mem _ hy)) (fun x d hd => by
        rw [List.lookup_cons] at hd
        cases hx : x == n with
        | true =>
          rw [hx] at hd
          cases hd
          rw [eq_of_beq hx]; exact hc
        | false => rw [hx] at hd; exact ha x d hd)
      refine ⟨cl, ?_, h1, fun x hx => h2 x ?_, fun y hy hf => ?_⟩
      · rw [List.forIn_cons]
        have ec : cellOf env n = pure c := by unfold cellOf; rw [hc]
        simp only [ec]
        exact e
      · rw [List.lookup_cons]
        cases hx : x == n with
        | true => rfl
        | false => assumption
      · rcases List.mem_cons.mp hy with rfl | hy
        · refine h2 n ?_
          rw [List.lookup_cons, beq_self_eq_true]; rfl
        · exact h3 y hy hf
    · obtain ⟨cl, e, h1, h2, h3⟩ := clos_go env r acc (fun y hy => h y (List.mem_cons_of_mem _ hy)) ha
      refine ⟨cl, ?_, h1, h2, fun y hy hf => ?_⟩
      · rw [List.forIn_cons]
        have ek : (k == NameKind.free) = false := by simpa using hk
        simp only [ek, Bool.false_eq_true, if_false]
        exact e
      · rcases List.mem_cons.mp hy with rfl | hy
        · exact absurd hf hk
        · exact h3 y hy hf
theorem clos_of {scope : Scope} {env : Env} (h : ∀ y ∈ scope.names, y.2 = NameKind.free → ∃ c, env.cells.lookup y.1 = some c) :
    ∃ cl : List (Str × Addr), closureFor scope env = pure cl ∧ (∀ x c, cl.lookup x = some c → env.cells.lookup x = some c) ∧ (∀ y ∈ scope.names, y.2 = NameKind.free → (cl.lookup y.1).isSome = true) := by
  obtain ⟨cl, e, h1, h2, h3⟩ := clos_go env scope.names [] h (fun x c h => by cases h)
  refine ⟨cl, ?_, h1, h3⟩
  unfold closureFor
  show (forIn scope.names [] _ >>= fun r => pure r) = pure cl
  rw [e]
  rfl
end L2

namespace L2
open PySem
section
variable {prog : Program} {w : World} {A : Around} {R : Result → Shared → Prop} {s : Shared}
theorem compLoop_go {elt target iter : Expr} {ifs : List Expr} {scope : Scope} {pos : Pos} {it acc : Value} {env : Env} (I : Nat → Shared → Prop)
    (turn : ∀ n s, I n s → wpAny (model prog w) A (pyNext it) (fun r s₁ => match r with
      | none => R (.ok .next) s₁
      | some v => wpAny (model prog w) A (letOwnedTupleGo target it v) (fun _ s₁' => wpAny (model prog w) A (assign target env v) (fun _ s₂ =>
          wpAny (model prog w) A (forIn ifs true fun c r => if r = true then do let ok ← isTrue c env (eval c env); pure (ForInStep.yield ok) else pure (ForInStep.yield r)) (fun ok s₃ =>
            if ok = true then wpAny (model prog w) A (eval elt env) (fun x s₄ =>
              wpAny (model prog w) A (call (.builtin "list.append") [acc, x]) (fun _ s₅ => ∃ m, m < n ∧ I m s₅) (fun _ _ => False) s₄) (fun _ _ => False) s₃
            else ∃ m, m < n ∧ I m s₃) (fun _ _ => False) s₂) (fun _ _ => False) s₁') (fun _ _ => False) s₁) (fun _ _ => False) s)
    (n : Nat) (h : I n s) :
    codeAny (model prog w) A (.compLoop (.ListComp elt [⟨target, iter, ifs, 0⟩] scope pos) 0 it acc env) R s := by
  refine codeAny_loop rfl I (fun n s hI => ?_) n h
  show wpAny _ A ((compTurn (.ListComp elt [⟨target, iter, ifs, 0⟩] scope pos) 0 it acc env).onRaise (fun x => do noteFrame x env; theTreesLotGoes x)) _ _ s
  refine wpAny_noted ?_
  rw [compTurn_list]
  refine wpAny_bind (wpAny_standAt (wpAny_bind (wpAny_mono (turn n s hI) (fun r s₁ h₁ => ?_) fun _ _ h' => h'.elim)))
  cases r with
  | none => exact wpAny_pure h₁
  | some v =>
    refine wpAny_bind (wpAny_mono h₁ (fun _ s₁' h₁' => ?_) fun _ _ h' => h'.elim)
    refine wpAny_bind (wpAny_mono h₁' (fun _ s₂ h₂ => wpAny_bind (wpAny_mono h₂ (fun ok s₃ h₃ => ?_) fun _ _ h' => h'.elim)) fun _ _ h' => h'.elim)
    cases ok with
    | false => exact wpAny_pure ⟨rfl, h₃⟩
    | true =>
      exact wpAny_bind (wpAny_bind (wpAny_mono h₃ (fun x s₄ h₄ => wpAny_bind (wpAny_mono h₄ (fun _ s₅ h₅ => wpAny_pure (wpAny_pure ⟨rfl, h₅⟩)) fun _ _ h' => h'.elim)) fun _ _ h' => h'.elim))
end
end L2

/-! ### a comprehension: its names, its context -/
namespace L2
open PySem PySem.Spec PyProof.Rows

theorem lookup_relabel {env : Env} : ∀ {names : List (Str × NameKind)} {x : Str} {k' : NameKind},
    (names.map fun (n, k) => if (k == NameKind.free && env.scope.kind == .function && env.kindOf n == some .cell) then (n, NameKind.cell) else (n, k)).lookup x = some k' →
    ∃ k, names.lookup x = some k ∧ (k' = k ∨ (k = .free ∧ k' = .cell))
  | [], _, _, h => by simp at h
  | (n, k) :: r, x, k', h => by
    have h' : List.lookup x ((if (k == NameKind.free && env.scope.kind == .function && env.kindOf n == some .cell) = true then (n, NameKind.cell) else (n, k)) :: _) = some k' := h
    cases hx : x == n with
    | true =>
      by_cases hc : (k == NameKind.free && env.scope.kind == .function && env.kindOf n == some .cell) = true
      · rw [if_pos hc, List.lookup_cons, hx] at h'
        have hk : k = .free := by
          rw [Bool.and_eq_true, Bool.and_eq_true] at hc
          exact eq_of_beq hc.1.1
        exact ⟨k, by rw [List.lookup_cons, hx], .inr ⟨hk, (Option.some.inj h').symm⟩⟩
      · rw [if_neg hc, List.lookup_cons, hx] at h'
        exact ⟨k, by rw [List.lookup_cons, hx], .inl (Option.some.inj h').symm⟩
    | false =>
      have h2 : (r.map fun (n, k) => if (k == NameKind.free && env.scope.kind == .function && env.kindOf n == some .cell) then (n, NameKind.cell) else (n, k)).lookup x = some k' := by
        by_cases hc : (k == NameKind.free && env.scope.kind == .function && env.kindOf n == some .cell) = true
        · rw [if_pos hc, List.lookup_cons, hx] at h'; exact h'
        · rw [if_neg hc, List.lookup_cons, hx] at h'; exact h'
      obtain ⟨k1, e, z⟩ := lookup_relabel h2
      exact ⟨k1, by rw [List.lookup_cons, hx]; exact e, z⟩
theorem lookup_relabel_free {env : Env} : ∀ {names : List (Str × NameKind)} {x : Str}, names.lookup x = some .free →
    (names.map fun (n, k) => if (k == NameKind.free && env.scope.kind == .function && env.kindOf n == some .cell) then (n, NameKind.cell) else (n, k)).lookup x = some .cell ∨
    (names.map fun (n, k) => if (k == NameKind.free && env.scope.kind == .function && env.kindOf n == some .cell) then (n, NameKind.cell) else (n, k)).lookup x = some .free
  | [], _, h => by simp at h
  | (n, k) :: r, x, h => by
    have ih := @lookup_relabel_free env r x
    show List.lookup x ((if (k == NameKind.free && env.scope.kind == .function && env.kindOf n == some .cell) = true then (n, NameKind.cell) else (n, k)) :: _) = _ ∨ List.lookup x ((if (k == NameKind.free && env.scope.kind == .function && env.kindOf n == some .cell) = true then (n, NameKind.cell) else (n, k)) :: _) = _
    cases hx : x == n with
    | true =>
      rw [List.lookup_cons, hx] at h
      have hk : k = .free := Option.some.inj h
      by_cases hc : (k == NameKind.free && env.scope.kind == .function && env.kindOf n == some .cell) = true
      · left; rw [if_pos hc, List.lookup_cons, hx]
      · right; rw [if_neg hc, List.lookup_cons, hx]; simp only; rw [hk]
    | false =>
      rw [List.lookup_cons, hx] at h
      by_cases hc : (k == NameKind.free && env.scope.kind == .function && env.kindOf n == some .cell) = true
      · rw [if_pos hc, List.lookup_cons, hx]; exact ih h
      · rw [if_neg hc, List.lookup_cons, hx]; exact ih h
theorem mem_lookup {names : List (Str × NameKind)} {x : Str} {k : NameKind} (h : names.lookup x = some k) : (x, k) ∈ names := PySem.mem_of_lookup h

/-- the slots of a block's names, out of the def's -/
def csel (fm : List (Option Nat)) (σ : St) : St := fm.map fun o => match o with | some j => (σ[j]?).getD none | none => none
theorem csel_get {fm : List (Option Nat)} {σ : St} {i : Nat} {v : V} (h : (csel fm σ)[i]? = some (some v)) : ∃ j, fm[i]? = some (some j) ∧ σ[j]? = some (some v) := by
  unfold csel at h
  rw [List.getElem?_map] at h
  cases e : fm[i]? with
  | none => rw [e] at h; cases h
  | some o =>
    rw [e] at h
    cases o with
    | none => cases h
    | some j =>
      have h' : some ((σ[j]?).getD none) = some (some v) := h
      have h2 := Option.some.inj h'
      cases e2 : σ[j]? with
      | none => rw [e2] at h2; cases h2
      | some z => rw [e2] at h2; have h3 : z = some v := h2; subst h3; exact ⟨j, rfl, e2⟩

/-- what the block's names are, checked over the text -/
def selOk (XN : List Str) (names : List (Str × NameKind)) : List Str → List (Option Nat) → Bool
  | [], [] => true
  | _ :: N, none :: fm => selOk XN names N fm
  | x :: N, some j :: fm => (XN[j]? == some x) && (names.lookup x == some .free) && selOk XN names N fm
  | _, _ => false
theorem selOk_len {XN : List Str} {names : List (Str × NameKind)} : ∀ {N : List Str} {fm : List (Option Nat)}, selOk XN names N fm = true → fm.length = N.length
  | [], [], _ => rfl
  | _ :: N, none :: fm, h => by rw [List.length_cons, List.length_cons, selOk_len (show selOk XN names N fm = true from h)]
  | x :: N, some j :: fm, h => by
    have h' : ((XN[j]? == some x) && (names.lookup x == some .free) && selOk XN names N fm) = true := h
    rw [Bool.and_eq_true] at h'
    rw [List.length_cons, List.length_cons, selOk_len h'.2]
  | [], _ :: _, h => nomatch h
  | _ :: _, [], h => nomatch h
theorem selOk_at {XN : List Str} {names : List (Str × NameKind)} : ∀ {N : List Str} {fm : List (Option Nat)} {i j : Nat} {x : Str}, selOk XN names N fm = true → N[i]? = some x → fm[i]? = some (some j) → XN[j]? = some x ∧ names.lookup x = some .free
  | [], [], i, j, x, _, h, _ => by simp at h
  | _ :: N, none :: fm, 0, j, x, h, h1, h2 => by simp at h2
  | _ :: N, none :: fm, i + 1, j, x, h, h1, h2 => selOk_at (show selOk XN names N fm = true from h) (by simpa using h1) (by simpa using h2)
  | y :: N, some k :: fm, 0, j, x, h, h1, h2 => by
    have h' : ((XN[k]? == some y) && (names.lookup y == some .free) && selOk XN names N fm) = true := h
    rw [Bool.and_eq_true, Bool.and_eq_true] at h'
    have e1 : y = x := by simpa using h1
    have e2 : k = j := by simpa using h2
    subst e1; subst e2
    exact ⟨eq_of_beq h'.1.1, eq_of_beq h'.1.2⟩
  | y :: N, some k :: fm, i + 1, j, x, h, h1, h2 => by
    have h' : ((XN[k]? == some y) && (names.lookup y == some .free) && selOk XN names N fm) = true := h
    rw [Bool.and_eq_true] at h'
    exact selOk_at h'.2 (by simpa using h1) (by simpa using h2)
  | [], _ :: _, _, _, _, h, _, _ => nomatch h
  | _ :: _, [], _, _, _, h, _, _ => nomatch h
/-- the names of a block within a block -/
def relabelS (scope xsc : Scope) : Scope :=
  { scope with names := scope.names.map fun (n, k) => if (k == .free && xsc.kind == .function && xsc.names.lookup n == some .cell) then (n, .cell) else (n, k) }
structure CompScope (XN : List Str) (xsc : Scope) (N : List Str) (fm : List (Option Nat)) (scope : Scope) : Prop where
  kind : scope.kind = .function
  cel : ∀ y ∈ scope.names, y.2 = .cell → scope.names.lookup y.1 = some .cell
  loc : ∀ y ∈ scope.names, y.2 = .local → scope.names.lookup y.1 = some .local
  free : ∀ y ∈ scope.names, y.2 = .free → xsc.names.lookup y.1 = some .cell ∨ xsc.names.lookup y.1 = some .free
  sel : selOk XN scope.names N fm = true
  nd : N.Nodup

def cxC (X : Cx) (N : List Str) (scope : Scope) (cl : List (Str × Addr)) (C : Addr) (s : Shared) (H : Hp) (fp : List Addr) : Cx where
  prog := X.prog
  w := X.w
  K := X.K
  mg := X.mg
  base := X.base
  A := X.A
  N := N
  s₀ := s
  H₀ := H
  env := compEnvC scope cl C X.env
  outer := X.stack
  stack := X.stack
  ex := fp
  fn := fun x => scope.names.lookup x == some .cell
  calm := true
  pn := []
  xe := fun _ _ => False

/-! ### the block's cells: new ones ahead of the captured ones -/
theorem cellsFrom_app : ∀ (names : List (Str × NameKind)) (n : Nat) (acc : List (Str × Addr)), cellsFrom n names acc = cellsFrom n names [] ++ acc
  | [], _, _ => rfl
  | (x, k) :: r, n, acc => by
    unfold cellsFrom
    split
    · rw [cellsFrom_app r (n + 1) ((x, n) :: acc), cellsFrom_app r (n + 1) [(x, n)], List.append_assoc]; rfl
    · exact cellsFrom_app r n acc
theorem cellsFrom_mem : ∀ (names : List (Str × NameKind)) (n : Nat) {x : Str} {c : Addr}, (x, c) ∈ cellsFrom n names [] → (x, NameKind.cell) ∈ names
  | [], _, _, _, h => nomatch h
  | (y, k) :: r, n, x, c, h => by
    unfold cellsFrom at h
    split at h
    · rename_i hk
      rw [cellsFrom_app] at h
      rcases List.mem_append.mp h with z | z
      · exact List.mem_cons_of_mem _ (cellsFrom_mem r _ z)
      · have z' : (x, c) = (y, n) := by simpa using z
        cases z'
        rw [eq_of_beq hk]; exact List.mem_cons_self
    · exact List.mem_cons_of_mem _ (cellsFrom_mem r _ h)
theorem lookup_app {l₁ l₂ : List (Str × Addr)} {x : Str} : (l₁ ++ l₂).lookup x = (match l₁.lookup x with | some c => some c | none => l₂.lookup x) := by
  induction l₁ with
  | nil => rfl
  | cons y r ih =>
    obtain ⟨k, v⟩ := y
    rw [List.cons_append, List.lookup_cons, List.lookup_cons]
    cases x == k with
    | true => rfl
    | false => exact ih
structure CellsFor (X : Cx) (scope : Scope) (s : Shared) (h₁ : Heap) (cells : List (Str × Addr)) : Prop where
  src : ∀ x c, cells.lookup x = some c → (s.heap.objs.size < c ∧ h₁.IsCell c none) ∨ X.env.cells.lookup x = some c
  inj : ∀ x y c, cells.lookup x = some c → cells.lookup y = some c → x = y
  has : ∀ x, (scope.names.lookup x = some .cell ∨ scope.names.lookup x = some .free) → ∃ c, cells.lookup x = some c
  cab : ∀ x c, scope.names.lookup x = some .cell → cells.lookup x = some c → s.heap.objs.size ≤ c
  fr : ∀ x c, scope.names.lookup x = some .free → cells.lookup x = some c → X.env.cells.lookup x = some c
theorem newEnvB {M : Model} {A : Around} {E : Value → Shared → Prop} {s : Shared} {scope : Scope} {globals : Addr} {cl : List (Str × Addr)} {qual : Str} {env : Env} {Q : Env → Shared → Prop}
    (h : Q { scope := scope, locals := s.heap.objs.size, globals := globals, cells := cellsFrom (s.heap.objs.size + 1) scope.names cl, qual := qual, func := none, code := env.code, frame := env.frame, builtins := env.builtins }
      { s with heap := pushCells (s.heap.push { cls := .type "dict", data := .dict #[] }) scope.names }) :
    wpAny M A (newFunctionEnv scope globals cl [] qual none .none (some env)) Q E s := by
  simp only [newFunctionEnv, Option.isSome_some, if_true]
  refine wpAny_bind (wpAny_alloc ?_)
  refine wpAny_bind (wpAny_layCells _ (fun name kind cells => by cases hkc : kind == NameKind.cell <;> simp [hkc]) _ _ _ _ ?_)
  rw [show ({ s with heap := s.heap.push { cls := .type "dict", data := .dict #[] } } : Shared).heap.objs.size = s.heap.objs.size + 1 from Heap.size_push ..]
  rw [List.forIn_nil]
  exact wpAny_bind (wpAny_pure (wpAny_pure h))
theorem cells_for {X : Cx} {XN N : List Str} {fm : List (Option Nat)} {xsc scope : Scope} {cl : List (Str × Addr)} {s : Shared} (S : CompScope XN xsc N fm scope)
    (hin : ∀ x y c, X.env.cells.lookup x = some c → X.env.cells.lookup y = some c → x = y) (hlt : ∀ x c, X.env.cells.lookup x = some c → c < s.heap.objs.size)
    (hcl1 : ∀ x c, cl.lookup x = some c → X.env.cells.lookup x = some c) (hcl2 : ∀ y ∈ scope.names, y.2 = NameKind.free → (cl.lookup y.1).isSome = true) :
    CellsFor X scope s (pushCells (s.heap.push { cls := .type "dict", data := .dict #[] }) scope.names) (cellsFrom (s.heap.objs.size + 1) scope.names cl) := by
  have ok := cellsFrom_ok scope.names (s.heap.push { cls := .type "dict", data := .dict #[] }) (s.heap.objs.size + 1) [] ⟨fun _ _ hm => (nomatch hm), List.Pairwise.nil⟩ (by rw [Heap.size_push]; exact Nat.le_refl _)
  rw [Heap.size_push] at ok
  rw [cellsFrom_app]
  have new : ∀ x c, (cellsFrom (s.heap.objs.size + 1) scope.names []).lookup x = some c → s.heap.objs.size < c ∧ (pushCells (s.heap.push { cls := .type "dict", data := .dict #[] }) scope.names).IsCell c none ∧ scope.names.lookup x = some .cell := fun x c e => by
    have m := PySem.mem_of_lookup e
    exact ⟨(ok.empty x c m).2, (ok.empty x c m).1, S.cel (x, .cell) (cellsFrom_mem _ _ m) rfl⟩
  have two : ∀ x c, ((cellsFrom (s.heap.objs.size + 1) scope.names []) ++ cl).lookup x = some c → (cellsFrom (s.heap.objs.size + 1) scope.names []).lookup x = some c ∨ ((cellsFrom (s.heap.objs.size + 1) scope.names []).lookup x = none ∧ cl.lookup x = some c) := fun x c e => by
    rw [lookup_app] at e
    cases q : (cellsFrom (s.heap.objs.size + 1) scope.names []).lookup x with
    | some d => rw [q] at e; exact .inl e
    | none => rw [q] at e; exact .inr ⟨rfl, e⟩
  refine ⟨fun x c e => ?_, fun x y c e1 e2 => ?_, fun x hx => ?_, fun x c hx e => ?_, fun x c hx e => ?_⟩
  · rcases two x c e with z | ⟨_, z⟩
    · exact .inl ⟨(new x c z).1, (new x c z).2.1⟩
    · exact .inr (hcl1 x c z)
  · rcases two x c e1 with z | ⟨_, z⟩
    · rcases two y c e2 with z' | ⟨_, z'⟩
      · exact name_of_addr ok.apart (PySem.mem_of_lookup z) (PySem.mem_of_lookup z')
      · exact absurd (Nat.lt_trans (hlt y c (hcl1 y c z')) (new x c z).1) (Nat.lt_irrefl _)
    · rcases two y c e2 with z' | ⟨_, z'⟩
      · exact absurd (Nat.lt_trans (hlt x c (hcl1 x c z)) (new y c z').1) (Nat.lt_irrefl _)
      · exact hin x y c (hcl1 x c z) (hcl1 y c z')
  · rcases hx with hx | hx
    · have q := PySem.W.cellsFrom_some scope.names (s.heap.objs.size + 1) [] (x := x) (.inl hx)
      obtain ⟨c, e⟩ := Option.isSome_iff_exists.mp q
      exact ⟨c, by rw [lookup_app, e]⟩
    · obtain ⟨c, e⟩ := Option.isSome_iff_exists.mp (hcl2 (x, .free) (mem_lookup hx) rfl)
      rw [lookup_app]
      cases q : (cellsFrom (s.heap.objs.size + 1) scope.names []).lookup x with
      | some d => exact ⟨d, rfl⟩
      | none => exact ⟨c, e⟩
  · rcases two x c e with z | ⟨z, _⟩
    · exact Nat.le_of_lt (new x c z).1
    · have q := PySem.W.cellsFrom_some scope.names (s.heap.objs.size + 1) [] (x := x) (.inl hx)
      rw [z] at q; cases q
  · rcases two x c e with z | ⟨_, z⟩
    · have := (new x c z).2.2
      rw [hx] at this; cases this
    · exact hcl1 x c z

section
variable {X : Cx}
/-- the context is well made -/
theorem cxC_ok {N : List Str} {fm : List (Option Nat)} {scope : Scope} {cells : List (Str × Addr)} {pins : List (Addr × Obj)} {σ : St} {H : Hp} {s : Shared} {fp : List Addr} {h₁ : Heap} (S : CompScope X.N X.env.scope N fm scope) (hc : X.calm = true)
    (I : Inv X pins σ H s) (L : CellsFor X scope s h₁ cells)
    (hfp : ∀ b ∈ fp, FpOk X pins H b) (hfl : ∀ b ∈ fp, b < s.heap.objs.size) : (cxC X N scope cells s.heap.objs.size s H fp).Ok := by
  refine ⟨I.ok.mod, S.kind, I.ok.glob, I.ok.blt, Nat.le_refl _, L.inj, fun x hx => ?_, fun x c h e => L.cab x c (eq_of_beq h) e, fun _ => I.ok.hd hc, I.ok.frames, .inl rfl, fun b hb => ?_, I.bs, Nat.le_trans I.ok.bsz I.sz, fun b o e hb => ?_, fun b hb hf => ?_, I.stack, fun b hb => I.stkFree b hb⟩
  · have hx' : (∃ k', (relabel scope X.env).names.lookup x = some k' ∧ (k' = .cell ∨ k' = .free)) := by
      rcases hx with z | z
      · exact ⟨_, z, .inl rfl⟩
      · exact ⟨_, z, .inr rfl⟩
    obtain ⟨k', e, hk⟩ := hx'
    obtain ⟨k, e1, z⟩ := lookup_relabel e
    refine L.has x ?_
    rcases z with z | ⟨z, _⟩
    · subst z
      rcases hk with hk | hk
      · subst hk; exact .inl e1
      · subst hk; exact .inr e1
    · subst z; exact .inr e1
  · refine ⟨Nat.ne_of_lt (hfl b hb), fun x c e z => ?_⟩
    rcases L.src x c e with ⟨q, _⟩ | q
    · exact absurd (Nat.lt_trans (Nat.lt_of_lt_of_eq q z) (hfl b hb)) (Nat.lt_irrefl _)
    · exact (hfp b hb).2.2.2.2.1 x c q z
  · obtain ⟨_, _, _, h, _⟩ := hfp b hb
    rcases h with h | h
    · exact I.ok.noex b o e h
    · exact absurd (Nat.lt_of_lt_of_le (Heap.lt_size e) (Nat.le_trans I.ok.bsz h)) (Nat.lt_irrefl _)
  · obtain ⟨_, h1, h2, _⟩ := hfp b hb
    rcases List.mem_cons.mp (I.stkSub b hf) with z | z
    · exact h1 z
    · exact h2 z

theorem cxC_inv {N : List Str} {fm : List (Option Nat)} {scope : Scope} {cells : List (Str × Addr)} {pins : List (Addr × Obj)} {σ : St} {H : Hp} {s : Shared} {fp : List Addr} {h₁ : Heap} {tk : Nat} {m : Str → Option Value} (S : CompScope X.N X.env.scope N fm scope) (hc : X.calm = true)
    (I : Inv X pins σ H s) (L : CellsFor X scope s h₁ cells)
    (hfp : ∀ b ∈ fp, FpOk X pins H b) (hfl : ∀ b ∈ fp, b < s.heap.objs.size) (hn : h₁.Ns s.heap.objs.size m) (hk : ∀ b o, s.heap.get? b = some o → h₁.get? b = some o) :
    Inv (cxC X N scope cells s.heap.objs.size s H fp) [] (csel fm σ) H { s with heap := h₁, toks := tk } := by
  have len := selOk_len S.sel
  refine ⟨cxC_ok S hc I L hfp hfl, rfl, I.bare, Un.kept hk, ⟨m, hn, fun i x v e1 e2 e3 => ?_⟩, fun x c e => ?_, I.hok.fresh (Nat.le_refl _), fun x c e => ?_, fun p hp => absurd (show p ∈ ([] : List (Addr × Obj)) from hp) (by simp), I.hok.kept hk, ?_⟩
  · obtain ⟨j, f1, f2⟩ := csel_get e2
    obtain ⟨g1, g2⟩ := selOk_at S.sel e1 f1
    have hxf := S.free (x, .free) (mem_lookup g2) rfl
    obtain ⟨m0, _, hl⟩ := I.loc
    have hvis : Vis X.env.scope x := by
      rcases hxf with z | z
      · exact .inr (.inl z)
      · exact .inr (.inr z)
    obtain ⟨u, r, l⟩ := hl j x v g1 f2 hvis
    refine ⟨u, r, .inr ⟨lookup_relabel_free g2, ?_⟩⟩
    obtain ⟨c, ec⟩ := L.has x (.inr g2)
    refine ⟨c, ec, ?_⟩
    rcases l with ⟨k, _⟩ | ⟨_, c', e', z⟩
    · have k' : X.env.scope.names.lookup x = some .local := k
      rcases hxf with q | q <;> (have q' : X.env.scope.names.lookup x = _ := q; rw [k'] at q'; cases q')
    · have e3 := L.fr x c g2 ec
      rw [e'] at e3
      have e4 : c' = c := Option.some.inj e3
      subst e4
      obtain ⟨o, ho, hd⟩ := z
      exact ⟨o, hk _ _ ho, hd⟩
  · rcases L.src x c e with ⟨_, q⟩ | q
    · exact ⟨_, q⟩
    · obtain ⟨v, o, ho, hd⟩ := I.cell x c q
      exact ⟨v, o, hk _ _ ho, hd⟩
  · rcases L.src x c e with ⟨q, _⟩ | q
    · exact I.hok.fresh (Nat.le_of_lt q)
    · exact I.freeC x c q
  · show (csel fm σ).length = N.length
    unfold csel
    rw [List.length_map]; exact len

/-- the reading of a comprehension -/
def CompRun (J : It) (g : TG) (tt : TT) (te : TE) (Q : VK) (σ0 : St) (H1 : Hp) (D : Addr) : Prop :=
  ∃ W : Nat → Nat → St → Hp → Prop, (∃ m, W 0 m σ0 (upd H1 D (.lst []))) ∧ ∀ i m σ' H', W i m σ' H' →
    (J.stop i H' ∧ Q (.ref D) H') ∨ (J.go i H' ∧ ∃ N : St → Hp → Prop, (∀ σ2 H2, N σ2 H2 → ∃ m', m' < m ∧ W (i + 1) m' σ2 H2) ∧
      ∀ x H2, J.yld i H' x H2 → g x σ' H2 fun σ3 H3 => tt σ3 H3 fun b H4 => if b = true then te σ3 H4 fun y H5 => ∃ ys, H5 D = some (.lst ys) ∧ ys.length < sizeLine ∧ N σ3 (upd H5 D (.lst (ys ++ [y]))) else N σ3 H4)
def tComp (fm : List (Option Nat)) (wi : TI) (g : TG) (tt : TT) (te : TE) : TE := fun σ H Q => wi σ H fun J H1 => ∀ D, H1 D = none → CompRun J g tt te Q (csel fm σ) H1 D
/-- the tests of a comprehension: none, one -/
def PTs (X : Cx) (ifs : List Expr) (t : TT) : Prop :=
  ∀ (pins : List (Addr × Obj)) (s : Shared) (σ : St) (H : Hp) (Q : Bool → Hp → Prop), Inv X pins σ H s → t σ H Q →
    wpAny (model X.prog X.w) X.A (forIn ifs true fun c r => if r = true then do let ok ← isTrue c X.env (eval c X.env); pure (ForInStep.yield ok) else pure (ForInStep.yield r)) (TP X pins σ Q) X.xe s
def tYes : TT := fun _ H Q => Q true H
theorem pts_nil : PTs X [] tYes := fun _ _ _ H _ I h => wpAny_tests_nil ⟨H, I, h⟩
theorem pts_one {c : Expr} {t : TT} (h : PT X c t) : PTs X [c] t := fun pins s σ H Q I q => wpAny_tests_one (h pins s σ H Q I q)

theorem comp_block {elt tg iter : Expr} {ifs : List Expr} {scope : Scope} {cl : List (Str × Addr)} {N : List Str} {fm : List (Option Nat)} {pos : Pos} {g : TG} {tt : TT} {te : TE} {pins : List (Addr × Obj)} {σ : St} {H1 : Hp} {s₂ : Shared} {it : Addr} {fp : List Addr} {tn : Nat → Heap → Prop} {J : It} {Q : VK}
    {E : Value → Shared → Prop} {RR : Value → Addr → Result → Shared → Prop} (S : CompScope X.N X.env.scope N fm scope) (hc : X.calm = true) (hcl1 : ∀ x c, cl.lookup x = some c → X.env.cells.lookup x = some c) (hcl2 : ∀ y ∈ scope.names, y.2 = NameKind.free → (cl.lookup y.1).isSome = true)
    (hg : ∀ cl C s H fp, PG (cxC X N scope cl C s H fp) tg g) (ht : ∀ cl C s H fp, PTs (cxC X N scope cl C s H fp) ifs tt) (he : ∀ cl C s H fp, PE (cxC X N scope cl C s H fp) elt te)
    (I : Inv X pins σ H1 s₂) (T : Turn X.prog X.w X.K tg J fp it tn) (st : tn 0 s₂.heap) (hf : ∀ b ∈ fp, FpOk X pins H1 b)
    (hq : ∀ D, H1 D = none → CompRun J g tt te Q (csel fm σ) H1 D)
    (hRR : ∀ D C s' H' m, Inv X pins σ H' s' → s'.heap.Ns C m → H' C = none → C ≠ X.env.locals → X.s₀.heap.objs.size ≤ C → (∀ x c, X.env.cells.lookup x = some c → c ≠ C) → (∀ p ∈ X.pn ++ pins, p.1 ≠ C) → C ∉ X.fs → Q (.ref D) H' → RR (.ref D) C (.ok .next) s') :
    wpAny (model X.prog X.w) X.A (newList []) (fun acc s₃ => wpAny (model X.prog X.w) X.A (newFunctionEnv scope X.env.globals cl [] X.env.qual none .none (some X.env)) (fun cenv s₄ =>
      codeAny (model X.prog X.w) X.A (.compStart (.ListComp elt [⟨tg, iter, ifs, 0⟩] scope pos) 0 (.ref it) acc { cenv with scope := relabel scope X.env }) (RR acc cenv.locals) s₄) E s₃) E s₂ := by
  have hD : H1 s₂.heap.objs.size = none := I.hok.fresh (Nat.le_refl _)
  obtain ⟨W, ⟨m0, w0⟩, turn⟩ := hq _ hD
  refine wpAny_newObj_type (newEnvB ?_)
  -- the list, the block's names
  have I3 : Inv X pins σ (upd H1 s₂.heap.objs.size (.lst [])) { s₂ with heap := s₂.heap.push { cls := .type "list", data := .seq ([] : List Value).toArray } } := I.lnew (its := []) (t' := s₂.toks) .nil (Nat.zero_le _)
  have obj := T.obj 0 _ st
  have fl : ∀ b ∈ fp, b < s₂.heap.objs.size := fun b hb => by obtain ⟨o, e, _⟩ := obj b hb; exact Heap.lt_size e
  have hf3 : ∀ b ∈ fp, FpOk X pins (upd H1 s₂.heap.objs.size (.lst [])) b := fun b hb => by
    obtain ⟨q, r⟩ := hf b hb
    exact ⟨by rw [upd_ne (Nat.ne_of_lt (fl b hb))]; exact q, r⟩
  have sz3 : (s₂.heap.push { cls := .type "list", data := .seq ([] : List Value).toArray }).objs.size = s₂.heap.objs.size + 1 := Heap.size_push ..
  have fl3 : ∀ b ∈ fp, b < (s₂.heap.push { cls := .type "list", data := .seq ([] : List Value).toArray }).objs.size := fun b hb => by rw [sz3]; exact Nat.lt_succ_of_lt (fl b hb)
  have L := cells_for (X := X) (s := { s₂ with heap := s₂.heap.push { cls := .type "list", data := .seq ([] : List Value).toArray } }) S I.ok.inj (fun x c e => by obtain ⟨v, o, ho, _⟩ := I3.cell x c e; exact Heap.lt_size ho) hcl1 hcl2
  generalize hcells : cellsFrom ((s₂.heap.push { cls := .type "list", data := .seq ([] : List Value).toArray }).objs.size + 1) scope.names cl = cells at L ⊢
  have hns₁ : (pushCells ((s₂.heap.push { cls := .type "list", data := .seq ([] : List Value).toArray }).push { cls := .type "dict", data := .dict #[] }) scope.names).Ns (s₂.heap.push { cls := .type "list", data := .seq ([] : List Value).toArray }).objs.size (fun _ => none) :=
    (Heap.Ns.new _ (.type "dict")).keeps (pushCells_keeps _ _)
  have kp : ∀ b o, (s₂.heap.push { cls := .type "list", data := .seq ([] : List Value).toArray }).get? b = some o → (pushCells ((s₂.heap.push { cls := .type "list", data := .seq ([] : List Value).toArray }).push { cls := .type "dict", data := .dict #[] }) scope.names).get? b = some o := fun b o e => pushCells_keeps _ _ b o (Heap.get?_push_of_some _ e)
  generalize hh₁ : pushCells ((s₂.heap.push { cls := .type "list", data := .seq ([] : List Value).toArray }).push { cls := .type "dict", data := .dict #[] }) scope.names = h₁ at L hns₁ kp ⊢
  have J0 := cxC_inv (tk := s₂.toks) S hc I3 L hf3 fl3 hns₁ kp
  -- what stays true of the iterator's records
  have stat : ∀ {H' : Hp}, (∀ b ∈ fp, H' b = none) → ∀ b ∈ fp, FpOk (cxC X N scope cells (s₂.heap.push { cls := .type "list", data := .seq ([] : List Value).toArray }).objs.size { s₂ with heap := s₂.heap.push { cls := .type "list", data := .seq ([] : List Value).toArray } } (upd H1 s₂.heap.objs.size (.lst [])) fp) [] H' b :=
    fun hn b hb => ⟨hn b hb, (J0.ok.exf b hb).1, J0.ok.exfs b hb, .inl hb, (J0.ok.exf b hb).2, fun p hp => absurd (show p ∈ ([] : List (Addr × Obj)) from hp) (by simp)⟩
  have st1 : tn 0 h₁ := T.keep 0 _ _ st fun b hb o e => kp b o (Heap.get?_push_of_some _ e)
  have loop : ∀ s₃ : Shared, s₃ = { s₂ with heap := h₁, toks := s₂.toks } →
      codeAny (model X.prog X.w) X.A (.compLoop (.ListComp elt [⟨tg, iter, ifs, 0⟩] scope pos) 0 (.ref it) (.ref s₂.heap.objs.size) (compEnvC scope cells (s₂.heap.push { cls := .type "list", data := .seq ([] : List Value).toArray }).objs.size X.env))
        (RR (.ref s₂.heap.objs.size) (s₂.heap.push { cls := .type "list", data := .seq ([] : List Value).toArray }).objs.size) s₃ := by
    rintro s₃ rfl
    generalize hX : cxC X N scope cells (s₂.heap.push { cls := .type "list", data := .seq ([] : List Value).toArray }).objs.size { s₂ with heap := s₂.heap.push { cls := .type "list", data := .seq ([] : List Value).toArray } } (upd H1 s₂.heap.objs.size (.lst [])) fp = X' at J0 stat
    refine compLoop_go (fun n s' => ∃ i σ' H', Inv X' [] σ' H' s' ∧ tn i s'.heap ∧ (∀ b ∈ fp, H' b = none) ∧ W i n σ' H') ?_ m0 ⟨0, _, _, J0, st1, fun b hb => (hf3 b hb).1, w0⟩
    rintro n s3 ⟨i, σ3, H3, I3', st3, fr3, w3⟩
    rcases turn i n σ3 H3 w3 with ⟨stop, qn⟩ | ⟨go, Nx, hN, step⟩
    · have hd := T.done X' (by rw [← hX]; rfl) (by rw [← hX]; rfl) (by rw [← hX]; rfl) (by rw [← hX]; rfl) i [] s3 σ3 H3 (fun _ _ => False) I3' (stat fr3) st3 stop
      have hA : X'.A = X.A := by rw [← hX]; rfl
      rw [hA] at hd
      refine wpAny_mono hd (fun r s4 ⟨hr, I4⟩ => ?_) fun _ _ z => z
      subst hr
      show RR _ _ (.ok .next) s4
      subst hX
      obtain ⟨m', hm', _⟩ := I4.loc
      refine hRR _ _ s4 H3 m' (I3.call' (ch := fp) I4.os I4.base I4.hok I4.bare fun b hb => ?_) hm' I4.free ?_ ?_ ?_ ?_ ?_ qn
      · obtain ⟨_, f1, f2, f3, f4, f5⟩ := hf b hb
        exact ⟨f3, f1, f4, f5⟩
      · exact Nat.ne_of_gt (Nat.lt_of_lt_of_le I.lt (by rw [sz3]; exact Nat.le_succ _))
      · exact Nat.le_trans I.sz (by rw [sz3]; exact Nat.le_succ _)
      · intro x c e z
        obtain ⟨v, o, ho, _⟩ := I3.cell x c e
        exact Nat.lt_irrefl _ (Nat.lt_of_lt_of_eq (Heap.lt_size ho) z.symm)
      · intro p hp z
        have e := (I3.pin p hp).1
        exact Nat.lt_irrefl _ (Nat.lt_of_lt_of_eq (Heap.lt_size e) z.symm)
      · exact I3.nofs (Nat.le_refl _)
    · have hi := T.item X' (by rw [← hX]; rfl) (by rw [← hX]; rfl) (by rw [← hX]; rfl) (by rw [← hX]; rfl) i [] s3 σ3 H3 (fun _ _ => False) I3' (stat fr3) st3 go
      have hA : X'.A = X.A := by rw [← hX]; rfl
      have hP : X'.prog = X.prog := by rw [← hX]; rfl
      have hw' : X'.w = X.w := by rw [← hX]; rfl
      have hE : X'.env = compEnvC scope cells (s₂.heap.push { cls := .type "list", data := .seq ([] : List Value).toArray }).objs.size X.env := by rw [← hX]; rfl
      have hxe : X'.xe = fun _ _ => False := by rw [← hX]; rfl
      rw [hA] at hi
      refine wpAny_mono hi (fun r s4 ⟨u, hr, h4⟩ => ?_) fun _ _ z => z
      subst hr
      refine wpAny_mono h4 (fun _ s5 ⟨x, H5, I5, r5, y5, st5, fr5⟩ => ?_) fun _ _ z => z
      have I5' := I5.pinned (stat fr5) (T.obj _ _ st5)
      have q1 := (by rw [← hX]; exact hg _ _ _ _ _ : PG X' tg g) _ s5 σ3 H5 x u _ I5' r5 (step x H5 y5)
      rw [hP, hw', hA, hE, hxe] at q1
      refine wpAny_mono q1 (fun _ s6 ⟨σ6, H6, I6, q6⟩ => ?_) fun _ _ z => z
      have q2 := (by rw [← hX]; exact ht _ _ _ _ _ : PTs X' ifs tt) _ s6 σ6 H6 _ I6 q6
      rw [hP, hw', hA, hE, hxe] at q2
      refine wpAny_mono q2 (fun ok s7 ⟨H7, I7, q7⟩ => ?_) fun _ _ z => z
      have again : ∀ {s8 : Shared} {σ8 : St} {H8 : Hp}, Inv X' ([] ++ pinsAt fp s5.heap) σ8 H8 s8 → Nx σ8 H8 → ∃ m, m < n ∧ ∃ i σ' H', Inv X' [] σ' H' s8 ∧ tn i s8.heap ∧ (∀ b ∈ fp, H' b = none) ∧ W i m σ' H' := fun {s8 σ8 H8} I8 n8 => by
        obtain ⟨m', hm, w8⟩ := hN σ8 H8 n8
        refine ⟨m', hm, i + 1, σ8, H8, I8.unpinned, T.keep _ _ _ st5 fun b hb o e => (I8.pin (b, o) (List.mem_append_right _ (List.mem_append_right _ (mem_pinsAt hb e)))).1, fun b hb => ?_, w8⟩
        obtain ⟨o, e, d⟩ := T.obj _ _ st5 b hb
        exact (I8.pin (b, o) (List.mem_append_right _ (List.mem_append_right _ (mem_pinsAt hb e)))).2.1
      cases ok with
      | false => exact again I7 q7
      | true =>
        have q3 := (by rw [← hX]; exact he _ _ _ _ _ : PE X' elt te) _ s7 σ6 H7 _ I7 q7
        rw [hP, hw', hA, hE, hxe] at q3
        refine wpAny_mono q3 (fun z s8 ⟨y, H8, I8, r8, ys, e8, l8, n8⟩ => ?_) fun _ _ z => z
        have q4 := mt_append (X := X') _ s8 σ6 H8 (.ref s₂.heap.objs.size) [y] (.ref s₂.heap.objs.size) [z] (fun v H' => Nx σ6 H') I8 rfl (.cons r8 .nil) ⟨_, ys, y, rfl, rfl, e8, l8, n8⟩
        rw [hP, hw', hA, hxe] at q4
        exact wpAny_mono q4 (fun _ s9 ⟨_, H9, I9, _, n9⟩ => again I9 n9) fun _ _ z => z
  exact codeAny_compStart_list (loop _ rfl) (T.self _ 0 _ _ _ st1 (loop _ rfl))

/-- [elt for tg in iter if ..] as a value -/
theorem pe_comp {elt tg iter : Expr} {ifs : List Expr} {scope : Scope} {pos : Pos} {wi : TI} {g : TG} {tt : TT} {te : TE} (XN : List Str) (xsc : Scope) (N : List Str) (fm : List (Option Nat)) (S : CompScope XN xsc N fm scope) (hc : X.calm = true) (hi : PI X tg iter wi)
    (hg : ∀ cl C s H fp, PG (cxC X N scope cl C s H fp) tg g) (ht : ∀ cl C s H fp, PTs (cxC X N scope cl C s H fp) ifs tt) (he : ∀ cl C s H fp, PE (cxC X N scope cl C s H fp) elt te)
    (hXN : X.N = XN := by rfl) (hXs : X.env.scope = xsc := by rfl) (hs : ∀ x, foldedSetIterable iter X.env x = pure x := by intro _; rfl) : PE X (.ListComp elt [⟨tg, iter, ifs, 0⟩] scope pos) (tComp fm wi g tt te) := by
  intro pins s σ H Q I h
  subst hXN hXs
  obtain ⟨cl, hclos, hcl1, hcl2⟩ := clos_of (scope := scope) (env := X.env) fun y hy hf => I.ok.has y.1 (S.free y hy hf)
  rw [eval_ListComp]
  refine wpAny_comprehension_free (use := none) rfl hs hclos S.kind S.loc (thn (hi pins s σ H _ I h) fun xv s₁ h₁ => thn h₁ fun itv s₂ h₂ => ?_)
  obtain ⟨it, fp, tn, J, H1, e, I2, T, st, hf, hq⟩ := h₂
  subst e
  refine comp_block (RR := fun acc C => compPost (model X.prog X.w) X.A X.xe none (EP X pins σ Q) acc C) S hc hcl1 hcl2 hg ht he I2 T st hf hq ?_
  intro D C s' H' m I' hn hC hL hC0 hcc hpp hfs q
  refine ⟨m, hn, fun h' hs' => ⟨.ref D, H', ?_, rfl, q⟩⟩
  exact I'.turned (t' := s'.toks) (it := C) (fun b o hb e => hs'.extBut b o hb e) hC hL (.inr hC0) hcc hpp

/-- name = [elt for tg in iter if ..] -/
theorem ps_setC {i : Nat} {y : Str} {elt tg iter : Expr} {ifs : List Expr} {scope : Scope} {pos spos py : Pos} {wi : TI} {g : TG} {tt : TT} {te : TE} (XN : List Str) (xsc : Scope) (N : List Str) (fm : List (Option Nat)) (S : CompScope XN xsc N fm scope) (hc : X.calm = true)
    (hN : X.N.Nodup) (hiy : X.N[i]? = some y) (hy : X.env.scope.names.lookup y = some .local) (hi : PI X tg iter wi)
    (hg : ∀ cl C s H fp, PG (cxC X N scope cl C s H fp) tg g) (ht : ∀ cl C s H fp, PTs (cxC X N scope cl C s H fp) ifs tt) (he : ∀ cl C s H fp, PE (cxC X N scope cl C s H fp) elt te)
    (hXN : X.N = XN := by rfl) (hXs : X.env.scope = xsc := by rfl) (hs : ∀ x, foldedSetIterable iter X.env x = pure x := by intro _; rfl)
    (hsw : swapsWith (.ListComp elt [⟨tg, iter, ifs, 0⟩] scope pos) (some (.Name y py)) spos.line X.env = pure true := by rfl) :
    PS X (.Assign [.Name y py] (.ListComp elt [⟨tg, iter, ifs, 0⟩] scope pos) spos) (tAsg (tComp fm wi g tt te) (gName i)) := by
  intro pins s σ H D I h
  subst hXN hXs
  obtain ⟨cl, hclos, hcl1, hcl2⟩ := clos_of (scope := scope) (env := X.env) fun y hy hf => I.ok.has y.1 (S.free y hy hf)
  rw [exec_Assign_Name_used _ _ _ _ hsw]
  refine wpAny_bind (wpAny_standAt (wpAny_bind ?_))
  show wpAny _ X.A (do let _ ← comprehension (.ListComp elt [⟨tg, iter, ifs, 0⟩] scope pos) scope X.env _ (newList []) false (eval iter X.env) (some (assign (.Name y py) X.env))) _ _ s
  refine wpAny_bind (wpAny_mono (wpAny_comprehension_free (use := some (assign (.Name y py) X.env)) (Q := fun _ s' => SP X pins D .next s') rfl hs hclos S.kind S.loc
    (thn (hi pins s σ H _ I h) fun xv s₁ h₁ => thn h₁ fun itv s₂ h₂ => ?_)) (fun _ s' hq => wpAny_pure (wpAny_pure hq)) fun _ _ e => e)
  obtain ⟨it, fp, tn, J, H1, e, I2, T, st, hf, hq⟩ := h₂
  subst e
  refine comp_block (Q := fun x H1 => gName i x σ H1 D.nx) (RR := fun acc C => compPost (model X.prog X.w) X.A X.xe (some (assign (.Name y py) X.env)) (fun _ s' => SP X pins D .next s') acc C) S hc hcl1 hcl2 hg ht he I2 T st hf hq ?_
  intro D' C s' H' m I' hn hC hL hC0 hcc hpp hfs q
  show wpAny _ X.A (assign (.Name y py) X.env (.ref D')) _ _ _
  obtain ⟨oC, es, ep, hoC, hdC, hrC⟩ := id hn
  have Ip : Inv X (pins ++ [(C, oC)]) σ H' s' := I'.pins_of fun p hp => by
    rcases List.mem_append.mp hp with z | z
    · exact I'.pin p (List.mem_append_right _ z)
    · have z' : p = (C, oC) := by simpa using z
      subst z'
      exact ⟨hoC, hC, hL, hfs, fun v z => by rw [hdC] at z; cases z⟩
  refine wpAny_assign_Name (store_ok Ip hN hiy (.inl hy) (v := .ref D') rfl (fun s2 I3 => ?_) (.inr hy))
  have hC2 := (I3.pin (C, oC) (List.mem_append_right _ (List.mem_append_right _ (by simp))))
  refine ⟨m, ⟨oC, es, ep, hC2.1, hdC, hrC⟩, fun h' hs' => ⟨_, H', ?_, q⟩⟩
  exact I3.unpinned.turned (t' := s2.toks) (it := C) (fun b o hb e => hs'.extBut b o hb e) hC hL (.inr hC0) hcc hpp
end
end L2

namespace L2
open PySem PySem.Spec PyProof.Rows

/-! ### forms of comprehensions that one uses: one name as the target, in slot 0 -/
/-- behind a turn: the list stands at D -/
def CN (σ0 : St) (D : Addr) (Pv : Nat → List V → Hp → Prop) (i : Nat) : St → Hp → Prop := fun σ H => (∃ v, σ = σ0.set 0 v) ∧ ∃ ys, H D = some (.lst ys) ∧ Pv i ys H
/-- the element's end -/
def CE1 (σ0 : St) (D : Addr) (Pv : Nat → List V → Hp → Prop) (i : Nat) (σ : St) : VK := fun y H => ∃ ys, H D = some (.lst ys) ∧ ys.length < sizeLine ∧ CN σ0 D Pv i σ (upd H D (.lst (ys ++ [y])))
theorem CE1.mk {σ0 : St} {D : Addr} {Pv : Nat → List V → Hp → Prop} {i : Nat} {v : Option V} {y : V} {H : Hp} {ys : List V} (hD : H D = some (.lst ys)) (hl : ys.length < sizeLine) (h : Pv i (ys ++ [y]) (upd H D (.lst (ys ++ [y])))) : CE1 σ0 D Pv i (σ0.set 0 v) y H :=
  ⟨ys, hD, hl, ⟨v, rfl⟩, _, upd_same, h⟩
theorem CN.mk {σ0 : St} {D : Addr} {Pv : Nat → List V → Hp → Prop} {i : Nat} {v : Option V} {H : Hp} {ys : List V} (hD : H D = some (.lst ys)) (h : Pv i ys H) : CN σ0 D Pv i (σ0.set 0 v) H := ⟨⟨v, rfl⟩, ys, hD, h⟩
theorem comp_list {K : PySem.W.Frag} {a D : Addr} {xs : List V} {tt : TT} {te : TE} {σ0 : St} {H1 : Hp} {Q : VK} (Pv : Nat → List V → Hp → Prop) (h0 : Pv 0 [] (upd H1 D (.lst [])))
    (hl : ∀ i ys H, i ≤ xs.length → Pv i ys H → SqL K H a xs)
    (hs : ∀ i x ys H, xs[i]? = some x → Pv i ys H → H D = some (.lst ys) → tt (σ0.set 0 (some x)) H fun b H4 => if b = true then te (σ0.set 0 (some x)) H4 (CE1 σ0 D Pv (i + 1) (σ0.set 0 (some x))) else CN σ0 D Pv (i + 1) (σ0.set 0 (some x)) H4)
    (hd : ∀ ys H, Pv xs.length ys H → H D = some (.lst ys) → Q (.ref D) H) :
    CompRun (Itl K a) (gName 0) tt te Q σ0 H1 D := by
  refine ⟨fun i m σ H => m = xs.length - i ∧ i ≤ xs.length ∧ (σ = σ0 ∨ ∃ v, σ = σ0.set 0 v) ∧ ∃ ys, H D = some (.lst ys) ∧ Pv i ys H, ⟨xs.length, by simp, Nat.zero_le _, .inl rfl, [], upd_same, h0⟩, ?_⟩
  rintro i m σ H ⟨rfl, hi, hσ, ys, hD, p⟩
  have q := hl i ys H hi p
  by_cases hlt : i < xs.length
  · refine .inr ⟨⟨xs, xs[i], q, by simp [hlt]⟩, CN σ0 D Pv (i + 1), fun σ' H' ⟨a1, a2⟩ => ⟨xs.length - (i + 1), by omega, rfl, hlt, .inr a1, a2⟩, fun x H' y => ?_⟩
    obtain ⟨e, y⟩ := y
    subst e
    have hx := y xs q
    have eσ : σ.set 0 (some x) = σ0.set 0 (some x) := by
      rcases hσ with rfl | ⟨v, rfl⟩
      · rfl
      · rw [List.set_set]
    show tt (σ.set 0 (some x)) _ _
    rw [eσ]
    exact hs i x ys _ hx p hD
  · have e : i = xs.length := by omega
    subst e
    exact .inl ⟨⟨xs, q, Nat.le_refl _⟩, hd ys H p hD⟩
theorem comp_range {D : Addr} {lo : Int} {n : Nat} {tt : TT} {te : TE} {σ0 : St} {H1 : Hp} {Q : VK} (Pv : Nat → List V → Hp → Prop) (h0 : Pv 0 [] (upd H1 D (.lst [])))
    (hs : ∀ i ys H, i < n → Pv i ys H → H D = some (.lst ys) → tt (σ0.set 0 (some (.int (lo + i)))) H fun b H4 => if b = true then te (σ0.set 0 (some (.int (lo + i)))) H4 (CE1 σ0 D Pv (i + 1) (σ0.set 0 (some (.int (lo + i))))) else CN σ0 D Pv (i + 1) (σ0.set 0 (some (.int (lo + i)))) H4)
    (hd : ∀ ys H, Pv n ys H → H D = some (.lst ys) → Q (.ref D) H) :
    CompRun (Itr lo n) (gName 0) tt te Q σ0 H1 D := by
  refine ⟨fun i m σ H => m = n - i ∧ i ≤ n ∧ (σ = σ0 ∨ ∃ v, σ = σ0.set 0 v) ∧ ∃ ys, H D = some (.lst ys) ∧ Pv i ys H, ⟨n, by simp, Nat.zero_le _, .inl rfl, [], upd_same, h0⟩, ?_⟩
  rintro i m σ H ⟨rfl, hi, hσ, ys, hD, p⟩
  by_cases hlt : i < n
  · refine .inr ⟨hlt, CN σ0 D Pv (i + 1), fun σ' H' ⟨a1, a2⟩ => ⟨n - (i + 1), by omega, rfl, hlt, .inr a1, a2⟩, fun x H' y => ?_⟩
    obtain ⟨e, y⟩ := y
    subst e y
    have eσ : σ.set 0 (some (.int (lo + i))) = σ0.set 0 (some (.int (lo + i))) := by
      rcases hσ with rfl | ⟨v, rfl⟩
      · rfl
      · rw [List.set_set]
    show tt (σ.set 0 (some (.int (lo + i)))) _ _
    rw [eσ]
    exact hs i ys _ hlt p hD
  · have e : i = n := by omega
    subst e
    exact .inl ⟨Nat.le_refl _, hd ys H p hD⟩

theorem yes_mk {σ : St} {H : Hp} {A B : Hp → Prop} (h : A H) : tYes σ H (fun b H4 => if b = true then A H4 else B H4) := by
  show (if true = true then A H else B H)
  rw [if_pos rfl]; exact h

/-! ### all, any, isinstance -/
section
variable {X : Cx}
theorem range_all : ∀ (bs : List Bool), (List.range bs.length).all (fun i => (bs[i]?).getD true) = bs.all id := by
  intro bs
  rw [Bool.eq_iff_iff, List.all_eq_true, List.all_eq_true]
  constructor
  · intro h b hb
    obtain ⟨i, hi, e⟩ := List.mem_iff_getElem.mp hb
    have := h i (List.mem_range.mpr hi)
    rw [List.getElem?_eq_getElem hi, e] at this
    exact this
  · intro h i hi
    have hi := List.mem_range.mp hi
    rw [List.getElem?_eq_getElem hi]
    exact h _ (List.getElem_mem hi)
theorem range_any : ∀ (bs : List Bool), (List.range bs.length).any (fun i => (bs[i]?).getD false) = bs.any id := by
  intro bs
  rw [Bool.eq_iff_iff, List.any_eq_true, List.any_eq_true]
  constructor
  · rintro ⟨i, hi, e⟩
    have hi := List.mem_range.mp hi
    rw [List.getElem?_eq_getElem hi] at e
    exact ⟨_, List.getElem_mem hi, e⟩
  · rintro ⟨b, hb, e⟩
    obtain ⟨i, hi, e2⟩ := List.mem_iff_getElem.mp hb
    refine ⟨i, List.mem_range.mpr hi, ?_⟩
    rw [List.getElem?_eq_getElem hi, e2]
    exact e
theorem vals_bl {bs : List Bool} {its : List Value} (r : Vals (bs.map V.bl) its) {i : Nat} {v : Value} (h : its[i]? = some v) : ∃ b, bs[i]? = some b ∧ v = .bool b := by
  have hl := r.length
  rw [List.length_map] at hl
  have hi : i < bs.length := by
    have := (List.getElem?_eq_some_iff.mp h).1
    omega
  have e : (bs.map V.bl)[i]? = some (.bl bs[i]) := by rw [List.getElem?_map, List.getElem?_eq_getElem hi]; rfl
  obtain ⟨u, h1, h2⟩ := r.get e
  rw [h] at h1
  have e2 : v = u := Option.some.inj h1
  subst e2
  exact ⟨bs[i], List.getElem?_eq_getElem hi, h2⟩
theorem call_all (hc : X.calm = true) : CallR X (.builtin "all") (fun xs H Q => ∃ (p : Addr) (bs : List Bool), xs = [.ref p] ∧ SqL X.K H p (bs.map V.bl) ∧ Q (.bl (bs.all id)) H) := by
  intro pins s σ H xs us Q I r h
  obtain ⟨p, bs, rfl, hq, q⟩ := h
  obtain ⟨u, rfl, rx⟩ := vals1 r
  cases rx
  obtain ⟨its, rv, pl, hz⟩ := I.list hq
  have hl := pl.isList
  have hlt : p < s.heap.objs.size := by obtain ⟨_, e, _⟩ := hl; exact Heap.lt_size e
  have hlen := rv.length
  rw [List.length_map] at hlen
  refine call_all_walk (wpAny_pyIter_list hl ?_)
  refine ⟨s.heap.objs.size, _, _, _, _, _, fun i => (bs[i]?).getD true, rfl, Walks.list (A := X.A.in1) (show X.A.handled = none from I.ok.hd hc) s.heap.objs.size p (Nat.ne_of_lt hlt) its.toArray, ⟨⟨_, Heap.get?_push_size _ rfl, rfl, rfl⟩, hl.push _⟩, ?_, ?_⟩
  · intro i v s' Q' E' hP hQ
    have hP' : its[i]? = some v := by simpa using hP
    obtain ⟨b, e, rfl⟩ := vals_bl rv hP'
    dsimp only at hQ
    rw [e] at hQ
    exact wpAny_truthy_bool hQ
  · intro h' tk hk
    have I1 : Inv X pins σ H { s with heap := s.heap.push { cls := .type "list_iterator", data := .fields #[.ref p, .int 0 0] } } := I.kept (t' := s.toks) fun b o e => Heap.get?_push_of_some _ e
    have fo := I.fpOk (b := s.heap.objs.size) (Nat.le_refl _) (I.hok.fresh (Nat.le_refl _))
    obtain ⟨f0, f1, f2, f3, f4, f5⟩ := fo
    refine ⟨.bl (bs.all id), H, I1.turned (t' := tk) (it := s.heap.objs.size) (fun b o hb e => hk b o (by simpa using hb) e) f0 f1 f3 f4 f5, ?_, q⟩
    show Value.bool _ = Value.bool _
    rw [List.size_toArray, ← hlen, range_all]
theorem call_any (hc : X.calm = true) : CallR X (.builtin "any") (fun xs H Q => ∃ (p : Addr) (bs : List Bool), xs = [.ref p] ∧ SqL X.K H p (bs.map V.bl) ∧ Q (.bl (bs.any id)) H) := by
  intro pins s σ H xs us Q I r h
  obtain ⟨p, bs, rfl, hq, q⟩ := h
  obtain ⟨u, rfl, rx⟩ := vals1 r
  cases rx
  obtain ⟨its, rv, pl, hz⟩ := I.list hq
  have hl := pl.isList
  have hlt : p < s.heap.objs.size := by obtain ⟨_, e, _⟩ := hl; exact Heap.lt_size e
  have hlen := rv.length
  rw [List.length_map] at hlen
  refine call_any_walk (wpAny_pyIter_list hl ?_)
  refine ⟨s.heap.objs.size, _, _, _, _, _, fun i => (bs[i]?).getD false, rfl, Walks.list (A := X.A.in1) (show X.A.handled = none from I.ok.hd hc) s.heap.objs.size p (Nat.ne_of_lt hlt) its.toArray, ⟨⟨_, Heap.get?_push_size _ rfl, rfl, rfl⟩, hl.push _⟩, ?_, ?_⟩
  · intro i v s' Q' E' hP hQ
    have hP' : its[i]? = some v := by simpa using hP
    obtain ⟨b, e, rfl⟩ := vals_bl rv hP'
    dsimp only at hQ
    rw [e] at hQ
    exact wpAny_truthy_bool hQ
  · intro h' tk hk
    have I1 : Inv X pins σ H { s with heap := s.heap.push { cls := .type "list_iterator", data := .fields #[.ref p, .int 0 0] } } := I.kept (t' := s.toks) fun b o e => Heap.get?_push_of_some _ e
    have fo := I.fpOk (b := s.heap.objs.size) (Nat.le_refl _) (I.hok.fresh (Nat.le_refl _))
    obtain ⟨f0, f1, f2, f3, f4, f5⟩ := fo
    refine ⟨.bl (bs.any id), H, I1.turned (t' := tk) (it := s.heap.objs.size) (fun b o hb e => hk b o (by simpa using hb) e) f0 f1 f3 f4 f5, ?_, q⟩
    show Value.bool _ = Value.bool _
    rw [List.size_toArray, ← hlen, range_any]
/-- isinstance(x, T), T a built-in type by name -/
def rIsi (K : PySem.W.Frag) : List V → Hp → VK → Prop := fun xs H Q => ∃ x t n b, xs = [x, .ty n] ∧ TyOf K H x t ∧ PySem.W.kitOne K t (.type n) = some b ∧ Q (.bl b) H
theorem call_isinst : CallR X (.builtin "isinstance") (rIsi X.K) := by
  intro pins s σ H xs us Q I r h
  obtain ⟨x, t, n, b, rfl, ty, e, q⟩ := h
  obtain ⟨u, c, rfl, rx, rc⟩ := vals2 r
  obtain rfl : c = Value.type n := rc
  exact isinst_ok I rx ty e fun tk => ⟨.bl b, H, I.tok tk, rfl, q⟩
end

/-! ### the rules that speak of the written part, by its name -/
section
variable {X : Cx} {a b o e l : Expr} {es : List Expr} {ta tl : TE} {t : TA} {pos apos cpos : Pos} {f : Str}
theorem ix_tupK (K : PySem.W.Frag) (h : X.K = K := by rfl) : IxR X (rIxT K) := by subst h; exact ix_tup
theorem ix_listK (K : PySem.W.Frag) (h : X.K = K := by rfl) : IxR X (rIxL K) := by subst h; exact ix_list
theorem call_isinstK (K : PySem.W.Frag) (h : X.K = K := by rfl) : CallR X (.builtin "isinstance") (rIsi K) := by subst h; exact call_isinst
def rLen (K : PySem.W.Frag) : List V → Hp → VK → Prop := fun xs H Q => ∃ p ys, xs = [.ref p] ∧ (SqL K H p ys ∨ SqT K H p ys) ∧ Q (.int ys.length) H
theorem call_lenK (K : PySem.W.Frag) (h : X.K = K := by rfl) : CallR X (.builtin "len") (rLen K) := by subst h; exact call_len_seq
def rList (K : PySem.W.Frag) : List V → Hp → VK → Prop := fun xs H Q => ∃ p ys, xs = [.ref p] ∧ (SqL K H p ys ∨ SqT K H p ys) ∧ ∀ l, H l = none → Q (.ref l) (upd H l (.lst ys))
theorem call_listK (K : PySem.W.Frag) (h : X.K = K := by rfl) : CallR X (.type "list") (rList K) := by subst h; exact call_list_of
def rTuple (K : PySem.W.Frag) : List V → Hp → VK → Prop := fun xs H Q => ∃ p ys, xs = [.ref p] ∧ ((SqL K H p ys ∧ ∀ l, H l = none → Q (.ref l) (upd H l (.tup ys))) ∨ (SqT K H p ys ∧ Q (.ref p) H))
theorem call_tupleK (K : PySem.W.Frag) (h : X.K = K := by rfl) : CallR X (.type "tuple") (rTuple K) := by subst h; exact call_tuple_of
def rAll (K : PySem.W.Frag) : List V → Hp → VK → Prop := fun xs H Q => ∃ (p : Addr) (bs : List Bool), xs = [.ref p] ∧ SqL K H p (bs.map V.bl) ∧ Q (.bl (bs.all id)) H
theorem call_allK (K : PySem.W.Frag) (hc : X.calm = true) (h : X.K = K := by rfl) : CallR X (.builtin "all") (rAll K) := by subst h; exact call_all hc
def rAny (K : PySem.W.Frag) : List V → Hp → VK → Prop := fun xs H Q => ∃ (p : Addr) (bs : List Bool), xs = [.ref p] ∧ SqL K H p (bs.map V.bl) ∧ Q (.bl (bs.any id)) H
theorem call_anyK (K : PySem.W.Frag) (hc : X.calm = true) (h : X.K = K := by rfl) : CallR X (.builtin "any") (rAny K) := by subst h; exact call_any hc
theorem op_inK (K : PySem.W.Frag) (h : X.K = K := by rfl) : OpR X (compareOp .In) (rIn K false) := by subst h; exact op_in_seq
theorem pi_listK (K : PySem.W.Frag) {tg : Expr} (hl : PE X l tl) (h : X.K = K := by rfl) : PI X tg l (iList K tl) := by subst h; exact pi_list hl
theorem pg_tupK (K : PySem.W.Frag) {ts : List Expr} {k : Nat} {t : TGs} {n : Nat} (hc : X.calm = true) (hg : PGs X ts t) (h : X.K = K := by rfl)
    (hn : (assignEach ts X.env).length = n := by rfl) (hst : (assignEach ts X.env).findIdx? (·.1) = none := by rfl) : PG X (.Tuple ts k pos) (gTup K n t) := by subst h; exact pg_tup hc hg hn hst
theorem pe_fldK (K : PySem.W.Frag) (he : PE X e ta) (h : X.K = K := by rfl) (hb : attributeBase e f X.env (eval e X.env) = eval e X.env := by rfl) : PE X (.Attribute e f pos) (tFld K ta f) := by subst h; exact pe_fld he hb
theorem ps_fldK (K : PySem.W.Frag) {value : Expr} {tv : TE} {pos' : Pos} (ha : PE X o ta) (hv : PE X value tv) (h : X.K = K := by rfl) (hs : swapsWith value (some (.Attribute o f pos')) pos.line X.env = pure false := by rfl) : PS X (.Assign [.Attribute o f pos'] value pos) (sFld K ta tv f) := by subst h; exact ps_fld ha hv hs
theorem pe_appendK (K : PySem.W.Frag) {to : TE} (ho : PE X o to) (ha : PA X [e] t) (h : X.K = K := by rfl) (hbase : attributeBase o "append" X.env (eval o X.env) = eval o X.env := by rfl)
    (hfew : ((backTo cpos (starEach [e] X.env)).all (fun x => !x.1) && (backToKw cpos (keywordEach [] X.env)).all (fun x => x.1.isSome)
      && decide ([e].length + ([] : List Keyword).length + (if ([] : List Keyword).isEmpty then 0 else 1) < 30)) = true := by rfl)
    (hline : (apos.endLine == cpos.line) = true := by rfl) (hs : starEach [e] X.env = (false, eval e X.env) :: starEach [] X.env := by rfl) (hplain : (backTo cpos (starEach [] X.env)).any (·.1) = false := by rfl) :
    PE X (.Call (.Attribute o "append" apos) [e] [] cpos) (tBM K "list" rAppend to t) := by subst h; exact pe_bm PySem.F.plainAttrs_list PySem.F.slot_list_append PySem.F.type_list_append mt_append ho ha hbase hfew hline hs hplain
theorem pt_truthK (K : PySem.W.Frag) (ha : PE X a ta) (h : X.K = K := by rfl) (he : ∀ whole, isTrue a X.env whole = (do let v ← whole; standAt a.pos; holding [v] (truthy v)) := by intro _; rfl) :
    PT X a (fun σ H Q => ta σ H fun x H' => ∃ k, TruV K x H' k ∧ Q k H') := by subst h; exact pt_truth ha he
end

/-! ### data in the heap, == and != at any depth -/
mutual
inductive Dt (H : Hp) : V → PyData → Prop
  | non : Dt H .non .none
  | bl (b : Bool) : Dt H (.bl b) (.bool b)
  | int (i : Int) : Dt H (.int i) (.int i)
  | str (x : Str) : Dt H (.str x) (.str x)
  | lst {a : Addr} {xs : List V} {ds : List PyData} : H a = some (.lst xs) → Dts H xs ds → Dt H (.ref a) (.list ds)
  | tup {a : Addr} {xs : List V} {ds : List PyData} : H a = some (.tup xs) → Dts H xs ds → Dt H (.ref a) (.tuple ds)
inductive Dts (H : Hp) : List V → List PyData → Prop
  | nil : Dts H [] []
  | cons {x : V} {xs : List V} {d : PyData} {ds : List PyData} : Dt H x d → Dts H xs ds → Dts H (x :: xs) (d :: ds)
end
mutual
theorem Dt.same {H H' : Hp} (e : Same H H') : ∀ {v : V} {d : PyData}, Dt H v d → Dt H' v d
  | _, _, .non => .non
  | _, _, .bl b => .bl b
  | _, _, .int i => .int i
  | _, _, .str x => .str x
  | _, _, .lst h ds => .lst (e _ _ h) (Dts.same e ds)
  | _, _, .tup h ds => .tup (e _ _ h) (Dts.same e ds)
theorem Dts.same {H H' : Hp} (e : Same H H') : ∀ {vs : List V} {ds : List PyData}, Dts H vs ds → Dts H' vs ds
  | _, _, .nil => .nil
  | _, _, .cons h t => .cons (Dt.same e h) (Dts.same e t)
end
mutual
theorem Dt.reads {P : Program} {w : World} {H : Hp} {h : Heap} (ok : HOk P w H h) : ∀ {v : V} {d : PyData} {u : Value}, Dt H v d → RelV v u → ∃ as, Reads h u d as
  | _, _, u, .non, r => by cases (show u = Value.none from r); exact ⟨_, .none⟩
  | _, _, u, .bl b, r => by cases (show u = Value.bool b from r); exact ⟨_, .bool b⟩
  | _, _, u, .int i, r => by obtain ⟨t, rfl⟩ := (show ∃ t, u = Value.int i t from r); exact ⟨_, .int i t⟩
  | _, _, u, .str x, r => by obtain ⟨t, rfl⟩ := (show ∃ t, u = Value.str x t from r); exact ⟨_, .str x t⟩
  | _, _, u, .lst (a := a) (xs := xs) e ds, r => by
    cases (show u = Value.ref a from r)
    obtain ⟨_, its, n, rv, e1⟩ := (show ObjOk P w H h a (.lst xs) from ok a _ e)
    obtain ⟨as, ra⟩ := Dts.reads ok ds rv
    exact ⟨_, .list e1 rfl rfl (by simpa using ra)⟩
  | _, _, u, .tup (a := a) (xs := xs) e ds, r => by
    cases (show u = Value.ref a from r)
    obtain ⟨_, its, rv, ob, e1, hc, n, hd⟩ := (show ObjOk P w H h a (.tup xs) from ok a _ e)
    obtain ⟨as, ra⟩ := Dts.reads ok ds rv
    exact ⟨_, .tuple e1 hc hd (by simpa using ra)⟩
theorem Dts.reads {P : Program} {w : World} {H : Hp} {h : Heap} (ok : HOk P w H h) : ∀ {vs : List V} {ds : List PyData} {us : List Value}, Dts H vs ds → Vals vs us → ∃ as, ReadsAll h us ds as
  | _, _, us, .nil, r => by cases r; exact ⟨_, .nil⟩
  | _, _, us, .cons hd tl, r => by
    cases r with
    | cons r1 r2 =>
      obtain ⟨as, ra⟩ := Dt.reads ok hd r1
      obtain ⟨bs, rb⟩ := Dts.reads ok tl r2
      exact ⟨_, .cons ra rb⟩
end
def rEqD (neg : Bool) : R2 := fun x y H Q => ∃ da db, Dt H x da ∧ Dt H y db ∧ da.canLay0 = true ∧ db.canLay0 = true ∧ da.depth ≤ 60 ∧ Q (.bl (if neg = true then !PyData.eqv da db else PyData.eqv da db)) H
section
variable {X : Cx}
theorem op_eqD (hu : X.A.units + 64 < cLine) : OpR X (compareOp .Eq) (rEqD false) := by
  intro pins s σ H x y v u Q I rx ry h
  obtain ⟨da, db, d1, d2, c1, c2, hd, q⟩ := h
  obtain ⟨as, ra⟩ := d1.reads I.hok rx
  obtain ⟨bs, rb⟩ := d2.reads I.hok ry
  exact SeqAt.compareEq_reads ra rb c1 c2 (by have : min da.depth db.depth ≤ da.depth := Nat.min_le_left _ _; omega) ⟨.bl _, H, I, rfl, q⟩
theorem op_neD (hu : X.A.units + 64 < cLine) : OpR X (compareOp .NotEq) (rEqD true) := by
  intro pins s σ H x y v u Q I rx ry h
  obtain ⟨da, db, d1, d2, c1, c2, hd, q⟩ := h
  obtain ⟨as, ra⟩ := d1.reads I.hok rx
  obtain ⟨bs, rb⟩ := d2.reads I.hok ry
  exact SeqAt.compareNe_reads ra rb c1 c2 (by have : min da.depth db.depth ≤ da.depth := Nat.min_le_left _ _; omega) ⟨.bl _, H, I, rfl, q⟩
end
end L2

namespace L2
open PySem PySem.Spec PyProof.Rows

/-! ### enumerate, zip: each turn a new pair -/
/-- the records at ch turn, a tuple is laid -/
theorem Inv.yields {X : Cx} {pins : List (Addr × Obj)} {σ : St} {H : Hp} {s : Shared} {h' : Heap} {ch : List Addr} {T : Addr} {xs : List V} {t' : Nat} (I : Inv X pins σ H s) (hch : ∀ b ∈ ch, FpOk X pins H b)
    (kp : ∀ b o, b ∉ ch → s.heap.get? b = some o → h'.get? b = some o) (hT : s.heap.objs.size ≤ T) (hz : xs.length ≤ sizeLine) (new : ∃ its : List Value, Vals xs its ∧ IsTup h' T its.toArray) (hrec : ∀ b ∈ ch, ∃ o, h'.get? b = some o) :
    Inv X pins σ (upd H T (.tup xs)) { s with heap := h', toks := t' } := by
  have hf : H T = none := I.hok.fresh hT
  have neT : ∀ b o, s.heap.get? b = some o → b ≠ T := fun b o e => Nat.ne_of_lt (Nat.lt_of_lt_of_le (Heap.lt_size e) hT)
  have nch : ∀ b u, H b = some u → b ∉ ch := fun b u e z => by rw [(hch b z).1] at e; cases e
  refine I.step (g' := s.gens) (d' := s.drawn) (ch := ch) (fun b hb => ?_) (fun b o _ _ hc e _ => kp b o hc e) (fun b o _ _ hc e _ => ⟨o.slots, kp b o hc e⟩) (fun b o hc e n => by rw [upd_ne (neT b o e)]; exact n)
    (fun b o hc e => ⟨o, kp b o hc e⟩) (fun b ys e => by rw [upd_ne (ne_of_none e hf)]; exact e) (fun b o u e => by rw [upd_ne (ne_of_none e hf)]; exact e) (fun b ps e => ⟨#[], by rw [upd_ne (ne_of_none e hf), e]; simp⟩) (fun m hm => ?_) (fun b u e => ?_) I.bare
  · obtain ⟨_, f1, _, f3, f4, f5⟩ := hch b hb
    exact ⟨f3, f1, f4, f5⟩
  · obtain ⟨o, es, ep, ho, r⟩ := hm
    exact ⟨o, es, ep, kp _ o (fun z => (hch _ z).2.1 rfl) ho, r⟩
  · by_cases hb : b = T
    · subst hb
      rw [upd_same] at e
      cases e
      obtain ⟨its, rv, p⟩ := new
      exact ⟨hz, its, rv, p⟩
    · rw [upd_ne hb] at e
      refine (I.hok b u e).stay (fun c v hc q => kp c v ?_ q) (fun c q => by rw [upd_ne (ne_of_none q hf)]; exact q) fun c ys q => by rw [upd_ne (ne_of_none q hf)]; exact q
      rcases hc with rfl | hc
      · exact nch c u e
      · exact nch c _ hc
/-- enumerate(list) -/
def Ite (K : PySem.W.Frag) (a : Addr) : It :=
  ⟨fun i H => ∃ xs x, SqL K H a xs ∧ xs[i]? = some x, fun i H x H' => ∃ p, H p = none ∧ x = .ref p ∧ ∀ xs v, SqL K H a xs → xs[i]? = some v → H' = upd H p (.tup [.int (i : Nat), v]), fun i H => ∃ xs, SqL K H a xs ∧ xs.length ≤ i⟩
theorem turn_enum {P : Program} {w : World} {K : PySem.W.Frag} {elts : List Expr} {k0 : Nat} {pos : Pos} (a e it : Addr) (hne : e ≠ it) :
    Turn P w K (.Tuple elts k0 pos) (Ite K a) [e, it] e (fun i h => (∃ old, IsEnum h e it i old) ∧ h.IsListIter it a i) where
  mem := by simp
  obj := fun i h st b hb => by
    obtain ⟨⟨old, he⟩, o, ho, c, d⟩ := st
    rcases List.mem_cons.mp hb with rfl | hb
    · exact ⟨_, he, fun v z => by
        have z' : Data.fields _ = Data.cell v := z
        cases z'⟩
    · have e2 : b = it := by simpa using hb
      subst e2
      exact ⟨o, ho, fun v z => by rw [d] at z; cases z⟩
  keep := fun i h h' st k => ⟨by obtain ⟨old, he⟩ := st.1; exact ⟨old, k e (by simp) _ he⟩, st.2.at fun o ho => k it (by simp) o ho⟩
  item := by
    intro X hP hw hK hc i pins s σ H E I hf st hg
    subst hP hw hK
    obtain ⟨xs, x, hq, hx⟩ := hg
    obtain ⟨its, rv, p, hz⟩ := I.list hq
    obtain ⟨u, hu, ru⟩ := rv.get hx
    obtain ⟨⟨old, he⟩, hit⟩ := st
    refine wpAny_pyNext_enum_item he hit p.isList (x := u) (by simpa using hu) hne fun h' ho' hit' hT' hsz' hk' => ?_
    have I1 : Inv X pins σ (upd H s.heap.objs.size (.tup [.int (i : Nat), x])) { s with heap := h', toks := s.toks + 1 } :=
      I.yields (ch := [e, it]) hf (fun b o hb q => hk' b o (fun z => hb (by simp [z])) (fun z => hb (by simp [z])) q) (Nat.le_refl _) (by show 2 ≤ sizeLine; decide)
        ⟨[.int (i : Nat) s.toks, u], .cons ⟨_, rfl⟩ (.cons ru .nil), ⟨_, hT', rfl, _, rfl⟩⟩ (fun b hb => by
          rcases List.mem_cons.mp hb with rfl | hb
          · exact ⟨_, ho'⟩
          · have e2 : b = it := by simpa using hb
            subst e2
            obtain ⟨o, q, _⟩ := hit'
            exact ⟨o, q⟩)
    refine ⟨_, rfl, wpAny_letOwnedTupleGo_enum (s := { s with heap := h', toks := s.toks + 1 }) ho' fun h'' he'' hs'' => ?_⟩
    have fr : ∀ b ∈ [e, it], (upd H s.heap.objs.size (.tup [.int (i : Nat), x])) b = none := fun b hb => by
      have hlt : b < s.heap.objs.size := by
        rcases List.mem_cons.mp hb with rfl | hb
        · exact Heap.lt_size he
        · have e2 : b = it := by simpa using hb
          subst e2
          obtain ⟨o, q, _⟩ := hit
          exact Heap.lt_size q
      rw [upd_ne (Nat.ne_of_lt hlt)]; exact (hf b hb).1
    obtain ⟨f0, f1, f2, f3, f4, f5⟩ := hf e (by simp)
    have I2 := I1.turned (t' := s.toks + 1) (it := e) (h' := h'') (fun b o hb q => (hs''.2 b hb).trans q) (fr e (by simp)) f1 f3 f4 f5
    refine ⟨.ref s.heap.objs.size, _, I2, rfl, ⟨s.heap.objs.size, I.hok.fresh (Nat.le_refl _), rfl, fun ys v hy hv => ?_⟩, ⟨⟨_, by simpa using he''⟩, hit'.at fun o q => (hs''.2 it (Ne.symm hne)).trans q⟩, fr⟩
    have := I.list_inj hy hq
    subst this
    rw [hx] at hv
    cases hv
    rfl
  done := by
    intro X hP hw hK hc i pins s σ H E I hf st hg
    subst hP hw hK
    obtain ⟨xs, hq, hx⟩ := hg
    obtain ⟨its, rv, p, hz⟩ := I.list hq
    obtain ⟨⟨old, he⟩, hit⟩ := st
    obtain ⟨f0, f1, f2, f3, f4, f5⟩ := hf it (by simp)
    have hl := rv.length
    exact wpAny_pyNext_enum_end (I.ok.hd hc) he hit p.isList (by simp; omega) fun h' eb => ⟨rfl, I.turned (t' := s.toks) (fun b o hb q => eb b o hb q) f0 f1 f3 f4 f5⟩
  self := fun _ _ _ _ _ st h => by obtain ⟨old, he⟩ := st.1; exact wpAny_pyIter_enum he h
def iEnum (K : PySem.W.Frag) (tl : TA) : TI := fun σ H R => tl σ H fun vs H1 => ∃ a xs, vs = [.ref a] ∧ H1 a = some (.lst xs) ∧ R (Ite K a) H1
section
variable {X : Cx}
theorem pi_enumK (K : PySem.W.Frag) {elts : List Expr} {k0 : Nat} {tpos : Pos} {l : Expr} {tl : TA} {p pos : Pos} (hg : Gl X "enumerate") (hm : X.mg "enumerate" = none) (hb : bootBuiltins "enumerate" = some (.type "enumerate")) (ha : PA X [l] tl) (hK : X.K = K := by rfl)
    (hs : starEach [l] X.env = [(false, eval l X.env)] := by rfl) : PI X (.Tuple elts k0 tpos) (.Call (.Name "enumerate" p) [l] [] pos) (iEnum K tl) := by
  subst hK
  intro pins s σ H R I h
  refine Call_ (ld_blt I hg hm hb (PyProof.Rows.callWith_type1 (thn (ha pos pins s σ H _ I h) fun us s1 ⟨vs, H1, I1, r1, q1⟩ => ?_) hs rfl))
  obtain ⟨a, xs, rfl, hq, q⟩ := q1
  obtain ⟨u, rfl, ru⟩ := vals1 r1
  cases ru
  obtain ⟨z, its, n, rv, e⟩ := (show ObjOk X.prog X.w H1 s1.heap a (.lst xs) from I1.hok a _ hq)
  refine call_enumerate_1 e fun h' he hit hsz hk => ?_
  have I2 : Inv X pins σ H1 { s1 with heap := h' } := I1.kept (t' := s1.toks) hk
  refine wpAny_pyIter_enum he ?_
  refine ⟨s1.heap.objs.size + 1, [s1.heap.objs.size + 1, s1.heap.objs.size], _, _, H1, rfl, I2, turn_enum a _ _ (Nat.ne_of_gt (Nat.lt_succ_self _)), ⟨⟨_, he⟩, hit⟩, fun b hb => ?_, q⟩
  have hle : s1.heap.objs.size ≤ b := by
    rcases List.mem_cons.mp hb with rfl | hb
    · exact Nat.le_succ _
    · have e2 : b = s1.heap.objs.size := by simpa using hb
      exact Nat.le_of_eq e2.symm
  exact I1.fpOk hle (I1.hok.fresh hle)
end
section
variable {X : Cx}
end
end L2

/-! ### the table of a set that only grew: its places rise -/
namespace SetQ
open PySem
/-- the table of a set from which nothing went -/
structure Good (L : Bool) (t : SetTable) : Prop where
  rise : t.place.toList.Pairwise (· < ·)

section
variable {prog : Program} {w : World} {A : Around} {E : Value → Shared → Prop} {s : Shared}
def addK (ks : List Int) (k : Int) : List Int := if ks.any (· == k) then ks else ks ++ [k]
/-- what a set of whole numbers is, from which nothing went: its elements are ks, in the table's order -/
structure Row (w : World) (es : Array (Int × Value)) (t : SetTable) (ks : List Int) : Prop where
  few : es.size < scanBound
  fits : t.fits es.size = true
  good : Good (!w.params.followText "set-order") t
/-- what is asked of a set's table alone -/
structure RowG (w : World) (es : Array (Int × Value)) (t : SetTable) : Prop where
  few : es.size < scanBound
  fits : t.fits es.size = true
  good : Good (!w.params.followText "set-order") t
theorem Row.g {w : World} {es : Array (Int × Value)} {t : SetTable} {ks : List Int} (r : Row w es t ks) : RowG w es t := ⟨r.few, r.fits, r.good⟩
def SetZ (w : World) (h : Heap) (a : Addr) (ks : List Int) : Prop := ∃ o es ep t, h.get? a = some o ∧ o.ExactSet ∧ o.data = .set es ep t ∧ Row w es t ks
theorem put_get {h : Heap} {a : Addr} {o : Obj} {es : Array (Int × Value)} {ep : Nat} {t : SetTable} (ho : h.get? a = some o) (hd : o.data = .set es ep t) (es' : Array (Int × Value)) (t' : SetTable) :
    (h.update a (Obj.putSet es' t')).get? a = some { o with data := .set es' (ep + 1) t' } := by
  have z := Heap.get?_update_self (Obj.putSet es' t') ho (by rw [putSet_of es' t' hd]; rfl)
  rwa [putSet_of es' t' hd] at z
theorem SetZ.put {h : Heap} {a : Addr} {o : Obj} {es : Array (Int × Value)} {ep : Nat} {t : SetTable} (ho : h.get? a = some o) (hex : o.ExactSet) (hd : o.data = .set es ep t) {es' : Array (Int × Value)} {t' : SetTable} {ks : List Int} (r : Row w es' t' ks) :
    SetZ w (h.update a (Obj.putSet es' t')) a ks := ⟨_, es', ep + 1, t', put_get ho hd es' t', hex, rfl, r⟩
end

def dd (val : Nat → Int) (i : Nat) : List Int := ((List.range i).map val).foldl addK []
section
open PySem.Spec PyProof.Rows
variable {prog : Program} {w : World} {A : Around} {R : Result → Shared → Prop} {J : Addr} {fp wr : List Addr} {G : Array GenState → Array GenState → Prop} {n : Nat} {P : Nat → Value → Prop} {St : Nat → Shared → Prop}
end
section
variable {prog : Program} {w : World} {A : Around} {E : Value → Shared → Prop} {s : Shared}

end
end SetQ

/-! ### walking over a set of whole numbers -/
namespace SetQ
open PySem
section
variable {prog : Program} {w : World} {A : Around} {E : Value → Shared → Prop}
end

section
variable {prog : Program} {w : World} {A : Around} {E : Value → Shared → Prop} {s : Shared} {S J T : Addr} {es : Array (Int × Value)} {ep i : Nat} {t : SetTable} {ys : List (Int × Value)} {ks : List Int} {o : Obj} {first : Value}

end
end SetQ

/-! ### sorted(set(a list of whole numbers)) -/
namespace SetQ
open PySem PySem.Spec PyProof.Rows
section
variable {prog : Program} {w : World} {A : Around} {E : Value → Shared → Prop} {s : Shared} {S J T : Addr} {es : Array (Int × Value)} {ep i : Nat} {t : SetTable} {ys : List (Int × Value)} {ks : List Int} {o : Obj} {first : Value}

end

end SetQ
namespace L2
open PySem PySem.Spec PyProof.Rows
section
variable {X : Cx}
end
end L2

/-! ### d.setdefault(a tuple, x) -/
namespace DictQ
open PySem
section
variable {prog : Program} {w : World} {K : Type} [DecidableEq K] {knd : HeapKind prog w K} {A : Around} {E : Value → Shared → Prop} {s : Shared} {d a : Addr} {k : K} {xs : List (K × Addr × Value)}
theorem setdef_ok {x : Value} {Q : Value → Shared → Prop} (hu : knd.room A) (hkey : knd.is s.heap k a) (hm : s.heap.DictOfH knd d xs) (old : ∀ p, atKey xs k = some p → Q p.2 { s with toks := s.toks + knd.draws k })
    (new : atKey xs k = none → ∀ h', h'.DictOfH knd d (storedH xs k a x) → Heap.SameBut d s.heap h' → Q x { s with heap := h', toks := s.toks + knd.draws k }) (hz : xs.length ≤ sizeLine) :
    wpAny (model prog w) A (dictSetDefault d (.ref a) x) Q E s := by
  obtain ⟨o, es, ep, ho, hc, hd, he, his, hn⟩ := hm
  have hsz : es.size = xs.length := size_of_entries he
  unfold dictSetDefault
  refine wpAny_holding (wpAny_bind (knd.pyHash hu hkey (wpAny_bind (wpAny_dictFind_heap (s := { s with toks := s.toks + knd.draws k }) hu hkey ho hd he his hn (fun hno => ?_) fun j p hj => ?_))))
  · have z : atKey xs k = none := atKey_none_of_get hno
    have nk : k ∉ xs.map (·.1) := not_mem_keys_of_get hno
    have sb : Heap.SameBut d s.heap (s.heap.update d (Obj.mapDictKeys (·.push ⟨knd.hash k, .ref a, x⟩))) := Heap.SameBut.update ..
    refine wpAny_bind (wpAny_rule (wpAny_bind (wpAny_updateDictKeys (hz := by omega) (s := { s with toks := s.toks + knd.draws k }) ho hd (wpAny_pure (new z _ ?_ sb)))))
    refine ⟨_, _, ep + 1, Heap.get?_update_self _ ho (Obj.isFreed_of_dict (Obj.data_mapDictKeys hd _)), hc.mapDictKeys _, Obj.data_mapDictKeys hd _, ?_, ?_, ?_⟩ <;> rw [storedH_new z]
    · simp [he, entryOfKey]
    · intro y hy
      rcases List.mem_append.mp hy with hy | hy
      · exact knd.keeps (his y hy) ho hd sb
      · have e : y = (k, a, x) := by simpa using hy
        subst e
        exact knd.keeps hkey ho hd sb
    · rw [List.map_append]
      refine List.nodup_append.mpr ⟨hn, by simp, fun y hy y' hy' e => ?_⟩
      have e2 : y' = k := by simpa using hy'
      exact nk (by rw [← e2, ← e]; exact hy)
  · refine wpAny_bind (wpAny_dictEntries (s := { s with toks := s.toks + knd.draws k }) ho hd ?_)
    rw [entry_at he j, hj]
    exact wpAny_bind (wpAny_rule (wpAny_pure (old p (atKey_of_get hn hj))))
theorem meets_setdef (d a : Addr) (hd : (d == sysModules) = false) (x : Value) :
    MeetsIn prog w (Builtin.«dict.setdefault» ⟨[.ref d, .ref a, x], []⟩) (fun A R s => knd.room A.in1 ∧ ∃ k xs, knd.is s.heap k a ∧ s.heap.DictOfH knd d xs ∧ xs.length ≤ sizeLine ∧
      (∀ p, atKey xs k = some p → R (.ok (.ret p.2)) { s with toks := s.toks + knd.draws k }) ∧
      (atKey xs k = none → ∀ h', h'.DictOfH knd d (storedH xs k a x) → Heap.SameBut d s.heap h' → R (.ok (.ret x)) { s with heap := h', toks := s.toks + knd.draws k })) :=
  .of_wp fun A R s ⟨hu, k, xs, hkey, hm, hz, h1, h2⟩ => by
    unfold Builtin.«dict.setdefault» Builtin.Dict.keyAndDefault
    refine wpAny_bind (wpAny_bind (wpAny_notOrdered_dict hm.typeIs (wpAny_pure ?_)))
    show wpAny _ _ (if (d == sysModules) = true then _ else (dictSetDefault d (.ref a) x >>= _)) _ _ s
    rw [hd, if_neg Bool.false_ne_true]
    exact wpAny_bind (setdef_ok hu hkey hm (fun p hp => wpAny_pure ⟨p.2, rfl, h1 p hp⟩) (fun hn h' a1 a2 => wpAny_pure ⟨x, rfl, h2 hn h' a1 a2⟩) hz)
end
end DictQ
namespace L2
open PySem PySem.Spec PyProof.Rows
section
variable {X : Cx} {o e f : Expr} {apos cpos : Pos} {td ty tx : TE}
/-- d.setdefault(t, x): what is there, or x, which is put there -/
def tDSetdef (td ty tx : TE) : TE := fun σ H Q => td σ H fun x H1 => ∃ a, x = .ref a ∧ IsD H1 a ∧ ty σ H1 fun y H2 => tx σ H2 fun z H3 => ∃ kvs k b, H3 a = some (.dT kvs) ∧ y = .ref b ∧ H3 b = some (.tup (k.map kV)) ∧ kvs.length < sizeLine ∧
  (∀ v, valV kvs k = some v → Q v H3) ∧ (valV kvs k = none → Q z (upd H3 a (.dT (putK kvs k z))))
theorem pe_dsetdef (hu : X.A.units + 1 < cLine) (ho : PE X o td) (he : PE X e ty) (hf : PE X f tx) (m : M2 X o "setdefault" apos e f cpos) : PE X (.Call (.Attribute o "setdefault" apos) [e, f] [] cpos) (tDSetdef td ty tx) := by
  intro pins s σ H Q I h
  refine wpAny_Call_method m.base m.few m.line PySem.F.plainAttrs_dict PySem.F.slot_dict_setdefault PySem.F.type_dict_setdefault (thn (ho pins s σ H _ I h) fun u s1 ⟨x, H1, I1, rx, a, ex, d, q1⟩ => ?_)
  subst ex
  obtain rfl : u = Value.ref a := rx
  obtain ⟨t1, t2, _⟩ := isD_at I1 d
  refine ⟨t1, t2, ?_⟩
  rw [m.trees]
  refine Calls.callWith_builtin rfl (Calls.evalArgs_plain (Calls.spliced_cons (thn (he pins s1 σ H1 _ I1 q1) fun iv s2 ⟨y, H2, I2, ry, q2⟩ =>
    Calls.spliced_cons (thn (hf pins s2 σ H2 _ I2 q2) fun fv s3 ⟨z, H3, I3, rz, kvs, k, b, ea, ey, eb, hl, q3, q4⟩ => Calls.spliced_nil ?_))))
  subst ey
  cases (show iv = Value.ref b from ry)
  obtain ⟨hz, hd, xs, rel, dd⟩ := dt_of I3.hok ea
  have hz' : xs.length ≤ sizeLine := by rw [← Paired.length rel]; exact hz
  refine call_meetsIn PySem.F.slot_dict_setdefault dd.typeIs PySem.F.entry_dict_setdefault (PySem.F.args_dict_setdefault_3 _ _ _) (DictQ.meets_setdef (knd := tupleKind (mixKind X.prog X.w)) a b hd fv)
    ⟨tupleKind_room_in1 hu, k, xs, key_of I3.hok eb, dd, hz', fun p hp => ?_, fun hn h' dd' hs => ?_⟩
  · have r := rel.val k
    rw [hp] at r
    obtain ⟨v, e1, e2⟩ : ∃ v, valV kvs k = some v ∧ RelV v p.2 := by
      cases hv : valV kvs k with
      | none => rw [hv] at r; exact r.elim
      | some v => rw [hv] at r; exact ⟨v, rfl, r⟩
    exact ⟨v, H3, I3.tok _, e2, q3 v e1⟩
  · have r := rel.val k
    rw [hn] at r
    have e1 : valV kvs k = none := by
      cases hv : valV kvs k with
      | none => rfl
      | some v => rw [hv] at r; exact r.elim
    obtain ⟨q, es, ep, hq, h2, h3, h4, _, h5⟩ := dd'
    have hl' : (putK kvs k z).length ≤ sizeLine := by have := length_putK kvs k z; omega
    refine ⟨z, _, d_write (ob := .dT (putK kvs k z)) I3 (by rw [ea]; exact True.intro) hs ⟨q, hq⟩ ⟨hl', hd, _, (rel.put k eb rz).keeps fun c ys ec => ?_, q, es, ep, hq, h2, h3, h4, h5⟩, rz, q4 e1⟩
    rw [upd_ne (ne_of ec ea (fun z => nomatch z))]
    exact ec
end
end L2

/-! ### comprehensions over pairs: two names, in slots 0 and 1 -/
namespace L2
open PySem PySem.Spec PyProof.Rows
abbrev g2 (K : PySem.W.Frag) : TG := gTup K 2 (gCons (gName 0) (gCons (gName 1) gNil))
def CN2 (σ0 : St) (D : Addr) (Pv : Nat → List V → Hp → Prop) (i : Nat) : St → Hp → Prop := fun σ H => (∃ v u, σ = (σ0.set 0 v).set 1 u) ∧ ∃ ys, H D = some (.lst ys) ∧ Pv i ys H
def CE2 (σ0 : St) (D : Addr) (Pv : Nat → List V → Hp → Prop) (i : Nat) (σ : St) : VK := fun y H => ∃ ys, H D = some (.lst ys) ∧ ys.length < sizeLine ∧ CN2 σ0 D Pv i σ (upd H D (.lst (ys ++ [y])))
theorem CE2.mk {σ0 : St} {D : Addr} {Pv : Nat → List V → Hp → Prop} {i : Nat} {v u : Option V} {y : V} {H : Hp} {ys : List V} (hD : H D = some (.lst ys)) (hl : ys.length < sizeLine) (h : Pv i (ys ++ [y]) (upd H D (.lst (ys ++ [y])))) : CE2 σ0 D Pv i ((σ0.set 0 v).set 1 u) y H :=
  ⟨ys, hD, hl, ⟨v, u, rfl⟩, _, upd_same, h⟩
theorem CN2.mk {σ0 : St} {D : Addr} {Pv : Nat → List V → Hp → Prop} {i : Nat} {v u : Option V} {H : Hp} {ys : List V} (hD : H D = some (.lst ys)) (h : Pv i ys H) : CN2 σ0 D Pv i ((σ0.set 0 v).set 1 u) H := ⟨⟨v, u, rfl⟩, ys, hD, h⟩
theorem set_again (σ0 : St) (a b a' b' : Option V) : (((σ0.set 0 a).set 1 b).set 0 a').set 1 b' = (σ0.set 0 a').set 1 b' := by
  cases σ0 with
  | nil => rfl
  | cons x r => cases r with
    | nil => rfl
    | cons y r => rfl
theorem comp_pairs {K : PySem.W.Frag} {J : It} {n : Nat} {xs : Nat → V × V} {D : Addr} {tt : TT} {te : TE} {σ0 : St} {H1 : Hp} {Q : VK} (Pv : Nat → List V → Hp → Prop) (h0 : Pv 0 [] (upd H1 D (.lst [])))
    (hgo : ∀ i ys H, i < n → Pv i ys H → J.go i H) (hst : ∀ ys H, Pv n ys H → J.stop n H) (hy : ∀ i ys H x H', i < n → Pv i ys H → J.yld i H x H' → ∃ p, H p = none ∧ x = .ref p ∧ H' = upd H p (.tup [(xs i).1, (xs i).2]))
    (hs : ∀ i ys H p, i < n → Pv i ys H → H D = some (.lst ys) → H p = none → tt ((σ0.set 0 (some (xs i).1)).set 1 (some (xs i).2)) (upd H p (.tup [(xs i).1, (xs i).2])) fun b H4 =>
      if b = true then te ((σ0.set 0 (some (xs i).1)).set 1 (some (xs i).2)) H4 (CE2 σ0 D Pv (i + 1) ((σ0.set 0 (some (xs i).1)).set 1 (some (xs i).2))) else CN2 σ0 D Pv (i + 1) ((σ0.set 0 (some (xs i).1)).set 1 (some (xs i).2)) H4)
    (hd : ∀ ys H, Pv n ys H → H D = some (.lst ys) → Q (.ref D) H) :
    CompRun J (g2 K) tt te Q σ0 H1 D := by
  refine ⟨fun i m σ H => m = n - i ∧ i ≤ n ∧ (σ = σ0 ∨ ∃ v u, σ = (σ0.set 0 v).set 1 u) ∧ ∃ ys, H D = some (.lst ys) ∧ Pv i ys H, ⟨n, by simp, Nat.zero_le _, .inl rfl, [], upd_same, h0⟩, ?_⟩
  rintro i m σ H ⟨rfl, hi, hσ, ys, hD, p⟩
  by_cases hlt : i < n
  · refine .inr ⟨hgo i ys H hlt p, CN2 σ0 D Pv (i + 1), fun σ' H' ⟨a1, a2⟩ => ⟨n - (i + 1), by omega, rfl, hlt, .inr a1, a2⟩, fun x H' y => ?_⟩
    obtain ⟨q, hq, rfl, rfl⟩ := hy i ys H x H' hlt p y
    have eσ : (σ.set 0 (some (xs i).1)).set 1 (some (xs i).2) = (σ0.set 0 (some (xs i).1)).set 1 (some (xs i).2) := by
      rcases hσ with rfl | ⟨v, u, rfl⟩
      · rfl
      · exact set_again _ _ _ _ _
    refine ⟨q, _, rfl, SqT.of upd_same, rfl, _, _, rfl, ?_⟩
    refine ⟨_, _, rfl, rfl, ?_⟩
    show tt ((σ.set 0 (some (xs i).1)).set 1 (some (xs i).2)) _ _
    rw [eσ]
    exact hs i ys H q hlt p hD hq
  · have e : i = n := by omega
    subst e
    exact .inl ⟨hst ys H p, hd ys H p hD⟩
/-- [.. for i, x in enumerate(l) if ..] -/
theorem comp_enum {K : PySem.W.Frag} {a D : Addr} {xs : List V} {tt : TT} {te : TE} {σ0 : St} {H1 : Hp} {Q : VK} (Pv : Nat → List V → Hp → Prop) (h0 : Pv 0 [] (upd H1 D (.lst [])))
    (hl : ∀ i ys H, i ≤ xs.length → Pv i ys H → H a = some (.lst xs))
    (hs : ∀ i x ys H p, xs[i]? = some x → Pv i ys H → H D = some (.lst ys) → H p = none → tt ((σ0.set 0 (some (.int (i : Nat)))).set 1 (some x)) (upd H p (.tup [.int (i : Nat), x])) fun b H4 =>
      if b = true then te ((σ0.set 0 (some (.int (i : Nat)))).set 1 (some x)) H4 (CE2 σ0 D Pv (i + 1) ((σ0.set 0 (some (.int (i : Nat)))).set 1 (some x))) else CN2 σ0 D Pv (i + 1) ((σ0.set 0 (some (.int (i : Nat)))).set 1 (some x)) H4)
    (hd : ∀ ys H, Pv xs.length ys H → H D = some (.lst ys) → Q (.ref D) H) : CompRun (Ite K a) (g2 K) tt te Q σ0 H1 D := by
  refine comp_pairs (n := xs.length) (xs := fun i => (.int (i : Nat), (xs[i]?).getD .non)) Pv h0 (fun i ys H hi p => ?_) (fun ys H p => ?_) (fun i ys H x H' hi p y => ?_) (fun i ys H p hi hp hD hf => ?_) hd
  · exact ⟨xs, xs[i], SqL.of (hl i ys H (Nat.le_of_lt hi) p), List.getElem?_eq_getElem hi⟩
  · exact ⟨xs, SqL.of (hl _ ys H (Nat.le_refl _) p), Nat.le_refl _⟩
  · obtain ⟨q, hq, e, z⟩ := y
    refine ⟨q, hq, e, ?_⟩
    rw [z xs xs[i] (SqL.of (hl i ys H (Nat.le_of_lt hi) p)) (List.getElem?_eq_getElem hi), List.getElem?_eq_getElem hi]; rfl
  · have e : xs[i]? = some xs[i] := List.getElem?_eq_getElem hi
    have z := hs i xs[i] ys H p e hp hD hf
    dsimp only
    rw [e]
    exact z

section
variable {X : Cx} {o e : Expr} {t : TA} {apos cpos : Pos}
theorem pe_extendK (K : PySem.W.Frag) {to : TE} (ho : PE X o to) (ha : PA X [e] t) (h : X.K = K := by rfl) (hbase : attributeBase o "extend" X.env (eval o X.env) = eval o X.env := by rfl)
    (hfew : ((backTo cpos (starEach [e] X.env)).all (fun x => !x.1) && (backToKw cpos (keywordEach [] X.env)).all (fun x => x.1.isSome)
      && decide ([e].length + ([] : List Keyword).length + (if ([] : List Keyword).isEmpty then 0 else 1) < 30)) = true := by rfl)
    (hline : (apos.endLine == cpos.line) = true := by rfl) (hs : starEach [e] X.env = (false, eval e X.env) :: starEach [] X.env := by rfl) (hplain : (backTo cpos (starEach [] X.env)).any (·.1) = false := by rfl) :
    PE X (.Call (.Attribute o "extend" apos) [e] [] cpos) (tBM K "list" rExtend to t) := by subst h; exact pe_bm PySem.F.plainAttrs_list PySem.F.slot_list_extend PySem.F.type_list_extend mt_extend ho ha hbase hfew hline hs hplain
end
end L2

/-! ### enumerate(list, start=n): the count runs ahead of the list -/
namespace L2
open PySem PySem.Spec PyProof.Rows
section
variable {pg : Program} {wd : World} {Ar : Around} {Er : Value → Shared → Prop} {sh : Shared}
theorem initKw {self x : Value} {kw : List (Str × Value)} {T newId : String} (hl : typeLookup (.type T) "__init__" = pure (some (.builtin "object.__init__")))
    (hm : Bind.madeBy (.type T) = pure (some newId)) (hne : (some newId != some "object.__new__") = true) :
    Meets (Builtin.«object.__init__» ⟨[self, x], kw⟩) (fun _ R st => st.TypeIs self T ∧ R (.ok (.ret .none)) st) := by
  refine Meets.of_wp fun p v B R st hst => ?_
  obtain ⟨tyIs, got⟩ := hst
  repeat (any_goals (first | assumption | wp_step))
  exact ⟨_, rfl, got⟩
theorem typeKw {T newId : String} {Bn : Builtin} {x : Value} {kw : List (Str × Value)} {S : PySem.Spec} {Q : Value → Shared → Prop} (ft : TypeCalled T newId "object.__init__") (hne : (some newId != some "object.__new__") = true)
    (c1 : checkTypeCall T ⟨[x], kw⟩ = pure ()) (c2 : checkBuiltinCall newId ⟨[.type T, x], kw⟩ = pure ()) (c3 : ∀ ob, argsOk "object.__init__" ⟨[ob, x], kw⟩)
    (eN : entryFor table newId = some Bn) (mN : Meets (Bn ⟨[.type T, x], kw⟩) S) (h : S Ar.in1 (wants (fun ob s1 => s1.TypeIs ob T ∧ Q ob s1) Er) sh) : wpAny (model pg wd) Ar (call (.type T) [x] kw) Q Er sh := by
  obtain ⟨hd, tl, order⟩ := ft.mro
  have maker := ft.made
  have within := ft.sub
  refine wpAny_call (codeAny_of_tree ?_)
  show wpAny _ _ (callAny (.type T) _) _ _ _
  refine wpAny_pure ⟨Code.quiet_builtin _ (by decide +kernel), codeAny_builtin F.entry_type_call ?_⟩
  rw [Around.under_plain (weight_type_call_type T [x] kw) (units_type_call_type T [x] kw)]
  have n1 := ft.notType
  have n2 := ft.canCreate
  repeat (any_goals (first | assumption | wp_step))
  refine codeAny_mono (codeAny_call_builtin ft.plain eN (wpAny_of_eq c2 (mN pg wd Ar.in1 _ sh h))) fun res s1 got => ?_
  cases res with
  | error _ => exact got
  | ok fl =>
    cases fl with
    | ret ob =>
      obtain ⟨isT, q⟩ := got
      have lk := ft.init.lookup
      have bd := ft.init.bind ob
      repeat (any_goals (first | assumption | wp_step))
      refine codeAny_mono (codeAny_call_builtin ft.init.plain F.entry_object_init (ft.init.check _ _ _ _ _ _ _ _ isT (c3 ob) (initKw ft.init.lookup ft.made hne pg wd Ar.in1 (wants (fun r s2 => r = .none ∧ Q ob s2) Er) s1 ⟨isT, rfl, q⟩))) fun res2 s2 got2 => ?_
      cases res2 with
      | error _ => exact got2
      | ok fl2 =>
        cases fl2 with
        | ret r =>
          obtain ⟨rfl, q2⟩ := got2
          repeat (any_goals (first | assumption | wp_step))
        | _ => exact got2.elim
    | _ => exact got.elim
end
theorem kwTy (x y : Value) : checkTypeCall "enumerate" ⟨[x], [("start", y)]⟩ = pure () := by kernel_rfl
theorem kwNew (x y : Value) : checkBuiltinCall "enumerate.__new__" ⟨[.type "enumerate", x], [("start", y)]⟩ = pure () := by kernel_rfl
theorem kwInit (ob x y : Value) : argsOk "object.__init__" ⟨[ob, x], [("start", y)]⟩ := by
  unfold argsOk; rw [signature?_of (id := "object.__init__") (n := "__init__".toList.reverse) (o := "object".toList.reverse) (by kernel_rfl) F.owner_object]; kernel_rfl
theorem enumNewKw (l : Addr) (its : Array Value) (n : Nat) (t : Tok) :
    Meets (Builtin.«enumerate.__new__» ⟨[.type "enumerate", .ref l], [("start", .int 1 t)]⟩) (fun _ R st => st.heap.get? l = some { cls := .type "list", dict := none, data := .seq its n, slots := #[] } ∧
      R (.ok (.ret (.ref (st.heap.push { cls := .type "list_iterator", data := .fields #[.ref l, .int 0 0] }).objs.size)))
        { st with heap := (st.heap.push { cls := .type "list_iterator", data := .fields #[.ref l, .int 0 0] }).push { cls := .type "enumerate", data := .fields #[.none, .bool false, .ref st.heap.objs.size, rawInt 1, .none, .none] } }) :=
  .of_wp fun p v B R st hst => by
    obtain ⟨hp, gn, dr, tk, os⟩ := st
    obtain ⟨atL, got⟩ := hst
    have within := sub_enumerate
    have isL : Heap.IsList (Shared.heap ⟨hp, gn, dr, tk, os⟩) l its := ⟨_, atL, rfl, n, rfl⟩
    wp_walk using AutoSeq1.wpAny_loadPart' atL
    refine wpAny_stack_any fun sk => wpAny_pure ?_
    split
    · rename_i c _ _ _ _ _
      cases (c == Value.type "enumerate")
      · wp_walk using AutoSeq1.wpAny_loadPart' atL, wpAny_pyIter_list isL
        exact ⟨_, rfl, got⟩
      · wp_walk using AutoSeq1.wpAny_loadPart' atL, wpAny_pyIter_list isL
        exact ⟨_, rfl, got⟩
    · wp_walk using AutoSeq1.wpAny_loadPart' atL, wpAny_pyIter_list isL
      exact ⟨_, rfl, got⟩
section
variable {pg : Program} {wd : World} {Ar : Around} {Er : Value → Shared → Prop} {sh : Shared}
theorem enumKw {l : Addr} {its : Array Value} {n : Nat} {t : Tok} {Q : Value → Shared → Prop} (atL : sh.heap.get? l = some { cls := .type "list", dict := none, data := .seq its n, slots := #[] })
    (h : ∀ hp, IsEnum hp (sh.heap.objs.size + 1) sh.heap.objs.size 1 .none → hp.IsListIter sh.heap.objs.size l 0 → (∀ b o, sh.heap.get? b = some o → hp.get? b = some o) → Q (.ref (sh.heap.objs.size + 1)) { sh with heap := hp }) :
    wpAny (model pg wd) Ar (call (.type "enumerate") [.ref l] [("start", .int 1 t)]) Q Er sh := by
  refine typeKw F.called_enumerate (by decide) (kwTy _ _) (kwNew _ _) (fun ob => kwInit ob _ _) F.entry_enumerate_new (enumNewKw l its n t) ⟨atL, ?_⟩
  have sz : (sh.heap.push { cls := .type "list_iterator", data := .fields #[.ref l, .int 0 0] }).objs.size = sh.heap.objs.size + 1 := Heap.size_push ..
  show _ ∧ _
  rw [sz]
  have made : IsEnum ((sh.heap.push { cls := .type "list_iterator", data := .fields #[.ref l, .int 0 0] }).push { cls := .type "enumerate", data := .fields #[.none, .bool false, .ref sh.heap.objs.size, rawInt 1, .none, .none] }) (sh.heap.objs.size + 1) sh.heap.objs.size 1 .none := by
    have z := Heap.get?_push_size (sh.heap.push { cls := .type "list_iterator", data := .fields #[.ref l, .int 0 0] }) (o := { cls := .type "enumerate", data := .fields #[.none, .bool false, .ref sh.heap.objs.size, rawInt 1, .none, .none] }) rfl
    rwa [sz] at z
  exact ⟨⟨_, made, rfl⟩, h _ made ⟨_, Heap.get?_push_of_some _ (Heap.get?_push_size _ rfl), rfl, rfl⟩ fun b o z => Heap.get?_push_of_some _ (Heap.get?_push_of_some _ z)⟩
theorem enumStep {en li l : Addr} {j : Int} {i : Nat} {its : Array Value} {x old : Value} {Q : Value → Shared → Prop} (atE : IsEnum sh.heap en li j old) (atI : sh.heap.IsListIter li l i) (isL : sh.heap.IsList l its) (hx : its[i]? = some x) (ne : en ≠ li)
    (hQ : ∀ hp, IsEnumOut hp en li (j + 1) x sh.heap.objs.size → hp.IsListIter li l (i + 1) → hp.get? sh.heap.objs.size = some { cls := .type "tuple", data := .seq #[.int j sh.toks, x] } →
      (∀ b o, b ≠ en → b ≠ li → sh.heap.get? b = some o → hp.get? b = some o) → Q (.ref sh.heap.objs.size) { sh with heap := hp, toks := sh.toks + 1 }) :
    wpAny (model pg wd) Ar (Builtin.«enumerate.__next__» ⟨[.ref en], []⟩) (fun fin st => ∃ v, fin = .done (.ret v) ∧ Q v st) Er sh := by
  obtain ⟨h0, gn, dr, tk, os⟩ := sh
  show wpAny _ _ (field (.ref en) 2 >>= _) _ _ _
  refine wpAny_bind (wpAny_field atE rfl (x := .ref li) rfl (wpAny_bind (wpAny_nextOf_list_item atI isL hx fun h1 atI1 same1 => ?_)))
  replace same1 : Heap.SameBut li h0 h1 := same1
  have atE1 : IsEnum h1 en li j old := (same1.2 en ne).trans atE
  show wpAny _ _ (field (.ref en) 3 >>= _) _ _ ⟨h1, gn, dr, tk, os⟩
  refine wpAny_bind (wpAny_field atE1 rfl (x := rawInt j) rfl ?_)
  show wpAny _ _ (field (.ref en) 4 >>= _) _ _ ⟨h1, gn, dr, tk, os⟩
  refine wpAny_bind (wpAny_field atE1 rfl (x := .none) rfl ?_)
  show wpAny _ _ (mkInt j >>= _) _ _ ⟨h1, gn, dr, tk, os⟩
  refine wpAny_bind (wpAny_mkInt ?_)
  show wpAny _ _ (setField (.ref en) 3 (rawInt (j + 1)) >>= _) _ _ ⟨h1, gn, dr, tk + 1, os⟩
  refine wpAny_bind (wpAny_setField_rec atE1 (by simp) fun h2 (atE2 : IsEnum h2 en li (j + 1) old) (same2 : Heap.SameBut en h1 h2) => ?_)
  show wpAny _ _ (setField (.ref en) 4 .none >>= _) _ _ ⟨h2, gn, dr, tk + 1, os⟩
  refine wpAny_bind (wpAny_setField_rec atE2 (by simp) fun h3 (atE3 : IsEnum h3 en li (j + 1) old) (same3 : Heap.SameBut en h2 h3) => ?_)
  show wpAny _ _ (newTuple [.int j tk, x] >>= _) _ _ ⟨h3, gn, dr, tk + 1, os⟩
  refine wpAny_bind (wpAny_newTuple ?_)
  have atE4 : IsEnum (h3.push { cls := .type "tuple", data := .seq #[.int j tk, x] }) en li (j + 1) old := Heap.get?_push_of_some _ atE3
  have sz : h3.objs.size = h0.objs.size := by rw [same3.1, same2.1, same1.1]
  have lt : en < h0.objs.size := Heap.lt_size atE
  have tup4 : (h3.push { cls := .type "tuple", data := .seq #[.int j tk, x] }).get? h0.objs.size = some { cls := .type "tuple", data := .seq #[.int j tk, x] } := by
    have z := Heap.get?_push_size h3 (o := { cls := .type "tuple", data := .seq #[.int j tk, x] }) rfl
    rwa [sz] at z
  have kp4 : ∀ b o, b ≠ en → b ≠ li → h0.get? b = some o → (h3.push { cls := .type "tuple", data := .seq #[.int j tk, x] }).get? b = some o := fun b o n1 n2 z => Heap.get?_push_of_some _ (same3.extBut b o n1 (same2.extBut b o n1 (same1.extBut b o n2 z)))
  have atI4 : (h3.push { cls := .type "tuple", data := .seq #[.int j tk, x] }).IsListIter li l (i + 1) := by
    obtain ⟨o, ho, r⟩ := (atI1.extBut same2.extBut (Ne.symm ne)).extBut same3.extBut (Ne.symm ne)
    exact ⟨o, Heap.get?_push_of_some _ ho, r⟩
  generalize h3.push { cls := .type "tuple", data := .seq #[.int j tk, x] } = h4 at atE4 tup4 kp4 atI4 ⊢
  show wpAny _ _ (Builtin.SmallTypes.ownedTupleIsFree (.ref en) >>= _) _ _ ⟨h4, gn, dr, tk + 1, os⟩
  rw [sz]
  clear atE3 same3 atE2 same2 atE1 same1 atI1 sz h3 h2 h1
  refine wpAny_bind ?_
  unfold Builtin.SmallTypes.ownedTupleIsFree
  refine wpAny_bind (wpAny_field atE4 rfl (x := .none) rfl (wpAny_pure ?_))
  simp only [if_true]
  refine wpAny_bind (wpAny_rule (wpAny_bind (wpAny_field atE4 rfl (x := old) rfl (wpAny_bind (wpAny_setField_rec atE4 (by simp) fun h5 (atE5 : IsEnum h5 en li (j + 1) x) (same5 : Heap.SameBut en h4 h5) => ?_)))))
  show wpAny _ _ (Builtin.SmallTypes.ownedTupleHandOut (.ref en) (.ref h0.objs.size) >>= _) _ _ ⟨h5, gn, dr, tk + 1, os⟩
  refine wpAny_bind ?_
  unfold Builtin.SmallTypes.ownedTupleHandOut
  refine wpAny_bind (wpAny_setField_rec atE5 (by simp) fun h6 (atE6 : IsEnumOut h6 en li (j + 1) x h0.objs.size) (same6 : Heap.SameBut en h5 h6) => ?_)
  refine wpAny_setField_rec atE6 (by simp) fun h7 (atE7 : IsEnumOut h7 en li (j + 1) x h0.objs.size) (same7 : Heap.SameBut en h6 h7) => ?_
  have nt : h0.objs.size ≠ en := Nat.ne_of_gt lt
  exact wpAny_bind (wpAny_letGo (wpAny_pure ⟨_, rfl, hQ h7 atE7 (((atI4.extBut same5.extBut (Ne.symm ne)).extBut same6.extBut (Ne.symm ne)).extBut same7.extBut (Ne.symm ne))
    (same7.extBut _ _ nt (same6.extBut _ _ nt (same5.extBut _ _ nt tup4))) fun b o n1 n2 z => same7.extBut b o n1 (same6.extBut b o n1 (same5.extBut b o n1 (kp4 b o n1 n2 z)))⟩))
theorem enumNext {en li l : Addr} {j : Int} {i : Nat} {its : Array Value} {x old : Value} {Q : Option Value → Shared → Prop} (atE : IsEnum sh.heap en li j old) (atI : sh.heap.IsListIter li l i) (isL : sh.heap.IsList l its) (hx : its[i]? = some x) (ne : en ≠ li)
    (hQ : ∀ hp, IsEnumOut hp en li (j + 1) x sh.heap.objs.size → hp.IsListIter li l (i + 1) → hp.get? sh.heap.objs.size = some { cls := .type "tuple", data := .seq #[.int j sh.toks, x] } →
      (∀ b o, b ≠ en → b ≠ li → sh.heap.get? b = some o → hp.get? b = some o) → Q (some (.ref sh.heap.objs.size)) { sh with heap := hp, toks := sh.toks + 1 }) :
    wpAny (model pg wd) Ar (pyNext (.ref en)) Q Er sh := by
  have isT : sh.TypeIs (.ref en) "enumerate" := ⟨_, atE, rfl⟩
  unfold pyNext
  exact wpAny_bind (wpAny_attempt (wpAny_callSpecial?_slot (name := Str.ofString "__next__") isT F.slot_enumerate_next (wpAny_call_entry F.slot_enumerate_next isT F.entry_enumerate_next
    (enumStep atE atI isL hx ne fun hp a b c k => wpAny_pure (hQ hp a b c k)) (F.args_enumerate_next_1 _))))
theorem enumEnd {en li l : Addr} {j : Int} {i : Nat} {its : Array Value} {old : Value} {Q : Option Value → Shared → Prop} (hh : Ar.handled = none) (atE : IsEnum sh.heap en li j old) (atI : sh.heap.IsListIter li l i) (isL : sh.heap.IsList l its) (hx : its[i]? = none)
    (hQ : ∀ hp, Heap.ExtBut li sh.heap hp → Q none { sh with heap := hp }) : wpAny (model pg wd) Ar (pyNext (.ref en)) Q Er sh := by
  have isT : sh.TypeIs (.ref en) "enumerate" := ⟨_, atE, rfl⟩
  unfold pyNext
  refine wpAny_bind (wpAny_attempt (wpAny_callSpecial?_slot (name := Str.ofString "__next__") isT F.slot_enumerate_next (wpAny_call_entry F.slot_enumerate_next isT F.entry_enumerate_next ?_ (F.args_enumerate_next_1 _))))
  show wpAny _ _ (field (.ref en) 2 >>= _) _ _ _
  refine wpAny_bind (wpAny_field atE rfl (x := .ref li) rfl (wpAny_bind (wpAny_nextOf_list_end hh atI isL hx fun hp x ext ⟨o, ho, hc⟩ => ?_)))
  exact wpAny_bind (wpAny_isInstance (T := "StopIteration") (b := true) ⟨o, ho, hc⟩ isSubtype_stop (wpAny_pure (hQ _ ext)))
end
/-- enumerate(list, start=1) -/
def Ite1 (K : PySem.W.Frag) (a : Addr) : It :=
  ⟨fun i H => ∃ xs x, SqL K H a xs ∧ xs[i]? = some x, fun i H x H' => ∃ p, H p = none ∧ x = .ref p ∧ ∀ xs v, SqL K H a xs → xs[i]? = some v → H' = upd H p (.tup [.int ((i + 1 : Nat) : Int), v]), fun i H => ∃ xs, SqL K H a xs ∧ xs.length ≤ i⟩
theorem turn_enum1 {P : Program} {w : World} {K : PySem.W.Frag} {elts : List Expr} {k0 : Nat} {pos : Pos} (a e it : Addr) (hne : e ≠ it) :
    Turn P w K (.Tuple elts k0 pos) (Ite1 K a) [e, it] e (fun i h => (∃ old, IsEnum h e it ((i + 1 : Nat) : Int) old) ∧ h.IsListIter it a i) where
  mem := by simp
  obj := fun i h st b hb => by
    obtain ⟨⟨old, he⟩, o, ho, c, d⟩ := st
    rcases List.mem_cons.mp hb with rfl | hb
    · exact ⟨_, he, fun v z => by
        have z' : Data.fields _ = Data.cell v := z
        cases z'⟩
    · have e2 : b = it := by simpa using hb
      subst e2
      exact ⟨o, ho, fun v z => by rw [d] at z; cases z⟩
  keep := fun i h h' st k => ⟨by obtain ⟨old, he⟩ := st.1; exact ⟨old, k e (by simp) _ he⟩, st.2.at fun o ho => k it (by simp) o ho⟩
  item := by
    intro X hP hw hK hc i pins s σ H E I hf st hg
    subst hP hw hK
    obtain ⟨xs, x, hq, hx⟩ := hg
    obtain ⟨its, rv, p, hz⟩ := I.list hq
    obtain ⟨u, hu, ru⟩ := rv.get hx
    obtain ⟨⟨old, he⟩, hit⟩ := st
    refine enumNext he hit p.isList (x := u) (by simpa using hu) hne fun h' ho' hit' hT' hk' => ?_
    have I1 : Inv X pins σ (upd H s.heap.objs.size (.tup [.int ((i + 1 : Nat) : Int), x])) { s with heap := h', toks := s.toks + 1 } :=
      I.yields (ch := [e, it]) hf (fun b o hb q => hk' b o (fun z => hb (by simp [z])) (fun z => hb (by simp [z])) q) (Nat.le_refl _) (by show 2 ≤ sizeLine; decide)
        ⟨[.int ((i + 1 : Nat) : Int) s.toks, u], .cons ⟨_, rfl⟩ (.cons ru .nil), ⟨_, hT', rfl, _, rfl⟩⟩ (fun b hb => by
          rcases List.mem_cons.mp hb with rfl | hb
          · exact ⟨_, ho'⟩
          · have e2 : b = it := by simpa using hb
            subst e2
            obtain ⟨o, q, _⟩ := hit'
            exact ⟨o, q⟩)
    refine ⟨_, rfl, wpAny_letOwnedTupleGo_enum (s := { s with heap := h', toks := s.toks + 1 }) ho' fun h'' he'' hs'' => ?_⟩
    have fr : ∀ b ∈ [e, it], (upd H s.heap.objs.size (.tup [.int ((i + 1 : Nat) : Int), x])) b = none := fun b hb => by
      have hlt : b < s.heap.objs.size := by
        rcases List.mem_cons.mp hb with rfl | hb
        · exact Heap.lt_size he
        · have e2 : b = it := by simpa using hb
          subst e2
          obtain ⟨o, q, _⟩ := hit
          exact Heap.lt_size q
      rw [upd_ne (Nat.ne_of_lt hlt)]; exact (hf b hb).1
    obtain ⟨f0, f1, f2, f3, f4, f5⟩ := hf e (by simp)
    have I2 := I1.turned (t' := s.toks + 1) (it := e) (h' := h'') (fun b o hb q => (hs''.2 b hb).trans q) (fr e (by simp)) f1 f3 f4 f5
    refine ⟨.ref s.heap.objs.size, _, I2, rfl, ⟨s.heap.objs.size, I.hok.fresh (Nat.le_refl _), rfl, fun ys v hy hv => ?_⟩, ⟨⟨_, by simpa using he''⟩, hit'.at fun o q => (hs''.2 it (Ne.symm hne)).trans q⟩, fr⟩
    have := I.list_inj hy hq
    subst this
    rw [hx] at hv
    cases hv
    rfl
  done := by
    intro X hP hw hK hc i pins s σ H E I hf st hg
    subst hP hw hK
    obtain ⟨xs, hq, hx⟩ := hg
    obtain ⟨its, rv, p, hz⟩ := I.list hq
    obtain ⟨⟨old, he⟩, hit⟩ := st
    obtain ⟨f0, f1, f2, f3, f4, f5⟩ := hf it (by simp)
    have hl := rv.length
    exact enumEnd (I.ok.hd hc) he hit p.isList (by simp; omega) fun h' eb => ⟨rfl, I.turned (t' := s.toks) (fun b o hb q => eb b o hb q) f0 f1 f3 f4 f5⟩
  self := fun _ _ _ _ _ st h => by obtain ⟨old, he⟩ := st.1; exact wpAny_pyIter_enum he h
def iEnum1 (K : PySem.W.Frag) (tl : TA) : TI := fun σ H R => tl σ H fun vs H1 => ∃ a xs, vs = [.ref a] ∧ H1 a = some (.lst xs) ∧ R (Ite1 K a) H1
section
variable {X : Cx}
theorem typeWith {M : Model} {A : Around} {E : Value → Shared → Prop} {s : Shared} {pos : Pos} {T : String} {args : List (Bool × Sem Value)} {kws : List (Option Str × Sem Value)} {Q : Value → Shared → Prop} (h1 : args.any (·.1) = false) (h2 : kws.any (·.1.isNone) = false)
    (h : wpAny M A (evalArgs (.type T) true args kws) (fun a s1 => wpAny M A (call (.type T) a.pos a.kw) Q E s1) E s) : wpAny M A (callWith pos (.type T) [] args kws) Q E s := by
  unfold callWith
  refine wpAny_bind (wpAny_holding (thn h fun a s1 g1 => wpAny_bind (wpAny_standAt ?_)))
  simp only [h1, h2, Bool.or_false]
  exact wpAny_bind (wpAny_pure (wpAny_bind (thn g1 fun r s2 g2 => wpAny_bind (wpAny_holding (wpAny_point (wpAny_pure g2))))))
theorem pi_enum1K (K : PySem.W.Frag) {elts : List Expr} {k0 : Nat} {tpos : Pos} {l ev : Expr} {tl : TA} {p pos kp : Pos} (hg : Gl X "enumerate") (hm : X.mg "enumerate" = none) (hb : bootBuiltins "enumerate" = some (.type "enumerate")) (ha : PA X [l] tl) (he : PE X ev (tC (.int 1))) (hK : X.K = K := by rfl)
    (hs : starEach [l] X.env = [(false, eval l X.env)] := by rfl) : PI X (.Tuple elts k0 tpos) (.Call (.Name "enumerate" p) [l] [⟨some "start", ev, kp⟩] pos) (iEnum1 K tl) := by
  subst hK
  intro pins s σ H R I h
  refine wpAny_Call_Name_kw (ld_blt I hg hm hb ?_)
  have ht : backTo pos (starEach [l] X.env) = [(false, eval l X.env)] := by rw [hs]; rfl
  have h0 := ha pos pins s σ H _ I h
  rw [ht] at h0 ⊢
  refine typeWith rfl rfl (evalArgs_kwB rfl (thn h0 fun us s1 ⟨vs, H1, I1, r1, q1⟩ => kws_cons (thn (he pins s1 σ H1 (fun v H' => v = V.int 1 ∧ H' = H1) I1 ⟨rfl, rfl⟩) fun v s2 ⟨y, H2, I2, r2, e1, e2⟩ => kws_nil ?_)))
  subst e1 e2
  obtain ⟨a, xs, rfl, hq, q⟩ := q1
  obtain ⟨u, rfl, ru⟩ := vals1 r1
  cases ru
  obtain ⟨tk, rfl⟩ := r2
  obtain ⟨z, its, n, rv, e⟩ := (show ObjOk X.prog X.w H2 s2.heap a (.lst xs) from I2.hok a _ hq)
  refine enumKw e fun h' he hit hk => ?_
  have I3 : Inv X pins σ H2 { s2 with heap := h' } := I2.kept (t' := s2.toks) hk
  refine wpAny_pyIter_enum he ?_
  refine ⟨s2.heap.objs.size + 1, [s2.heap.objs.size + 1, s2.heap.objs.size], _, _, H2, rfl, I3, turn_enum1 a _ _ (Nat.ne_of_gt (Nat.lt_succ_self _)), ⟨⟨_, he⟩, hit⟩, fun b hb => ?_, q⟩
  have hle : s2.heap.objs.size ≤ b := by
    rcases List.mem_cons.mp hb with rfl | hb
    · exact Nat.le_succ _
    · have e2 : b = s2.heap.objs.size := by simpa using hb
      exact Nat.le_of_eq e2.symm
  exact I2.fpOk hle (I2.hok.fresh hle)
end
/-- [.. for i, x in enumerate(l, start=1)] -/
theorem comp_enum1 {K : PySem.W.Frag} {a D : Addr} {xs : List V} {tt : TT} {te : TE} {σ0 : St} {H1 : Hp} {Q : VK} (Pv : Nat → List V → Hp → Prop) (h0 : Pv 0 [] (upd H1 D (.lst [])))
    (hl : ∀ i ys H, i ≤ xs.length → Pv i ys H → H a = some (.lst xs))
    (hs : ∀ i x ys H p, xs[i]? = some x → Pv i ys H → H D = some (.lst ys) → H p = none → tt ((σ0.set 0 (some (.int ((i + 1 : Nat) : Int)))).set 1 (some x)) (upd H p (.tup [.int ((i + 1 : Nat) : Int), x])) fun b H4 =>
      if b = true then te ((σ0.set 0 (some (.int ((i + 1 : Nat) : Int)))).set 1 (some x)) H4 (CE2 σ0 D Pv (i + 1) ((σ0.set 0 (some (.int ((i + 1 : Nat) : Int)))).set 1 (some x))) else CN2 σ0 D Pv (i + 1) ((σ0.set 0 (some (.int ((i + 1 : Nat) : Int)))).set 1 (some x)) H4)
    (hd : ∀ ys H, Pv xs.length ys H → H D = some (.lst ys) → Q (.ref D) H) : CompRun (Ite1 K a) (g2 K) tt te Q σ0 H1 D := by
  refine comp_pairs (n := xs.length) (xs := fun i => (.int ((i + 1 : Nat) : Int), (xs[i]?).getD .non)) Pv h0 (fun i ys H hi p => ?_) (fun ys H p => ?_) (fun i ys H x H' hi p y => ?_) (fun i ys H p hi hp hD hf => ?_) hd
  · exact ⟨xs, xs[i], SqL.of (hl i ys H (Nat.le_of_lt hi) p), List.getElem?_eq_getElem hi⟩
  · exact ⟨xs, SqL.of (hl _ ys H (Nat.le_refl _) p), Nat.le_refl _⟩
  · obtain ⟨q, hq, e, z⟩ := y
    refine ⟨q, hq, e, ?_⟩
    rw [z xs xs[i] (SqL.of (hl i ys H (Nat.le_of_lt hi) p)) (List.getElem?_eq_getElem hi), List.getElem?_eq_getElem hi]; rfl
  · have e : xs[i]? = some xs[i] := List.getElem?_eq_getElem hi
    have z := hs i xs[i] ys H p e hp hD hf
    dsimp only
    rw [e]
    exact z
end L2

namespace L2
open PySem PySem.Spec PyProof.Rows
/-- for i, x in enumerate(l): .. -/
theorem for_enum {K : PySem.W.Frag} {a : Addr} {xs : List V} {g : TG} {tb : TS} {D : Ends} {σ : St} {H : Hp} (Pv : Nat → St → Hp → Prop) (h0 : Pv 0 σ H) (hl : ∀ i σ H, i ≤ xs.length → Pv i σ H → H a = some (.lst xs))
    (hs : ∀ i x σ H p, xs[i]? = some x → Pv i σ H → H p = none → g (.ref p) σ (upd H p (.tup [.int (i : Nat), x])) fun σ2 H2 => tb { D with nx := Pv (i + 1), ct := Pv (i + 1), bk := D.nx } σ2 H2) (hd : ∀ σ H, Pv xs.length σ H → D.nx σ H) :
    ∃ W : Nat → Nat → St → Hp → Prop, (∃ m, W 0 m σ H) ∧ ∀ i m σ H, W i m σ H →
      ((Ite K a).stop i H ∧ D.nx σ H) ∨ ((Ite K a).go i H ∧ ∃ N : St → Hp → Prop, (∀ σ' H', N σ' H' → ∃ m', m' < m ∧ W (i + 1) m' σ' H') ∧ ∀ x H', (Ite K a).yld i H x H' → g x σ H' fun σ2 H2 => tb { D with nx := N, ct := N, bk := D.nx } σ2 H2) := by
  refine ⟨fun i m σ H => m = xs.length - i ∧ i ≤ xs.length ∧ Pv i σ H, ⟨xs.length, by simp, Nat.zero_le _, h0⟩, ?_⟩
  rintro i m σ H ⟨rfl, hi, p⟩
  have q : SqL K H a xs := SqL.of (hl i σ H hi p)
  by_cases hlt : i < xs.length
  · refine .inr ⟨⟨xs, xs[i], q, by simp [hlt]⟩, Pv (i + 1), fun σ' H' p' => ⟨xs.length - (i + 1), by omega, rfl, hlt, p'⟩, fun x H' y => ?_⟩
    obtain ⟨t, ht, rfl, y⟩ := y
    have e : xs[i]? = some xs[i] := List.getElem?_eq_getElem hlt
    rw [y xs xs[i] q e]
    exact hs i xs[i] σ H t e p ht
  · have e : i = xs.length := by omega
    subst e
    exact .inl ⟨⟨xs, q, Nat.le_refl _⟩, hd σ H p⟩
end L2

namespace L2
open PySem PySem.Spec PyProof.Rows
section
variable {X : Cx}
theorem op_isntB : OpR X (compareOp .IsNot) (fun x y H Q => ∃ a b : Bool, x = .bl a ∧ y = .bl b ∧ Q (.bl (!(a == b))) H) := by
  intro pins s σ H x y v u Q I rx ry h
  obtain ⟨a, b, rfl, rfl, q⟩ := h
  cases rx
  cases ry
  refine wpAny_isNot_plain rfl (fin_bl I q ?_)
  cases a <;> cases b <;> rfl
/-- isinstance(x, C), C an own class -/
structure ClsTy (K : PySem.W.Frag) (C : Addr) : Prop where
  a : PySem.W.findIn K (.ref C) "__class__" = some (some (.builtin "object.__class__"))
  n : PySem.W.specialIn K (.builtin "object.__class__") "__get__" = some (some (.builtin "getset_descriptor.__get__"))
  tk : PySem.W.takesIn K (.builtin "object.__class__") = some true
  m : PySem.W.mroIn K C (.type "object") = some true
theorem ClsTy.ty {K : PySem.W.Frag} {H : Hp} {a C dx : Addr} {fs : List (Str × V)} (t : ClsTy K C) (cl : Cls K C) (e : H a = some (.ins C dx fs)) : TyOf K H (.ref a) (.ref C) := .ins e cl t.a t.n t.tk t.m
def rIsC (K : PySem.W.Frag) : List V → Hp → VK → Prop := fun xs H Q => ∃ x t C b, xs = [x, .ref C] ∧ TyOf K H x t ∧ PySem.W.kitOne K t (.ref C) = some b ∧ Q (.bl b) H
theorem call_isinstC : CallR X (.builtin "isinstance") (rIsC X.K) := by
  intro pins s σ H xs us Q I r h
  obtain ⟨x, t, n, b, rfl, ty, e, q⟩ := h
  obtain ⟨u, c, rfl, rx, rc⟩ := vals2 r
  obtain rfl : c = Value.ref n := rc
  exact isinst_ok I rx ty e fun tk => ⟨.bl b, H, I.tok tk, rfl, q⟩
theorem call_isinstCK (K : PySem.W.Frag) (h : X.K = K := by rfl) : CallR X (.builtin "isinstance") (rIsC K) := by subst h; exact call_isinstC
/-- one of two rules -/
def tEither (t u : TE) : TE := fun σ H Q => t σ H Q ∨ u σ H Q
theorem pe_either {e : Expr} {t u : TE} (h1 : PE X e t) (h2 : PE X e u) : PE X e (tEither t u) := fun pins s σ H Q I h => h.elim (h1 pins s σ H Q I) (h2 pins s σ H Q I)
variable {o e : Expr} {t : TA} {apos cpos : Pos}
end
end L2

namespace L2
open PySem PySem.Spec PyProof.Rows
/-- while, by a word that has the measure in it -/
theorem while_m {c : TT} {tb : TS} {D : Ends} {σ : St} {H : Hp} (Pv : Nat → St → Hp → Prop) (m0 : Nat) (h0 : Pv m0 σ H)
    (hs : ∀ m σ H, Pv m σ H → c σ H fun b H1 => if b = true then tb { D with nx := fun σ' H' => ∃ m', m' < m ∧ Pv m' σ' H', ct := fun σ' H' => ∃ m', m' < m ∧ Pv m' σ' H', bk := D.nx } σ H1 else D.nx σ H1)
    (mono : ∀ σ H Q Q', (∀ b H1, Q b H1 → Q' b H1) → c σ H Q → c σ H Q') : tWhile c tb D σ H := by
  refine ⟨Pv, ⟨m0, h0⟩, fun m σ H p => mono σ H _ _ (fun b H1 q => ?_) (hs m σ H p)⟩
  cases b with
  | true => exact ⟨_, fun σ' H' h => h, q⟩
  | false => exact q
/-- x in a list, items and x being data of any depth -/
def rInD (neg : Bool) : R2 := fun x y H Q => ∃ (d : PyData) (ds : List PyData), Dt H x d ∧ Dt H y (.list ds) ∧ d.canLay0 = true ∧ PyData.canLayAll0 ds = true ∧ d.depth ≤ 60 ∧ Q (.bl (if neg = true then !(ds.any fun e => PyData.eqv e d) else ds.any fun e => PyData.eqv e d)) H
section
variable {X : Cx}
theorem op_inD (hu : X.A.units + 64 < cLine) : OpR X (compareOp .In) (rInD false) := by
  intro pins s σ H x y v u Q I rx ry h
  obtain ⟨d, ds, d1, d2, c1, c2, hd, q⟩ := h
  obtain ⟨as, ra⟩ := d1.reads I.hok rx
  obtain ⟨bs, rb⟩ := d2.reads I.hok ry
  exact SeqAt.in_list_reads rb ra c2 c1 (by have : min (PyData.depthAll ds) d.depth ≤ d.depth := Nat.min_le_right _ _; omega) ⟨.bl _, H, I, rfl, q⟩
theorem op_notInD (hu : X.A.units + 64 < cLine) : OpR X (compareOp .NotIn) (rInD true) := by
  intro pins s σ H x y v u Q I rx ry h
  obtain ⟨d, ds, d1, d2, c1, c2, hd, q⟩ := h
  obtain ⟨as, ra⟩ := d1.reads I.hok rx
  obtain ⟨bs, rb⟩ := d2.reads I.hok ry
  exact SeqAt.notIn_list_reads rb ra c2 c1 (by have : min (PyData.depthAll ds) d.depth ≤ d.depth := Nat.min_le_right _ _; omega) ⟨.bl _, H, I, rfl, q⟩
/-- min of a list of two ints -/
theorem call_minL (hc : X.calm = true) : CallR X (.builtin "min") (fun xs H Q => ∃ (p : Addr) (a b : Int), xs = [.ref p] ∧ SqL X.K H p [.int a, .int b] ∧ Q (.int (min a b)) H) := by
  intro pins s σ H xs us Q I r h
  obtain ⟨p, a, b, rfl, hq, q⟩ := h
  obtain ⟨u, rfl, rx⟩ := vals1 r
  cases rx
  obtain ⟨its, rv, pl, hz⟩ := I.list hq
  obtain ⟨u1, u2, rfl, ⟨t1, rfl⟩, ⟨t2, rfl⟩⟩ := vals2 rv
  have hl : s.heap.IsList p (intItems #[(a, t1), (b, t2)]) := by
    have := pl.isList
    simpa [intItems] using this
  refine min_intList (I.ok.hd hc) hl (show 0 < 2 by decide) fun v h' tk hv hk => ?_
  obtain ⟨t, rfl⟩ := intItems_at hv
  obtain ⟨h1, h2⟩ := argBest_lt (numAt #[(a, t1), (b, t2)]) 1
  have n0 : numAt #[(a, t1), (b, t2)] 0 = a := rfl
  have n1 : numAt #[(a, t1), (b, t2)] 1 = b := rfl
  have e : numAt #[(a, t1), (b, t2)] (argBest (fun i j => decide (numAt #[(a, t1), (b, t2)] i < numAt #[(a, t1), (b, t2)] j)) (#[(a, t1), (b, t2)].size - 1)) = min a b := by
    show numAt #[(a, t1), (b, t2)] (argBest (fun i j => decide (numAt #[(a, t1), (b, t2)] i < numAt #[(a, t1), (b, t2)] j)) 1) = min a b
    have g0 := h2 0 (by decide)
    have g1 := h2 1 (by decide)
    rw [n0] at g0
    rw [n1] at g1
    generalize argBest (fun i j => decide (numAt #[(a, t1), (b, t2)] i < numAt #[(a, t1), (b, t2)] j)) 1 = m at h1 g0 g1 ⊢
    have hm : m = 0 ∨ m = 1 := by omega
    rcases hm with rfl | rfl
    · rw [n0] at g1 ⊢; omega
    · rw [n1] at g0 ⊢; omega
  exact ⟨.int (min a b), H, I.kept hk, ⟨t, by rw [e]⟩, q⟩
def rMinL (K : PySem.W.Frag) : List V → Hp → VK → Prop := fun xs H Q => ∃ (p : Addr) (a b : Int), xs = [.ref p] ∧ SqL K H p [.int a, .int b] ∧ Q (.int (min a b)) H
theorem call_minLK (K : PySem.W.Frag) (hc : X.calm = true) (h : X.K = K := by rfl) : CallR X (.builtin "min") (rMinL K) := by subst h; exact call_minL hc
end
end L2

namespace TC
/-! sets of columns as numbers -/
def Sb (a b : Nat) : Prop := a ||| b = b
instance (a b : Nat) : Decidable (Sb a b) := inferInstanceAs (Decidable (a ||| b = b))
theorem Sb.refl (a : Nat) : Sb a a := Nat.or_self a
theorem Sb.trans {a b c : Nat} (h : Sb a b) (k : Sb b c) : Sb a c := by
  unfold Sb at *
  rw [← k, ← Nat.or_assoc, h]
theorem Sb.left (a b : Nat) : Sb a (a ||| b) := by
  unfold Sb
  rw [← Nat.or_assoc, Nat.or_self]
theorem Sb.right (a b : Nat) : Sb b (a ||| b) := by
  unfold Sb
  rw [Nat.or_comm a b, ← Nat.or_assoc, Nat.or_self]
theorem Sb.le {a b : Nat} (h : Sb a b) : a ≤ b := by
  unfold Sb at h
  rw [← h]; exact Nat.left_le_or
theorem Sb.or {a b c : Nat} (h : Sb a c) (k : Sb b c) : Sb (a ||| b) c := by
  unfold Sb at *
  rw [Nat.or_assoc, k, h]
theorem Sb.iff_bit {a b : Nat} : Sb a b ↔ ∀ i, a.testBit i = true → b.testBit i = true := by
  unfold Sb
  constructor
  · intro h i hi
    rw [← h, Nat.testBit_or, hi]; rfl
  · intro h
    apply Nat.eq_of_testBit_eq
    intro i
    rw [Nat.testBit_or]
    cases e : a.testBit i with
    | true => rw [h i e]; rfl
    | false => rfl

/-! one pass over the rules -/
def stp (s : Nat) (p : Nat × Nat) : Nat := if Sb p.1 s then s ||| p.2 else s
def pass (ps : List (Nat × Nat)) (s : Nat) : Nat := ps.foldl stp s
def passN (ps : List (Nat × Nat)) : Nat → Nat → Nat
  | 0, s => s
  | n + 1, s => passN ps n (pass ps s)
/-- what a set tells: as many passes as there are rules -/
def cl (ps : List (Nat × Nat)) (s : Nat) : Nat := passN ps ps.length s
end TC

namespace TC
/-- all columns -/
def full (c : Nat) : Nat := 2 ^ c - 1
theorem bit_lt {c s k : Nat} (hs : s < 2 ^ c) (h : s.testBit k = true) : k < c := by
  apply Decidable.byContradiction
  intro hn
  have : 2 ^ c ≤ 2 ^ k := Nat.pow_le_pow_right (by decide) (Nat.le_of_not_lt hn)
  rw [Nat.testBit_lt_two_pow (Nat.lt_of_lt_of_le hs this)] at h
  cases h
end TC

namespace TC
/-! closed sets, in general -/
theorem Sb.and {a b c : Nat} (h : Sb a b) (k : Sb a c) : Sb a (b &&& c) := Sb.iff_bit.mpr fun i hi => by
  rw [Nat.testBit_and, Sb.iff_bit.mp h i hi, Sb.iff_bit.mp k i hi]; rfl
theorem Sb.zero (a : Nat) : Sb 0 a := by unfold Sb; exact Nat.zero_or a
theorem Sb.lt {a b k : Nat} (h : Sb a b) (hb : b < 2 ^ k) : a < 2 ^ k := Nat.lt_of_le_of_lt h.le hb
/-! as many passes as columns do -/
end TC

namespace TC
/-! places of rules that lead somewhere -/
/-! a rule that brings more -/
end TC

namespace TC
/-! sheets and their steps -/
def rowOf (c s n : Nat) : List Nat := (List.range c).map fun j => if s.testBit j = true then 0 else n
theorem rowOf_len (c s n : Nat) : (rowOf c s n).length = c := by unfold rowOf; rw [List.length_map, List.length_range]
theorem rowOf_at {c s n j : Nat} (h : j < c) : (rowOf c s n).getD j 0 = if s.testBit j = true then 0 else n := by
  unfold rowOf
  simp [List.getD, List.getElem?_map, List.getElem?_range, h]
def low (a b v : Nat) : Nat := if v = a ∨ v = b then min a b else v
theorem low_le (a b v : Nat) : low a b v ≤ v := by
  unfold low
  split
  · rename_i h
    rcases h with rfl | rfl
    · exact Nat.min_le_left _ _
    · exact Nat.min_le_right _ _
  · exact Nat.le_refl _
theorem low_left {a b : Nat} : low a b a = min a b := by unfold low; rw [if_pos (.inl rfl)]
theorem low_right {a b : Nat} : low a b b = min a b := by unfold low; rw [if_pos (.inr rfl)]
def stepRow (c r : Nat) (f g row : List Nat) : List Nat := (List.range c).map fun j => if r.testBit j = true then low (f.getD j 0) (g.getD j 0) (row.getD j 0) else row.getD j 0
def stepS (c r i k : Nat) (S : List (List Nat)) : List (List Nat) := S.map (stepRow c r (S.getD i []) (S.getD k []))
theorem stepRow_len (c r : Nat) (f g row : List Nat) : (stepRow c r f g row).length = c := by unfold stepRow; rw [List.length_map, List.length_range]
theorem stepRow_at {c r j : Nat} {f g row : List Nat} (h : j < c) : (stepRow c r f g row).getD j 0 = if r.testBit j = true then low (f.getD j 0) (g.getD j 0) (row.getD j 0) else row.getD j 0 := by
  unfold stepRow
  simp [List.getD, List.getElem?_map, List.getElem?_range, h]
theorem getD_out {row : List Nat} {j : Nat} (h : row.length ≤ j) : row.getD j 0 = 0 := by
  simp [List.getD, List.getElem?_eq_none h]
theorem stepRow_le {c r j : Nat} {f g row : List Nat} : (stepRow c r f g row).getD j 0 ≤ row.getD j 0 := by
  by_cases h : j < c
  · rw [stepRow_at h]
    split
    · exact low_le _ _ _
    · exact Nat.le_refl _
  · rw [getD_out (by rw [stepRow_len]; omega)]
    exact Nat.zero_le _
theorem row_eq {x y : List Nat} (h : x.length = y.length) (e : ∀ j, j < x.length → x.getD j 0 = y.getD j 0) : x = y := by
  refine List.ext_getElem h fun j h1 h2 => ?_
  have := e j h1
  simpa [List.getD, List.getElem?_eq_getElem h1, List.getElem?_eq_getElem h2] using this
def sumTo (row : List Nat) (c : Nat) : Nat := ((List.range c).map fun j => row.getD j 0).sum
theorem sumTo_succ (row : List Nat) (c : Nat) : sumTo row (c + 1) = sumTo row c + row.getD c 0 := by
  unfold sumTo
  rw [List.range_succ, List.map_append, List.sum_append]; simp
theorem sumTo_le {x y : List Nat} (h : ∀ j, x.getD j 0 ≤ y.getD j 0) : ∀ c, sumTo x c ≤ sumTo y c
  | 0 => Nat.le_refl _
  | c + 1 => by
    rw [sumTo_succ, sumTo_succ]
    have := sumTo_le h c
    have := h c
    omega
theorem sumTo_lt {x y : List Nat} {j : Nat} (h : ∀ j, x.getD j 0 ≤ y.getD j 0) (hj : x.getD j 0 < y.getD j 0) : ∀ c, j < c → sumTo x c < sumTo y c
  | 0, hc => absurd hc (Nat.not_lt_zero j)
  | c + 1, hc => by
    rw [sumTo_succ, sumTo_succ]
    by_cases e : j = c
    · subst e
      have := sumTo_le h j
      omega
    · have := sumTo_lt h hj c (by omega)
      have := h c
      omega
def tot (c : Nat) (S : List (List Nat)) : Nat := (S.map fun row => sumTo row c).sum
theorem sum_map_le {α : Type} {f g : α → Nat} : ∀ {l : List α}, (∀ x ∈ l, f x ≤ g x) → (l.map f).sum ≤ (l.map g).sum
  | [], _ => Nat.le_refl _
  | x :: l, h => by
    simp only [List.map_cons, List.sum_cons]
    have := h x List.mem_cons_self
    have := sum_map_le (l := l) fun y hy => h y (List.mem_cons_of_mem _ hy)
    omega
theorem sum_map_lt {α : Type} {f g : α → Nat} {a : α} : ∀ {l : List α}, (∀ x ∈ l, f x ≤ g x) → a ∈ l → f a < g a → (l.map f).sum < (l.map g).sum
  | [], _, ha, _ => nomatch ha
  | x :: l, h, ha, hl => by
    simp only [List.map_cons, List.sum_cons]
    have h1 := h x List.mem_cons_self
    have h2 := sum_map_le (l := l) fun y hy => h y (List.mem_cons_of_mem _ hy)
    rcases List.mem_cons.mp ha with rfl | ha
    · omega
    · have := sum_map_lt (l := l) (fun y hy => h y (List.mem_cons_of_mem _ hy)) ha hl
      omega
theorem tot_le (c r i k : Nat) (S : List (List Nat)) : tot c (stepS c r i k S) ≤ tot c S := by
  unfold tot stepS
  rw [List.map_map]
  exact sum_map_le fun x _ => sumTo_le (fun _ => stepRow_le) c
theorem getD_of {S : List (List Nat)} {i : Nat} {f : List Nat} (h : S[i]? = some f) : S.getD i [] = f := by simp [List.getD, h]
theorem tot_lt {c r i k j : Nat} {S : List (List Nat)} {f g : List Nat} (hf : S[i]? = some f) (hg : S[k]? = some g) (hj : j < c) (hr : r.testBit j = true) (hne : f.getD j 0 ≠ g.getD j 0) : tot c (stepS c r i k S) < tot c S := by
  unfold tot stepS
  rw [List.map_map, getD_of hf, getD_of hg]
  have hle : ∀ x ∈ S, sumTo (stepRow c r f g x) c ≤ sumTo x c := fun x _ => sumTo_le (fun _ => stepRow_le) c
  rcases Nat.lt_or_gt_of_ne hne with h | h
  · refine sum_map_lt hle (List.mem_of_getElem? hg) ?_
    refine sumTo_lt (j := j) (fun _ => stepRow_le) ?_ c hj
    rw [stepRow_at hj, if_pos hr, low_right]
    omega
  · refine sum_map_lt hle (List.mem_of_getElem? hf) ?_
    refine sumTo_lt (j := j) (fun _ => stepRow_le) ?_ c hj
    rw [stepRow_at hj, if_pos hr, low_left]
    omega
/-! alike in a set -/
def Lk (s : Nat) (x y : List Nat) : Prop := ∀ j, s.testBit j = true → x.getD j 0 = y.getD j 0
theorem Lk.or {a b : Nat} {x y : List Nat} (h : Lk a x y) (k : Lk b x y) : Lk (a ||| b) x y := fun j hj => by
  rw [Nat.testBit_or, Bool.or_eq_true] at hj
  rcases hj with e | e
  · exact h j e
  · exact k j e
theorem Lk.sub {a b : Nat} {x y : List Nat} (h : Lk b x y) (k : Sb a b) : Lk a x y := fun j hj => h j (Sb.iff_bit.mp k j hj)
theorem Lk.symm {a : Nat} {x y : List Nat} (h : Lk a x y) : Lk a y x := fun j hj => (h j hj).symm
theorem Lk.refl (a : Nat) (x : List Nat) : Lk a x x := fun _ _ => rfl
theorem Lk.trans {a : Nat} {x y z : List Nat} (h : Lk a x y) (k : Lk a y z) : Lk a x z := fun j hj => (h j hj).trans (k j hj)
/-! rows with 0 in a set -/
def Zer (s : Nat) (x : List Nat) : Prop := ∀ j, s.testBit j = true → x.getD j 0 = 0
theorem Zer.step {s c r : Nat} {f g x : List Nat} (h : Zer s x) : Zer s (stepRow c r f g x) := fun j hj => Nat.le_zero.mp (by have := h j hj; have := stepRow_le (c := c) (r := r) (j := j) (f := f) (g := g) (row := x); omega)
end TC

namespace TC
/-! a step, column by column -/
theorem bit_mod (r n j : Nat) : (r % 2 ^ n).testBit j = (decide (j < n) && r.testBit j) := Nat.testBit_mod_two_pow r n j
theorem stepRow_next {c r n : Nat} {f g x : List Nat} (hb : r.testBit n = true) (hn : n < c) : stepRow c (r % 2 ^ (n + 1)) f g x = (stepRow c (r % 2 ^ n) f g x).set n (low (f.getD n 0) (g.getD n 0) (x.getD n 0)) := by
  refine row_eq (by rw [List.length_set, stepRow_len, stepRow_len]) fun j hj => ?_
  rw [stepRow_len] at hj
  have hlen : j < (stepRow c (r % 2 ^ n) f g x).length := by rw [stepRow_len]; exact hj
  rw [stepRow_at hj, bit_mod]
  by_cases e : j = n
  · subst e
    rw [hb, if_pos (by simp)]
    simp [List.getD, List.getElem?_set, hlen]
  · have h1 : ((stepRow c (r % 2 ^ n) f g x).set n (low (f.getD n 0) (g.getD n 0) (x.getD n 0))).getD j 0 = (stepRow c (r % 2 ^ n) f g x).getD j 0 := by
      simp [List.getD, List.getElem?_set, Ne.symm e]
    rw [h1, stepRow_at hj, bit_mod]
    have h2 : decide (j < n + 1) = decide (j < n) := decide_eq_decide.mpr (by omega)
    rw [h2]
theorem stepRow_skip {c r n : Nat} {f g x : List Nat} (hb : r.testBit n = false) : stepRow c (r % 2 ^ (n + 1)) f g x = stepRow c (r % 2 ^ n) f g x := by
  refine row_eq (by rw [stepRow_len, stepRow_len]) fun j hj => ?_
  rw [stepRow_len] at hj
  rw [stepRow_at hj, stepRow_at hj, bit_mod, bit_mod]
  by_cases e : j = n
  · subst e
    rw [hb]; simp
  · have h2 : decide (j < n + 1) = decide (j < n) := decide_eq_decide.mpr (by omega)
    rw [h2]
theorem stepRow_same {c r n : Nat} {f g x : List Nat} (hn : n < c) : (stepRow c (r % 2 ^ n) f g x).getD n 0 = x.getD n 0 := by
  rw [stepRow_at hn, bit_mod]
  simp
theorem stepRow_none {c r : Nat} {f g x : List Nat} (h : x.length = c) : stepRow c (r % 2 ^ 0) f g x = x := by
  refine row_eq (by rw [stepRow_len, h]) fun j hj => ?_
  rw [stepRow_len] at hj
  rw [stepRow_at hj, bit_mod]
  simp
theorem set_self {x : List Nat} {n : Nat} : x.set n (x.getD n 0) = x := by
  refine row_eq (by rw [List.length_set]) fun j hj => ?_
  rw [List.length_set] at hj
  by_cases e : j = n
  · subst e
    simp [List.getD, List.getElem?_set, hj]
  · simp [List.getD, List.getElem?_set, Ne.symm e]
theorem mix_set {α : Type} {A B : List α} {m : Nat} {x : α} (hA : A[m]? = some x) (hl : A.length = B.length) : (A.take m ++ B.drop m).set m x = A.take (m + 1) ++ B.drop (m + 1) := by
  have hm : m < A.length := (List.getElem?_eq_some_iff.mp hA).1
  have hml : (A.take m).length = m := by rw [List.length_take]; omega
  rw [List.set_append_right _ _ (by omega), hml, Nat.sub_self, List.drop_eq_getElem_cons (by omega : m < B.length), List.set_cons_zero, List.take_add_one, hA]
  simp
theorem mix_at {α : Type} {A B : List α} {m : Nat} (hm : m ≤ A.length) : (A.take m ++ B.drop m)[m]? = B[m]? := by
  have hml : (A.take m).length = m := by rw [List.length_take]; omega
  rw [List.getElem?_append_right (by omega), hml, Nat.sub_self, List.getElem?_drop, Nat.add_zero]
/-- the first sheet -/
def sheetN (c : Nat) (pts : List Nat) : List (List Nat) := (List.range pts.length).map fun i => rowOf c (pts.getD i 0) (i + 1)
theorem sheetN_at {c i p : Nat} {pts : List Nat} (h : pts[i]? = some p) : (sheetN c pts)[i]? = some (rowOf c p (i + 1)) := by
  have hi : i < pts.length := (List.getElem?_eq_some_iff.mp h).1
  unfold sheetN
  rw [List.getElem?_map, List.getElem?_range hi]
  simp [List.getD, h]
theorem sheetN_len (c : Nat) (pts : List Nat) : (sheetN c pts).length = pts.length := by unfold sheetN; rw [List.length_map, List.length_range]
theorem sheetN_row {c : Nat} {pts : List Nat} : ∀ x ∈ sheetN c pts, x.length = c := fun x hx => by
  unfold sheetN at hx
  obtain ⟨i, _, rfl⟩ := List.mem_map.mp hx
  exact rowOf_len _ _ _
theorem rowOf_zer {c s n : Nat} (hs : s < 2 ^ c) : Zer s (rowOf c s n) := fun j hj => by
  rw [rowOf_at (bit_lt hs hj), if_pos hj]
/-- each part has 0 throughout in its own row -/
def ZP (pts : List Nat) (S : List (List Nat)) : Prop := ∀ (i p : Nat), pts[i]? = some p → ∃ x, S[i]? = some x ∧ Zer p x
theorem ZP.sheet {c : Nat} {pts : List Nat} (h : ∀ p ∈ pts, p < 2 ^ c) : ZP pts (sheetN c pts) := fun _ p hp => ⟨_, sheetN_at hp, rowOf_zer (h p (List.mem_of_getElem? hp))⟩
theorem ZP.step {c r i k : Nat} {pts : List Nat} {S : List (List Nat)} (h : ZP pts S) : ZP pts (stepS c r i k S) := fun j p hp => by
  obtain ⟨x, hx, hz⟩ := h j p hp
  refine ⟨stepRow c r (S.getD i []) (S.getD k []) x, ?_, hz.step⟩
  unfold stepS
  rw [List.getElem?_map, hx]; rfl
theorem stepS_len (c r i k : Nat) (S : List (List Nat)) : (stepS c r i k S).length = S.length := by unfold stepS; rw [List.length_map]
theorem stepS_row {c r i k : Nat} {S : List (List Nat)} : ∀ x ∈ stepS c r i k S, x.length = c := fun x hx => by
  unfold stepS at hx
  obtain ⟨y, _, rfl⟩ := List.mem_map.mp hx
  exact stepRow_len _ _ _ _ _
theorem stepS_none {c r i k : Nat} {S : List (List Nat)} (h : ∀ x ∈ S, x.length = c) : stepS c (r % 2 ^ 0) i k S = S := by
  unfold stepS
  conv => rhs; rw [← List.map_id S]
  exact List.map_congr_left fun x hx => stepRow_none (h x hx)
theorem stepS_skip {c r i k n : Nat} {S : List (List Nat)} (hb : r.testBit n = false) : stepS c (r % 2 ^ (n + 1)) i k S = stepS c (r % 2 ^ n) i k S := by
  unfold stepS
  exact List.map_congr_left fun x _ => stepRow_skip hb
theorem stepS_full {c r i k : Nat} {S : List (List Nat)} (hr : r < 2 ^ c) : stepS c (r % 2 ^ c) i k S = stepS c r i k S := by rw [Nat.mod_eq_of_lt hr]
theorem not_lk {s c : Nat} {x y : List Nat} (hs : s < 2 ^ c) (h : ¬ Lk s x y) : ∃ j, j < c ∧ s.testBit j = true ∧ x.getD j 0 ≠ y.getD j 0 := by
  by_cases e : ∃ j, j < c ∧ s.testBit j = true ∧ x.getD j 0 ≠ y.getD j 0
  · exact e
  · exfalso
    apply h
    intro j hj
    by_cases q : x.getD j 0 = y.getD j 0
    · exact q
    · exact absurd ⟨j, bit_lt hs hj, hj, q⟩ e
end TC

namespace TC
/-! a rule's steps leave what stands in its left -/
theorem low_self (a v : Nat) : low a a v = v := by
  unfold low
  by_cases h : v = a
  · rw [if_pos (.inl h), Nat.min_self, h]
  · rw [if_neg (fun z => z.elim h h)]
theorem stepRow_left {c l r : Nat} {f g x : List Nat} (hl : l < 2 ^ c) (h : Lk l f g) : Lk l (stepRow c r f g x) x := fun j hj => by
  rw [stepRow_at (bit_lt hl hj)]
  by_cases e : r.testBit j = true
  · rw [if_pos e, h j hj, low_self]
  · rw [if_neg e]
/-- rows are alike in a set, one by one -/
def Lks (l : Nat) (S S' : List (List Nat)) : Prop := S'.length = S.length ∧ ∀ (i : Nat) (x y : List Nat), S[i]? = some x → S'[i]? = some y → Lk l y x
theorem Lks.refl (l : Nat) (S : List (List Nat)) : Lks l S S := ⟨rfl, fun i x y h k => by rw [h] at k; cases k; exact Lk.refl _ _⟩
theorem Lks.step {c l r i k : Nat} {S S' : List (List Nat)} {f g : List Nat} (hl : l < 2 ^ c) (h : Lks l S S') (hf : S'[i]? = some f) (hg : S'[k]? = some g) (hfg : Lk l f g) : Lks l S (stepS c r i k S') := by
  refine ⟨by rw [stepS_len]; exact h.1, fun n x y hx hy => ?_⟩
  unfold stepS at hy
  rw [List.getElem?_map, getD_of hf, getD_of hg] at hy
  cases e : S'[n]? with
  | none => rw [e] at hy; cases hy
  | some z =>
    rw [e] at hy
    cases hy
    exact (stepRow_left hl hfg).trans (h.2 n x z hx e)
theorem Lks.two {l i k : Nat} {S S' : List (List Nat)} {x y f g : List Nat} (h : Lks l S S') (hx : S[i]? = some x) (hy : S[k]? = some y) (hf : S'[i]? = some f) (hg : S'[k]? = some g) (hxy : Lk l x y) : Lk l f g :=
  ((h.2 i x f hx hf).trans hxy).trans (h.2 k y g hy hg).symm
theorem tot_bound {c m : Nat} {S : List (List Nat)} (h : ∀ x ∈ S, ∀ j, x.getD j 0 ≤ m) : tot c S ≤ S.length * (c * m) := by
  have h1 : ∀ (row : List Nat), (∀ j, row.getD j 0 ≤ m) → ∀ c, sumTo row c ≤ c * m := fun row hr c => by
    induction c with
    | zero => exact Nat.le_of_eq (by unfold sumTo; simp)
    | succ c ih =>
      rw [sumTo_succ, Nat.succ_mul]
      exact Nat.add_le_add ih (hr c)
  induction S with
  | nil => simp [tot]
  | cons x S ih =>
    have e : tot c (x :: S) = sumTo x c + tot c S := by unfold tot; rw [List.map_cons, List.sum_cons]
    rw [e, List.length_cons, Nat.succ_mul, Nat.add_comm]
    exact Nat.add_le_add (ih fun y hy => h y (List.mem_cons_of_mem _ hy)) (h1 x (h x List.mem_cons_self) c)
theorem sheetN_le {c : Nat} {pts : List Nat} : ∀ x ∈ sheetN c pts, ∀ j, x.getD j 0 ≤ pts.length := fun x hx j => by
  obtain ⟨i, hi⟩ := List.mem_iff_getElem?.mp hx
  have hl : i < pts.length := by have := (List.getElem?_eq_some_iff.mp hi).1; rwa [sheetN_len] at this
  rw [sheetN_at (List.getElem?_eq_getElem hl)] at hi
  cases hi
  by_cases hj : j < c
  · rw [rowOf_at hj]
    split <;> omega
  · rw [getD_out (by rw [rowOf_len]; omega)]
    exact Nat.zero_le _
/-- no number rises -/
def Dn (m : Nat) (S : List (List Nat)) : Prop := ∀ x ∈ S, ∀ j, x.getD j 0 ≤ m
theorem Dn.step {c r i k m : Nat} {S : List (List Nat)} (h : Dn m S) : Dn m (stepS c r i k S) := fun x hx j => by
  unfold stepS at hx
  obtain ⟨y, hy, rfl⟩ := List.mem_map.mp hx
  exact Nat.le_trans stepRow_le (h y hy j)
end TC

namespace K07
open PySem L2 TC
def top (i : Nat) : Stmt := PySem.Challenge.pw_tellscolumns_k07_whole_comes_back.main.body.getD i (.Pass ⟨0, 0, 0, 0⟩)
abbrev s_is_number : Stmt := top 10
abbrev s_is_list : Stmt := top 11
abbrev s_is_count : Stmt := top 12
abbrev s_all_columns : Stmt := top 13
abbrev s_is_set : Stmt := top 14
abbrev s_is_rule : Stmt := top 15
abbrev s_are_rules : Stmt := top 16
abbrev s_is_row : Stmt := top 17
abbrev s_is_table : Stmt := top 18
abbrev s_are_parts : Stmt := top 19
abbrev s_need_parts : Stmt := top 20
abbrev s_cells : Stmt := top 22
abbrev s_keeps : Stmt := top 23
abbrev s_keeps_all : Stmt := top 24
abbrev s_makes : Stmt := top 25
abbrev s_row_of : Stmt := top 26
abbrev s_sheet_of : Stmt := top 27
abbrev s_lowered : Stmt := top 28
abbrev s_after_step : Stmt := top 29
abbrev s_Back_init : Stmt := inClass (top 36) 0
abbrev s_Back_shows : Stmt := inClass (top 36) 1
abbrev s_Lost_init : Stmt := inClass (top 37) 0
abbrev s_Lost_shows : Stmt := inClass (top 37) 1
abbrev s_is_place : Stmt := top 38
abbrev s_is_step : Stmt := top 42
abbrev s_Rules_init : Stmt := inClass (top 44) 0
abbrev s_Rules_rules : Stmt := inClass (top 44) 1
abbrev s_comes_back : Stmt := top 46
abbrev s_steps_by : Stmt := top 47
abbrev s_law_cell_at : Stmt := top 49
abbrev s_law_draw : Stmt := top 50
abbrev s_law_set : Stmt := top 51
abbrev s_law_pairs : Stmt := top 52
abbrev s_law_like : Stmt := top 53
abbrev s_law_keeps : Stmt := top 54
abbrev s_law_numbers : Stmt := top 55
abbrev s_law_parts : Stmt := top 56
abbrev s_law_sheet : Stmt := top 57
abbrev s_law_stepped : Stmt := top 58
abbrev s_law_back : Stmt := top 59
abbrev s_law_lost : Stmt := top 60
abbrev s_law_right : Stmt := top 61
abbrev s_law : Stmt := top 62
abbrev csc_22 : Scope := { kind := PySem.ScopeKind.function, names := [ (PySem.Str.ofString ".0", PySem.NameKind.local), (PySem.Str.ofString "_law_part", PySem.NameKind.cell), (PySem.Str.ofString "any", PySem.NameKind.globalImplicit), (PySem.Str.ofString "_law_row", PySem.NameKind.free), (PySem.Str.ofString "_law_table", PySem.NameKind.free)], isGenerator := false, isCoroutine := false, more := [] : PySem.Scope }
theorem sc_is_number : FnScope ["value", "least", "most"] ["value", "least", "most"] (defScope s_is_number) := ⟨rfl, rfl, rfl, by decide +kernel, rfl, by decide +kernel, by decide +kernel⟩
theorem sc_is_list : FnScope ["value", "least", "most"] ["value", "least", "most"] (defScope s_is_list) := ⟨rfl, rfl, rfl, by decide +kernel, rfl, by decide +kernel, by decide +kernel⟩
theorem sc_is_count : FnScope ["columns"] ["columns"] (defScope s_is_count) := ⟨rfl, rfl, rfl, by decide +kernel, rfl, by decide +kernel, by decide +kernel⟩
theorem sc_all_columns : FnScope ["columns"] ["columns"] (defScope s_all_columns) := ⟨rfl, rfl, rfl, by decide +kernel, rfl, by decide +kernel, by decide +kernel⟩
theorem sc_is_set : FnScope ["value", "columns"] ["value", "columns"] (defScope s_is_set) := ⟨rfl, rfl, rfl, by decide +kernel, rfl, by decide +kernel, by decide +kernel⟩
theorem sc_is_rule : FnScope ["value", "columns"] ["value", "columns"] (defScope s_is_rule) := ⟨rfl, rfl, rfl, by decide +kernel, rfl, by decide +kernel, by decide +kernel⟩
theorem sc_are_rules : FnScope ["value", "columns"] ["value", "columns"] (defScope s_are_rules) := ⟨rfl, rfl, rfl, by decide +kernel, rfl, by decide +kernel, by decide +kernel⟩
theorem sc_is_row : FnScope ["value", "columns"] ["value", "columns"] (defScope s_is_row) := ⟨rfl, rfl, rfl, by decide +kernel, rfl, by decide +kernel, by decide +kernel⟩
theorem sc_is_table : FnScope ["value", "columns"] ["value", "columns"] (defScope s_is_table) := ⟨rfl, rfl, rfl, by decide +kernel, rfl, by decide +kernel, by decide +kernel⟩
theorem sc_are_parts : FnScope ["value", "columns", "together", "part"] ["value", "columns"] (defScope s_are_parts) := ⟨rfl, rfl, rfl, by decide +kernel, rfl, by decide +kernel, by decide +kernel⟩
theorem sc_need_parts : FnScope ["columns", "parts"] ["columns", "parts"] (defScope s_need_parts) := ⟨rfl, rfl, rfl, by decide +kernel, rfl, by decide +kernel, by decide +kernel⟩
theorem sc_cells : FnScope ["row", "some"] ["row", "some"] (defScope s_cells) := ⟨rfl, rfl, rfl, by decide +kernel, rfl, by decide +kernel, by decide +kernel⟩
theorem sc_keeps : FnScope ["table", "rule", "firsts", "row", "right"] ["table", "rule"] (defScope s_keeps) := ⟨rfl, rfl, rfl, by decide +kernel, rfl, by decide +kernel, by decide +kernel⟩
theorem sc_keeps_all : FnScope ["table", "pairs"] ["table", "pairs"] (defScope s_keeps_all) := ⟨rfl, rfl, rfl, by decide +kernel, rfl, by decide +kernel, by decide +kernel⟩
theorem sc_makes : FnScope ["table", "parts", "row", "part"] ["table", "parts", "row"] (defScope s_makes) := ⟨rfl, rfl, rfl, by decide +kernel, rfl, by decide +kernel, by decide +kernel⟩
theorem sc_row_of : FnScope ["columns", "some", "number"] ["columns", "some", "number"] (defScope s_row_of) := ⟨rfl, rfl, rfl, by decide +kernel, rfl, by decide +kernel, by decide +kernel⟩
theorem sc_sheet_of : FnScope ["columns", "parts"] ["columns", "parts"] (defScope s_sheet_of) := ⟨rfl, rfl, rfl, by decide +kernel, rfl, by decide +kernel, by decide +kernel⟩
theorem sc_lowered : FnScope ["number", "one", "other"] ["number", "one", "other"] (defScope s_lowered) := ⟨rfl, rfl, rfl, by decide +kernel, rfl, by decide +kernel, by decide +kernel⟩
theorem sc_after_step : FnScope ["sheet", "right", "one", "other", "first", "second", "stepped", "row", "fallen"] ["sheet", "right", "one", "other"] (defScope s_after_step) := ⟨rfl, rfl, rfl, by decide +kernel, rfl, by decide +kernel, by decide +kernel⟩
theorem sc_Back_init : FnScope ["self", "steps"] ["self", "steps"] (defScope s_Back_init) := ⟨rfl, rfl, rfl, by decide +kernel, rfl, by decide +kernel, by decide +kernel⟩
theorem sc_Back_shows : FnScope ["self", "rules", "parts", "pairs", "sheet", "step"] ["self", "rules", "parts"] (defScope s_Back_shows) := ⟨rfl, rfl, rfl, by decide +kernel, rfl, by decide +kernel, by decide +kernel⟩
theorem sc_Lost_init : FnScope ["self", "table", "row"] ["self", "table", "row"] (defScope s_Lost_init) := ⟨rfl, rfl, rfl, by decide +kernel, rfl, by decide +kernel, by decide +kernel⟩
theorem sc_Lost_shows : FnScope ["self", "rules", "parts"] ["self", "rules", "parts"] (defScope s_Lost_shows) := ⟨rfl, rfl, rfl, by decide +kernel, rfl, by decide +kernel, by decide +kernel⟩
theorem sc_is_place : FnScope ["value", "things"] ["value", "things"] (defScope s_is_place) := ⟨rfl, rfl, rfl, by decide +kernel, rfl, by decide +kernel, by decide +kernel⟩
theorem sc_is_step : FnScope ["step", "pairs", "sheet", "left"] ["step", "pairs", "sheet"] (defScope s_is_step) := ⟨rfl, rfl, rfl, by decide +kernel, rfl, by decide +kernel, by decide +kernel⟩
theorem sc_Rules_init : FnScope ["self", "columns", "rules"] ["self", "columns", "rules"] (defScope s_Rules_init) := ⟨rfl, rfl, rfl, by decide +kernel, rfl, by decide +kernel, by decide +kernel⟩
theorem sc_Rules_rules : FnScope ["self"] ["self"] (defScope s_Rules_rules) := ⟨rfl, rfl, rfl, by decide +kernel, rfl, by decide +kernel, by decide +kernel⟩
theorem sc_comes_back : FnScope ["rules", "parts", "pairs", "sheet", "full", "steps", "before", "place", "rule", "step"] ["rules", "parts"] (defScope s_comes_back) := ⟨rfl, rfl, rfl, by decide +kernel, rfl, by decide +kernel, by decide +kernel⟩
theorem sc_steps_by : FnScope ["sheet", "place", "rule", "firsts", "steps", "number", "row", "first"] ["sheet", "place", "rule"] (defScope s_steps_by) := ⟨rfl, rfl, rfl, by decide +kernel, rfl, by decide +kernel, by decide +kernel⟩
theorem sc_law_cell_at : FnScope ["_law_script", "_law_k"] ["_law_script", "_law_k"] (defScope s_law_cell_at) := ⟨rfl, rfl, rfl, by decide +kernel, rfl, by decide +kernel, by decide +kernel⟩
theorem sc_law_draw : FnScope ["_law_cell", "_law_k", "_law_many", "_law_mixed"] ["_law_cell", "_law_k", "_law_many"] (defScope s_law_draw) := ⟨rfl, rfl, rfl, by decide +kernel, rfl, by decide +kernel, by decide +kernel⟩
theorem sc_law_set : FnScope ["_law_cell", "_law_columns", "_law_some", "_law_column"] ["_law_cell", "_law_columns"] (defScope s_law_set) := ⟨rfl, rfl, rfl, by decide +kernel, rfl, by decide +kernel, by decide +kernel⟩
theorem sc_law_pairs : FnScope ["_law_cell", "_law_columns", "_law_most", "_law_pairs_here", "_law_k", "_law_left", "_law_right_here"] ["_law_cell", "_law_columns", "_law_most"] (defScope s_law_pairs) := ⟨rfl, rfl, rfl, by decide +kernel, rfl, by decide +kernel, by decide +kernel⟩
theorem sc_law_like : FnScope ["_law_one", "_law_other", "_law_some", "_law_column"] ["_law_one", "_law_other", "_law_some"] (defScope s_law_like) := ⟨rfl, rfl, rfl, by decide +kernel, rfl, by decide +kernel, by decide +kernel⟩
theorem sc_law_keeps : FnScope ["_law_table", "_law_rule", "_law_one", "_law_other"] ["_law_table", "_law_rule"] (defScope s_law_keeps) := ⟨rfl, rfl, rfl, by decide +kernel, rfl, by decide +kernel, by decide +kernel⟩
theorem sc_law_numbers : FnScope ["_law_found", "_law_most"] ["_law_found", "_law_most"] (defScope s_law_numbers) := ⟨rfl, rfl, rfl, by decide +kernel, rfl, by decide +kernel, by decide +kernel⟩
theorem sc_law_parts : FnScope ["_law_cell", "_law_columns", "_law_parts_here", "_law_one", "_law_k", "_law_left", "_law_part"] ["_law_cell", "_law_columns"] (defScope s_law_parts) := ⟨rfl, rfl, rfl, by decide +kernel, rfl, by decide +kernel, by decide +kernel⟩
theorem sc_law_sheet : FnScope ["_law_parts_here", "_law_columns", "_law_found", "_law_place"] ["_law_parts_here", "_law_columns"] (defScope s_law_sheet) := ⟨rfl, rfl, rfl, by decide +kernel, rfl, by decide +kernel, by decide +kernel⟩
theorem sc_law_stepped : FnScope ["_law_sheet_here", "_law_one", "_law_other", "_law_right_here", "_law_column", "_law_both", "_law_row"] ["_law_sheet_here", "_law_one", "_law_other", "_law_right_here"] (defScope s_law_stepped) := ⟨rfl, rfl, rfl, by decide +kernel, rfl, by decide +kernel, by decide +kernel⟩
theorem sc_law_back : FnScope ["_law_pairs_here", "_law_columns", "_law_parts_here", "_law_steps", "_law_sheet_here", "_law_step", "_law_place", "_law_one", "_law_other"] ["_law_pairs_here", "_law_columns", "_law_parts_here", "_law_steps"] (defScope s_law_back) := ⟨rfl, rfl, rfl, by decide +kernel, rfl, by decide +kernel, by decide +kernel⟩
theorem sc_law_lost : FnScope ["_law_pairs_here", "_law_columns", "_law_parts_here", "_law_table", "_law_row"] ["_law_pairs_here", "_law_columns", "_law_parts_here", "_law_table", "_law_row"] (defScope s_law_lost) := ⟨rfl, rfl, rfl, by decide +kernel, rfl, by decide +kernel, by decide +kernel⟩
theorem sc_law_right : FnScope ["_law_pairs_here", "_law_columns", "_law_parts_here", "_law_found", "_law_others"] ["_law_pairs_here", "_law_columns", "_law_parts_here", "_law_found"] (defScope s_law_right) := ⟨rfl, rfl, rfl, by decide +kernel, rfl, by decide +kernel, by decide +kernel⟩
theorem sc_law : FnScope ["_law_script", "_law_columns", "_law_pairs_here", "_law_rules", "_law_at", "_law_parts_here", "_law_handed", "_law_again", "_law_found"] ["_law_script"] (defScope s_law) := ⟨rfl, rfl, rfl, by decide +kernel, rfl, by decide +kernel, by decide +kernel⟩
theorem bt_all : bootBuiltins "all" = some (.builtin "all") := by decide +kernel
theorem bt_any : bootBuiltins "any" = some (.builtin "any") := by decide +kernel
theorem bt_bool : bootBuiltins "bool" = some (.type "bool") := by decide +kernel
theorem bt_enumerate : bootBuiltins "enumerate" = some (.type "enumerate") := by decide +kernel
theorem bt_int : bootBuiltins "int" = some (.type "int") := by decide +kernel
theorem bt_isinstance : bootBuiltins "isinstance" = some (.builtin "isinstance") := by decide +kernel
theorem bt_len : bootBuiltins "len" = some (.builtin "len") := by decide +kernel
theorem bt_list : bootBuiltins "list" = some (.type "list") := by decide +kernel
theorem bt_min : bootBuiltins "min" = some (.builtin "min") := by decide +kernel
theorem bt_tuple : bootBuiltins "tuple" = some (.type "tuple") := by decide +kernel
structure Adr where
  f_is_number : Addr
  d_is_number : FuncData
  f_is_list : Addr
  d_is_list : FuncData
  f_is_count : Addr
  d_is_count : FuncData
  f_all_columns : Addr
  d_all_columns : FuncData
  f_is_set : Addr
  d_is_set : FuncData
  f_is_rule : Addr
  d_is_rule : FuncData
  f_are_rules : Addr
  d_are_rules : FuncData
  f_is_row : Addr
  d_is_row : FuncData
  f_is_table : Addr
  d_is_table : FuncData
  f_are_parts : Addr
  d_are_parts : FuncData
  f_need_parts : Addr
  d_need_parts : FuncData
  f_cells : Addr
  d_cells : FuncData
  f_keeps : Addr
  d_keeps : FuncData
  f_keeps_all : Addr
  d_keeps_all : FuncData
  f_makes : Addr
  d_makes : FuncData
  f_row_of : Addr
  d_row_of : FuncData
  f_sheet_of : Addr
  d_sheet_of : FuncData
  f_lowered : Addr
  d_lowered : FuncData
  f_after_step : Addr
  d_after_step : FuncData
  f_Back_init : Addr
  d_Back_init : FuncData
  f_Back_shows : Addr
  d_Back_shows : FuncData
  f_Lost_init : Addr
  d_Lost_init : FuncData
  f_Lost_shows : Addr
  d_Lost_shows : FuncData
  f_is_place : Addr
  d_is_place : FuncData
  f_is_step : Addr
  d_is_step : FuncData
  f_Rules_init : Addr
  d_Rules_init : FuncData
  f_Rules_rules : Addr
  d_Rules_rules : FuncData
  f_comes_back : Addr
  d_comes_back : FuncData
  f_steps_by : Addr
  d_steps_by : FuncData
  f_law_cell_at : Addr
  d_law_cell_at : FuncData
  f_law_draw : Addr
  d_law_draw : FuncData
  f_law_set : Addr
  d_law_set : FuncData
  f_law_pairs : Addr
  d_law_pairs : FuncData
  f_law_like : Addr
  d_law_like : FuncData
  f_law_keeps : Addr
  d_law_keeps : FuncData
  f_law_numbers : Addr
  d_law_numbers : FuncData
  f_law_parts : Addr
  d_law_parts : FuncData
  f_law_sheet : Addr
  d_law_sheet : FuncData
  f_law_stepped : Addr
  d_law_stepped : FuncData
  f_law_back : Addr
  d_law_back : FuncData
  f_law_lost : Addr
  d_law_lost : FuncData
  f_law_right : Addr
  d_law_right : FuncData
  f_law : Addr
  d_law : FuncData
  c_Back : Addr
  c_Lost : Addr
  c_Rules : Addr
  c_Steps : Addr
  c_Rows : Addr
  c_Alike : Addr
  c_Apart : Addr
  c_Answer : Addr
structure Txt (K : PySem.W.Frag) (mg : Str → Option Value) (A : Adr) : Prop where
  F_is_number : Fun K "is_number" "is_number" s_is_number A.f_is_number A.d_is_number
  b_is_number : Binds K A.d_is_number ["value", "least", "most"] []
  m_is_number : mg "is_number" = some (.ref A.f_is_number)
  F_is_list : Fun K "is_list" "is_list" s_is_list A.f_is_list A.d_is_list
  b_is_list : Binds K A.d_is_list ["value", "least", "most"] []
  m_is_list : mg "is_list" = some (.ref A.f_is_list)
  F_is_count : Fun K "is_count" "is_count" s_is_count A.f_is_count A.d_is_count
  b_is_count : Binds K A.d_is_count ["columns"] []
  m_is_count : mg "is_count" = some (.ref A.f_is_count)
  F_all_columns : Fun K "all_columns" "all_columns" s_all_columns A.f_all_columns A.d_all_columns
  b_all_columns : Binds K A.d_all_columns ["columns"] []
  m_all_columns : mg "all_columns" = some (.ref A.f_all_columns)
  F_is_set : Fun K "is_set" "is_set" s_is_set A.f_is_set A.d_is_set
  b_is_set : Binds K A.d_is_set ["value", "columns"] []
  m_is_set : mg "is_set" = some (.ref A.f_is_set)
  F_is_rule : Fun K "is_rule" "is_rule" s_is_rule A.f_is_rule A.d_is_rule
  b_is_rule : Binds K A.d_is_rule ["value", "columns"] []
  m_is_rule : mg "is_rule" = some (.ref A.f_is_rule)
  F_are_rules : Fun K "are_rules" "are_rules" s_are_rules A.f_are_rules A.d_are_rules
  b_are_rules : Binds K A.d_are_rules ["value", "columns"] []
  m_are_rules : mg "are_rules" = some (.ref A.f_are_rules)
  F_is_row : Fun K "is_row" "is_row" s_is_row A.f_is_row A.d_is_row
  b_is_row : Binds K A.d_is_row ["value", "columns"] []
  m_is_row : mg "is_row" = some (.ref A.f_is_row)
  F_is_table : Fun K "is_table" "is_table" s_is_table A.f_is_table A.d_is_table
  b_is_table : Binds K A.d_is_table ["value", "columns"] []
  m_is_table : mg "is_table" = some (.ref A.f_is_table)
  F_are_parts : Fun K "are_parts" "are_parts" s_are_parts A.f_are_parts A.d_are_parts
  b_are_parts : Binds K A.d_are_parts ["value", "columns"] []
  m_are_parts : mg "are_parts" = some (.ref A.f_are_parts)
  F_need_parts : Fun K "need_parts" "need_parts" s_need_parts A.f_need_parts A.d_need_parts
  b_need_parts : Binds K A.d_need_parts ["columns", "parts"] []
  m_need_parts : mg "need_parts" = some (.ref A.f_need_parts)
  F_cells : Fun K "cells" "cells" s_cells A.f_cells A.d_cells
  b_cells : Binds K A.d_cells ["row", "some"] []
  m_cells : mg "cells" = some (.ref A.f_cells)
  F_keeps : Fun K "keeps" "keeps" s_keeps A.f_keeps A.d_keeps
  b_keeps : Binds K A.d_keeps ["table", "rule"] []
  m_keeps : mg "keeps" = some (.ref A.f_keeps)
  F_keeps_all : Fun K "keeps_all" "keeps_all" s_keeps_all A.f_keeps_all A.d_keeps_all
  b_keeps_all : Binds K A.d_keeps_all ["table", "pairs"] []
  m_keeps_all : mg "keeps_all" = some (.ref A.f_keeps_all)
  F_makes : Fun K "makes" "makes" s_makes A.f_makes A.d_makes
  b_makes : Binds K A.d_makes ["table", "parts", "row"] []
  m_makes : mg "makes" = some (.ref A.f_makes)
  F_row_of : Fun K "row_of" "row_of" s_row_of A.f_row_of A.d_row_of
  b_row_of : Binds K A.d_row_of ["columns", "some", "number"] []
  m_row_of : mg "row_of" = some (.ref A.f_row_of)
  F_sheet_of : Fun K "sheet_of" "sheet_of" s_sheet_of A.f_sheet_of A.d_sheet_of
  b_sheet_of : Binds K A.d_sheet_of ["columns", "parts"] []
  m_sheet_of : mg "sheet_of" = some (.ref A.f_sheet_of)
  F_lowered : Fun K "lowered" "lowered" s_lowered A.f_lowered A.d_lowered
  b_lowered : Binds K A.d_lowered ["number", "one", "other"] []
  m_lowered : mg "lowered" = some (.ref A.f_lowered)
  F_after_step : Fun K "after_step" "after_step" s_after_step A.f_after_step A.d_after_step
  b_after_step : Binds K A.d_after_step ["sheet", "right", "one", "other"] []
  m_after_step : mg "after_step" = some (.ref A.f_after_step)
  F_Back_init : Fun K "__init__" "Back.__init__" s_Back_init A.f_Back_init A.d_Back_init
  b_Back_init : Binds K A.d_Back_init ["self", "steps"] []
  mk_Back : Mk K A.c_Back A.f_Back_init
  F_Back_shows : Fun K "shows" "Back.shows" s_Back_shows A.f_Back_shows A.d_Back_shows
  b_Back_shows : Binds K A.d_Back_shows ["self", "rules", "parts"] []
  mt_Back_shows : Meth K A.c_Back "shows" A.f_Back_shows
  F_Lost_init : Fun K "__init__" "Lost.__init__" s_Lost_init A.f_Lost_init A.d_Lost_init
  b_Lost_init : Binds K A.d_Lost_init ["self", "table", "row"] []
  mk_Lost : Mk K A.c_Lost A.f_Lost_init
  F_Lost_shows : Fun K "shows" "Lost.shows" s_Lost_shows A.f_Lost_shows A.d_Lost_shows
  b_Lost_shows : Binds K A.d_Lost_shows ["self", "rules", "parts"] []
  mt_Lost_shows : Meth K A.c_Lost "shows" A.f_Lost_shows
  F_is_place : Fun K "is_place" "is_place" s_is_place A.f_is_place A.d_is_place
  b_is_place : Binds K A.d_is_place ["value", "things"] []
  m_is_place : mg "is_place" = some (.ref A.f_is_place)
  F_is_step : Fun K "is_step" "is_step" s_is_step A.f_is_step A.d_is_step
  b_is_step : Binds K A.d_is_step ["step", "pairs", "sheet"] []
  m_is_step : mg "is_step" = some (.ref A.f_is_step)
  F_Rules_init : Fun K "__init__" "Rules.__init__" s_Rules_init A.f_Rules_init A.d_Rules_init
  b_Rules_init : Binds K A.d_Rules_init ["self", "columns", "rules"] []
  mk_Rules : Mk K A.c_Rules A.f_Rules_init
  F_Rules_rules : Fun K "rules" "Rules.rules" s_Rules_rules A.f_Rules_rules A.d_Rules_rules
  b_Rules_rules : Binds K A.d_Rules_rules ["self"] []
  mt_Rules_rules : Meth K A.c_Rules "rules" A.f_Rules_rules
  F_comes_back : Fun K "comes_back" "comes_back" s_comes_back A.f_comes_back A.d_comes_back
  b_comes_back : Binds K A.d_comes_back ["rules", "parts"] []
  m_comes_back : mg "comes_back" = some (.ref A.f_comes_back)
  F_steps_by : Fun K "steps_by" "steps_by" s_steps_by A.f_steps_by A.d_steps_by
  b_steps_by : Binds K A.d_steps_by ["sheet", "place", "rule"] []
  m_steps_by : mg "steps_by" = some (.ref A.f_steps_by)
  F_law_cell_at : Fun K "_law_cell_at" "_law_cell_at" s_law_cell_at A.f_law_cell_at A.d_law_cell_at
  b_law_cell_at : Binds K A.d_law_cell_at ["_law_script", "_law_k"] []
  m_law_cell_at : mg "_law_cell_at" = some (.ref A.f_law_cell_at)
  F_law_draw : Fun K "_law_draw" "_law_draw" s_law_draw A.f_law_draw A.d_law_draw
  b_law_draw : Binds K A.d_law_draw ["_law_cell", "_law_k", "_law_many"] []
  m_law_draw : mg "_law_draw" = some (.ref A.f_law_draw)
  F_law_set : Fun K "_law_set" "_law_set" s_law_set A.f_law_set A.d_law_set
  b_law_set : Binds K A.d_law_set ["_law_cell", "_law_columns"] []
  m_law_set : mg "_law_set" = some (.ref A.f_law_set)
  F_law_pairs : Fun K "_law_pairs" "_law_pairs" s_law_pairs A.f_law_pairs A.d_law_pairs
  b_law_pairs : Binds K A.d_law_pairs ["_law_cell", "_law_columns", "_law_most"] []
  m_law_pairs : mg "_law_pairs" = some (.ref A.f_law_pairs)
  F_law_like : Fun K "_law_like" "_law_like" s_law_like A.f_law_like A.d_law_like
  b_law_like : Binds K A.d_law_like ["_law_one", "_law_other", "_law_some"] []
  m_law_like : mg "_law_like" = some (.ref A.f_law_like)
  F_law_keeps : Fun K "_law_keeps" "_law_keeps" s_law_keeps A.f_law_keeps A.d_law_keeps
  b_law_keeps : Binds K A.d_law_keeps ["_law_table", "_law_rule"] []
  m_law_keeps : mg "_law_keeps" = some (.ref A.f_law_keeps)
  F_law_numbers : Fun K "_law_numbers" "_law_numbers" s_law_numbers A.f_law_numbers A.d_law_numbers
  b_law_numbers : Binds K A.d_law_numbers ["_law_found", "_law_most"] []
  m_law_numbers : mg "_law_numbers" = some (.ref A.f_law_numbers)
  F_law_parts : Fun K "_law_parts" "_law_parts" s_law_parts A.f_law_parts A.d_law_parts
  b_law_parts : Binds K A.d_law_parts ["_law_cell", "_law_columns"] []
  m_law_parts : mg "_law_parts" = some (.ref A.f_law_parts)
  F_law_sheet : Fun K "_law_sheet" "_law_sheet" s_law_sheet A.f_law_sheet A.d_law_sheet
  b_law_sheet : Binds K A.d_law_sheet ["_law_parts_here", "_law_columns"] []
  m_law_sheet : mg "_law_sheet" = some (.ref A.f_law_sheet)
  F_law_stepped : Fun K "_law_stepped" "_law_stepped" s_law_stepped A.f_law_stepped A.d_law_stepped
  b_law_stepped : Binds K A.d_law_stepped ["_law_sheet_here", "_law_one", "_law_other", "_law_right_here"] []
  m_law_stepped : mg "_law_stepped" = some (.ref A.f_law_stepped)
  F_law_back : Fun K "_law_back" "_law_back" s_law_back A.f_law_back A.d_law_back
  b_law_back : Binds K A.d_law_back ["_law_pairs_here", "_law_columns", "_law_parts_here", "_law_steps"] []
  m_law_back : mg "_law_back" = some (.ref A.f_law_back)
  F_law_lost : Fun K "_law_lost" "_law_lost" s_law_lost A.f_law_lost A.d_law_lost
  b_law_lost : Binds K A.d_law_lost ["_law_pairs_here", "_law_columns", "_law_parts_here", "_law_table", "_law_row"] []
  m_law_lost : mg "_law_lost" = some (.ref A.f_law_lost)
  F_law_right : Fun K "_law_right" "_law_right" s_law_right A.f_law_right A.d_law_right
  b_law_right : Binds K A.d_law_right ["_law_pairs_here", "_law_columns", "_law_parts_here", "_law_found"] []
  m_law_right : mg "_law_right" = some (.ref A.f_law_right)
  F_law : Fun K "law" "law" s_law A.f_law A.d_law
  b_law : Binds K A.d_law ["_law_script"] []
  m_law : mg "law" = some (.ref A.f_law)
  cl_Back : Cls K A.c_Back
  m_Back : mg "Back" = some (.ref A.c_Back)
  na_Back_steps : NoAttr K A.c_Back "steps"
  cl_Lost : Cls K A.c_Lost
  m_Lost : mg "Lost" = some (.ref A.c_Lost)
  na_Lost_table : NoAttr K A.c_Lost "table"
  na_Lost_row : NoAttr K A.c_Lost "row"
  cl_Rules : Cls K A.c_Rules
  m_Rules : mg "Rules" = some (.ref A.c_Rules)
  na_Rules_columns : NoAttr K A.c_Rules "columns"
  na_Rules_pairs : NoAttr K A.c_Rules "pairs"
  m_Steps : mg "Steps" = some (.ref A.c_Steps)
  m_Rows : mg "Rows" = some (.ref A.c_Rows)
  m_Alike : mg "Alike" = some (.ref A.c_Alike)
  m_Apart : mg "Apart" = some (.ref A.c_Apart)
  m_Answer : mg "Answer" = some (.ref A.c_Answer)
  ty_Back : ClsTy K A.c_Back
  ki_Back_Back : PySem.W.kitOne K (.ref A.c_Back) (.ref A.c_Back) = some true
  ki_Back_Steps : PySem.W.kitOne K (.ref A.c_Back) (.ref A.c_Steps) = some false
  ki_Back_Rows : PySem.W.kitOne K (.ref A.c_Back) (.ref A.c_Rows) = some false
  ki_Back_Alike : PySem.W.kitOne K (.ref A.c_Back) (.ref A.c_Alike) = some false
  ki_Back_Apart : PySem.W.kitOne K (.ref A.c_Back) (.ref A.c_Apart) = some false
  ki_Back_Answer : PySem.W.kitOne K (.ref A.c_Back) (.ref A.c_Answer) = some true
  ki_Back_Lost : PySem.W.kitOne K (.ref A.c_Back) (.ref A.c_Lost) = some false
  ty_Lost : ClsTy K A.c_Lost
  ki_Lost_Back : PySem.W.kitOne K (.ref A.c_Lost) (.ref A.c_Back) = some false
  ki_Lost_Steps : PySem.W.kitOne K (.ref A.c_Lost) (.ref A.c_Steps) = some false
  ki_Lost_Rows : PySem.W.kitOne K (.ref A.c_Lost) (.ref A.c_Rows) = some false
  ki_Lost_Alike : PySem.W.kitOne K (.ref A.c_Lost) (.ref A.c_Alike) = some false
  ki_Lost_Apart : PySem.W.kitOne K (.ref A.c_Lost) (.ref A.c_Apart) = some false
  ki_Lost_Answer : PySem.W.kitOne K (.ref A.c_Lost) (.ref A.c_Answer) = some true
  ki_Lost_Lost : PySem.W.kitOne K (.ref A.c_Lost) (.ref A.c_Lost) = some true
  z_all : mg "all" = none
  z_any : mg "any" = none
  z_bool : mg "bool" = none
  z_enumerate : mg "enumerate" = none
  z_int : mg "int" = none
  z_isinstance : mg "isinstance" = none
  z_len : mg "len" = none
  z_list : mg "list" = none
  z_min : mg "min" = none
  z_range : mg "range" = none
  z_tuple : mg "tuple" = none
  g_MOST_COLUMNS : ∃ t, mg "MOST_COLUMNS" = some (.int 6 t)
  g_MOST_RULES : ∃ t, mg "MOST_RULES" = some (.int 64 t)
  g_MOST_ROWS : ∃ t, mg "MOST_ROWS" = some (.int 64 t)
  g_MOST_NUMBER : ∃ t, mg "MOST_NUMBER" = some (.int 99 t)
  g_MOST_PARTS : ∃ t, mg "MOST_PARTS" = some (.int 64 t)
/-! ### the data -/
def Tps (H : Hp) : List Addr → List (Nat × Nat) → Prop
  | [], [] => True
  | t :: ts, p :: ps => H t = some (.tup [.int (p.1 : Nat), .int (p.2 : Nat)]) ∧ Tps H ts ps
  | _, _ => False
theorem Tps.same {H H' : Hp} (e : Same H H') : ∀ {ts : List Addr} {ps : List (Nat × Nat)}, Tps H ts ps → Tps H' ts ps
  | [], [], _ => trivial
  | _ :: _, _ :: _, ⟨h, t⟩ => ⟨e _ _ h, Tps.same e t⟩
  | [], _ :: _, h => h.elim
  | _ :: _, [], h => h.elim
theorem Tps.len {H : Hp} : ∀ {ts : List Addr} {ps : List (Nat × Nat)}, Tps H ts ps → ts.length = ps.length
  | [], [], _ => rfl
  | _ :: _, _ :: _, ⟨_, t⟩ => congrArg (· + 1) (Tps.len t)
  | [], _ :: _, h => h.elim
  | _ :: _, [], h => h.elim
theorem Tps.get {H : Hp} : ∀ {ts : List Addr} {ps : List (Nat × Nat)} {i : Nat} {v : V}, Tps H ts ps → (ts.map V.ref)[i]? = some v → ∃ t p, v = .ref t ∧ ps[i]? = some p ∧ H t = some (.tup [.int (p.1 : Nat), .int (p.2 : Nat)])
  | [], [], i, v, _, h => by simp at h
  | t :: _, p :: _, 0, v, ⟨h, _⟩, e => ⟨t, p, by simpa using e.symm, by simp, h⟩
  | _ :: _, _ :: _, i + 1, v, ⟨_, t⟩, e => by
    obtain ⟨a, b, h1, h2, h3⟩ := Tps.get (i := i) t (by simpa using e)
    exact ⟨a, b, h1, by simpa using h2, h3⟩
  | [], _ :: _, _, _, h, _ => h.elim
  | _ :: _, [], _, _, h, _ => h.elim
theorem Tps.snoc {H : Hp} {t : Addr} {p : Nat × Nat} (e : H t = some (.tup [.int (p.1 : Nat), .int (p.2 : Nat)])) : ∀ {ts : List Addr} {ps : List (Nat × Nat)}, Tps H ts ps → Tps H (ts ++ [t]) (ps ++ [p])
  | [], [], _ => ⟨e, trivial⟩
  | _ :: _, _ :: _, ⟨h, r⟩ => ⟨h, Tps.snoc e r⟩
  | [], _ :: _, h => h.elim
  | _ :: _, [], h => h.elim
theorem Tps.upd {H : Hp} {a : Addr} {xs : List V} {o : HO} (ha : H a = some (.lst xs)) : ∀ {ts : List Addr} {ps : List (Nat × Nat)}, Tps H ts ps → Tps (upd H a o) ts ps
  | [], [], _ => trivial
  | _ :: _, _ :: _, ⟨h, t⟩ => ⟨by rw [upd_ne (ne_of h ha (by intro z; cases z))]; exact h, Tps.upd ha t⟩
  | [], _ :: _, h => h.elim
  | _ :: _, [], h => h.elim
/-- a list of rules stands at l -/
def PrsAt (H : Hp) (l : Addr) (ps : List (Nat × Nat)) : Prop := ∃ ts : List Addr, H l = some (.lst (ts.map V.ref)) ∧ Tps H ts ps
theorem PrsAt.same {H H' : Hp} (e : Same H H') {l : Addr} {ps : List (Nat × Nat)} : PrsAt H l ps → PrsAt H' l ps := fun ⟨ts, h, t⟩ => ⟨ts, e _ _ h, t.same e⟩
theorem PrsAt.upd {H : Hp} {a l : Addr} {xs : List V} {o : HO} {ps : List (Nat × Nat)} (ha : H a = some (.lst xs)) (hn : l ≠ a) : PrsAt H l ps → PrsAt (upd H a o) l ps := fun ⟨ts, h, t⟩ => ⟨ts, by rw [upd_ne hn]; exact h, t.upd ha⟩
theorem Same.up {H H' : Hp} {a : Addr} {o : HO} (e : Same H H') (h : H a = none) : Same H (upd H' a o) := fun b u q => by
  rw [upd_ne (ne_of_none q h)]; exact e b u q
theorem Same.new {H : Hp} {a : Addr} {o : HO} (h : H a = none) : Same H (upd H a o) := Same.up (Same.refl H) h
def flds (c : Nat) (l : Addr) : List (Str × V) := putF "pairs" (.ref l) (putF "columns" (.int (c : Nat)) [])
theorem kc : ¬ (("columns" : Str) = "pairs") := by decide +kernel
theorem flds_columns (c : Nat) (l : Addr) : (flds c l).lookup ("columns" : Str) = some (.int (c : Nat)) := by
  unfold flds; rw [lookup_putF, if_neg kc, lookup_putF, if_pos rfl]
theorem flds_pairs (c : Nat) (l : Addr) : (flds c l).lookup ("pairs" : Str) = some (.ref l) := by
  unfold flds; rw [lookup_putF, if_pos rfl]
theorem flds_no (c : Nat) (l : Addr) {m : Str} (h1 : ¬ m = "pairs") (h2 : ¬ m = "columns") : (flds c l).lookup m = none := by
  unfold flds; rw [lookup_putF, if_neg h1, lookup_putF, if_neg h2]; rfl
/-- Rules of c columns and the rules ps stand at p, their list at l -/
def RulesAt (C : Addr) (H : Hp) (p l : Addr) (c : Nat) (ps : List (Nat × Nat)) : Prop := (∃ dx, H p = some (.ins C dx (flds c l))) ∧ PrsAt H l ps
theorem RulesAt.same {C : Addr} {H H' : Hp} (e : Same H H') {p l : Addr} {c : Nat} {ps : List (Nat × Nat)} : RulesAt C H p l c ps → RulesAt C H' p l c ps := fun ⟨⟨dx, h⟩, t⟩ => ⟨⟨dx, e _ _ h⟩, t.same e⟩
theorem RulesAt.upd {C : Addr} {H : Hp} {a : Addr} {xs : List V} {o : HO} {p l : Addr} {c : Nat} {ps : List (Nat × Nat)} (ha : H a = some (.lst xs)) (hn : l ≠ a) : RulesAt C H p l c ps → RulesAt C (upd H a o) p l c ps := fun ⟨⟨dx, h⟩, t⟩ =>
  ⟨⟨dx, by rw [upd_ne (ne_of h ha (by intro z; cases z))]; exact h⟩, t.upd ha hn⟩
/-- rules of c columns -/
def Good (c : Nat) (ps : List (Nat × Nat)) : Prop := 1 ≤ c ∧ c ≤ 6 ∧ ps.length ≤ 64 ∧ ∀ p ∈ ps, p.1 < 2 ^ c ∧ p.2 < 2 ^ c

/-! ### numbers -/
theorem in_set {a c : Nat} (h : a < 2 ^ c) : (decide ((0 : Int) ≤ (a : Int)) && decide ((a : Int) ≤ ((2 ^ c : Nat) : Int) - 1)) = true := by
  generalize 2 ^ c = N at h ⊢
  rw [Bool.and_eq_true]
  exact ⟨decide_eq_true (by omega), decide_eq_true (by omega)⟩
theorem or_nat (a b : Nat) : Builtin.bitOr (a : Int) (b : Int) = ((a ||| b : Nat) : Int) := by
  have h1 : ¬ (0 ≤ Builtin.bitNot (a : Int)) := by unfold Builtin.bitNot; omega
  have h2 : ¬ (0 ≤ Builtin.bitNot (b : Int)) := by unfold Builtin.bitNot; omega
  have e : ∀ z : Int, Builtin.bitNot (Builtin.bitNot z) = z := fun z => by unfold Builtin.bitNot; omega
  have e2 : Builtin.bitAnd (Builtin.bitNot (a : Int)) (Builtin.bitNot (b : Int)) = Builtin.bitNot (((Builtin.bitNot (Builtin.bitNot (a : Int))).toNat ||| (Builtin.bitNot (Builtin.bitNot (b : Int))).toNat : Nat) : Int) := by
    simp [Builtin.bitAnd, h1, h2]
  unfold Builtin.bitOr
  rw [e2, e, e, e, Int.toNat_natCast, Int.toNat_natCast]
theorem and_nat (a b : Nat) : Builtin.bitAnd (a : Int) (b : Int) = ((a &&& b : Nat) : Int) := by
  rw [PyProof.Rows.bitAnd_pp (Int.natCast_nonneg a) (Int.natCast_nonneg b)]; rfl
theorem shl_nat (c : Nat) : (1 : Int) * 2 ^ ((c : Int)).toNat = ((2 ^ c : Nat) : Int) := by
  rw [Int.one_mul, Int.toNat_natCast]; norm_cast

def sp_is_number : Sp := fun vs H Q _ => ∃ v a b : Int, vs = [.int v, .int a, .int b] ∧ Q (.bl (decide (a ≤ v) && decide (v ≤ b))) H
def sp_is_list : Sp := fun vs H Q _ => ∃ (p : Addr) (xs : List V) (a b : Int), vs = [.ref p, .int a, .int b] ∧ H p = some (.lst xs) ∧ Q (.bl (decide (a ≤ (xs.length : Int)) && decide ((xs.length : Int) ≤ b))) H
def sp_is_count : Sp := fun vs H Q _ => ∃ v : Int, vs = [.int v] ∧ Q (.bl (decide (1 ≤ v) && decide (v ≤ 6))) H
def sp_all_columns : Sp := fun vs H Q _ => ∃ c : Nat, vs = [.int (c : Nat)] ∧ c ≤ 6 ∧ Q (.int (((2 ^ c : Nat) : Int) - 1)) H
def sp_is_set : Sp := fun vs H Q _ => ∃ (v : Int) (c : Nat), vs = [.int v, .int (c : Nat)] ∧ c ≤ 6 ∧ Q (.bl (decide (0 ≤ v) && decide (v ≤ ((2 ^ c : Nat) : Int) - 1))) H
def sp_is_rule : Sp := fun vs H Q _ => ∃ (t : Addr) (a b c : Nat), vs = [.ref t, .int (c : Nat)] ∧ H t = some (.tup [.int (a : Nat), .int (b : Nat)]) ∧ c ≤ 6 ∧ a < 2 ^ c ∧ b < 2 ^ c ∧ Q (.bl true) H
def sp_are_rules : Sp := fun vs H Q _ => ∃ (l : Addr) (c : Nat) (ps : List (Nat × Nat)), vs = [.ref l, .int (c : Nat)] ∧ PrsAt H l ps ∧ Good c ps ∧ ∀ H', Same H H' → Q (.bl true) H'
def sp_Rules_init (C : Addr) : Sp := fun vs H Q _ => ∃ (p dx l : Addr) (c : Nat) (ps : List (Nat × Nat)), vs = [.ref p, .int (c : Nat), .ref l] ∧ H p = some (.ins C dx []) ∧ PrsAt H l ps ∧ Good c ps ∧
  ∀ (m : Addr) (H' : Hp), H m = none → RulesAt C H' p m c ps → (∀ b o, H b = some o → b ≠ p → H' b = some o) → Q .non H'
def sp_Rules_rules (C : Addr) : Sp := fun vs H Q _ => ∃ (p m : Addr) (c : Nat) (ps : List (Nat × Nat)), vs = [.ref p] ∧ RulesAt C H p m c ps ∧ ∀ (l : Addr) (ts : List Addr), H l = none → Tps H ts ps → Q (.ref l) (upd H l (.lst (ts.map V.ref)))
section
variable {P : Program} {w : World} {K : PySem.W.Frag} {mg : Str → Option Value} {base : Heap} {A : Adr}
theorem kit_int_bool : PySem.W.kitOne K (.type "int") (.type "bool") = some false := by kernel_rfl
theorem kit_int_int : PySem.W.kitOne K (.type "int") (.type "int") = some true := by kernel_rfl
theorem kit_list_list : PySem.W.kitOne K (.type "list") (.type "list") = some true := by kernel_rfl
theorem kit_tuple_tuple : PySem.W.kitOne K (.type "tuple") (.type "tuple") = some true := by kernel_rfl
theorem ok_is_number (T : Txt K mg A) : FnOk P w K mg base CX0 1 A.f_is_number A.d_is_number ["value", "least", "most"] sp_is_number := by
  refine T.F_is_number.ok sc_is_number (fun vs H Q E h => ?_) (fun cdv A' outer s H vs Q E hr h => ?_)
  · obtain ⟨v, a, b, rfl, _⟩ := h; rfl
  · obtain ⟨v, a, b, rfl, k⟩ := h
    refine ⟨_, (pss_cons (ps_if (pt_val (pe_callB (call_isinstK K) rfl T.z_isinstance bt_isinstance (pa_cons (pv 0) (pa_cons (pe_bltn (v := .ty "bool") rfl T.z_bool bt_bool rfl) pa_nil)))) (pss_one (ps_ret pe_bl)) pss_nil)
      (pss_one (ps_ret (pe_and (pe_callB (call_isinstK K) rfl T.z_isinstance bt_isinstance (pa_cons (pv 0) (pa_cons (pe_bltn (v := .ty "int") rfl T.z_int bt_int rfl) pa_nil))) (pe_one (pe_chain op_le op_le (pv 1) (pv 0) (pv 2))))))), ?_⟩
    refine ⟨_, rfl, _, _, _, false, rfl, .int v, kit_int_bool, false, rfl, iteF ?_⟩
    refine ⟨_, rfl, _, _, _, true, rfl, .int v, kit_int_int, true, rfl, iteT ?_⟩
    refine ⟨_, rfl, _, rfl, a, v, rfl, rfl, _, rfl, ?_⟩
    refine ite2 (fun e => ?_) (fun e => ?_)
    · refine ⟨_, rfl, v, b, rfl, rfl, ?_⟩
      rw [e, Bool.true_and] at k
      exact k
    · have e' : decide (a ≤ v) = false := by simpa using e
      rw [e', Bool.false_and] at k
      exact k
theorem ok_is_list (T : Txt K mg A) : FnOk P w K mg base CX0 1 A.f_is_list A.d_is_list ["value", "least", "most"] sp_is_list := by
  refine T.F_is_list.ok sc_is_list (fun vs H Q E h => ?_) (fun cdv A' outer s H vs Q E hr h => ?_)
  · obtain ⟨p, xs, a, b, rfl, _⟩ := h; rfl
  · obtain ⟨p, xs, a, b, rfl, hp, k⟩ := h
    refine ⟨_, (pss_one (ps_ret (pe_and (pe_callB (call_isinstK K) rfl T.z_isinstance bt_isinstance (pa_cons (pv 0) (pa_cons (pe_bltn (v := .ty "list") rfl T.z_list bt_list rfl) pa_nil))) (pe_one (pe_chain op_le op_le (pv 1) (pe_callB (call_lenK K) rfl T.z_len bt_len (pa_cons (pv 0) pa_nil)) (pv 2)))))), ?_⟩
    refine ⟨_, rfl, _, _, _, true, rfl, .lst hp, kit_list_list, true, rfl, iteT ?_⟩
    refine ⟨_, rfl, _, rfl, p, xs, rfl, .inl (SqL.of hp), a, _, rfl, rfl, _, rfl, ?_⟩
    refine ite2 (fun e => ?_) (fun e => ?_)
    · refine ⟨_, rfl, _, b, rfl, rfl, ?_⟩
      rw [e, Bool.true_and] at k
      exact k
    · have e' : decide (a ≤ (xs.length : Int)) = false := by simpa using e
      rw [e', Bool.false_and] at k
      exact k
theorem ok_is_count (T : Txt K mg A) : FnOk P w K mg base CX0 3 A.f_is_count A.d_is_count ["columns"] sp_is_count := by
  have G_is_number := ok_is_number (P := P) (w := w) (base := base) T
  refine T.F_is_count.ok sc_is_count (fun vs H Q E h => ?_) (fun cdv A' outer s H vs Q E hr h => ?_)
  · obtain ⟨v, rfl, _⟩ := h; rfl
  · obtain ⟨v, rfl, k⟩ := h
    refine ⟨_, (pss_one (ps_ret (pe_call G_is_number (hr.mono (by decide)) rfl T.m_is_number T.F_is_number.kp T.b_is_number .nil pass0 (pa_cons (pv 0) (pa_cons pe_int (pa_cons (pe_glob (v := .int 6) rfl T.g_MOST_COLUMNS.choose_spec ⟨_, rfl⟩) pa_nil)))))), ?_⟩
    exact ⟨_, rfl, v, 1, 6, rfl, k⟩
theorem ok_all_columns (T : Txt K mg A) : FnOk P w K mg base CX0 1 A.f_all_columns A.d_all_columns ["columns"] sp_all_columns := by
  refine T.F_all_columns.ok sc_all_columns (fun vs H Q E h => ?_) (fun cdv A' outer s H vs Q E hr h => ?_)
  · obtain ⟨v, rfl, _⟩ := h; rfl
  · obtain ⟨c, rfl, hc, k⟩ := h
    refine ⟨_, (pss_one (ps_ret (pe_op op_sub (pe_op op_shl pe_int (pv 0)) pe_int))), ?_⟩
    refine ⟨_, rfl, 1, (c : Int), rfl, rfl, ⟨Int.natCast_nonneg c, by omega, by decide⟩, _, 1, rfl, rfl, ?_⟩
    rw [shl_nat]
    exact k
theorem ok_is_set (T : Txt K mg A) : FnOk P w K mg base CX0 3 A.f_is_set A.d_is_set ["value", "columns"] sp_is_set := by
  have G_is_number := ok_is_number (P := P) (w := w) (base := base) T
  have G_all_columns := ok_all_columns (P := P) (w := w) (base := base) T
  refine T.F_is_set.ok sc_is_set (fun vs H Q E h => ?_) (fun cdv A' outer s H vs Q E hr h => ?_)
  · obtain ⟨v, c, rfl, _⟩ := h; rfl
  · obtain ⟨v, c, rfl, hc, k⟩ := h
    refine ⟨_, (pss_one (ps_ret (pe_call G_is_number (hr.mono (by decide)) rfl T.m_is_number T.F_is_number.kp T.b_is_number .nil pass0 (pa_cons (pv 0) (pa_cons pe_int (pa_cons (pe_call G_all_columns (hr.mono (by decide)) rfl T.m_all_columns T.F_all_columns.kp T.b_all_columns .nil pass0 (pa_cons (pv 1) pa_nil)) pa_nil)))))), ?_⟩
    exact ⟨_, rfl, _, rfl, c, rfl, hc, v, 0, _, rfl, k⟩
theorem ok_is_rule (T : Txt K mg A) : FnOk P w K mg base CX0 5 A.f_is_rule A.d_is_rule ["value", "columns"] sp_is_rule := by
  have G_is_set := ok_is_set (P := P) (w := w) (base := base) T
  refine T.F_is_rule.ok sc_is_rule (fun vs H Q E h => ?_) (fun cdv A' outer s H vs Q E hr h => ?_)
  · obtain ⟨t, a, b, c, rfl, _⟩ := h; rfl
  · obtain ⟨t, a, b, c, rfl, ht, hc, ha, hb, k⟩ := h
    refine ⟨_, (pss_cons (ps_if (PW.pt (pw_or (pt_not (pt_val (pe_callB (call_isinstK K) rfl T.z_isinstance bt_isinstance (pa_cons (pv 0) (pa_cons (pe_bltn (v := .ty "tuple") rfl T.z_tuple bt_tuple rfl) pa_nil))))) (pw_or1 (pt_cmpR op_ne (pe_callB (call_lenK K) rfl T.z_len bt_len (pa_cons (pv 0) pa_nil)) pe_int (nomark _))))) (pss_one (ps_ret pe_bl)) pss_nil)
      (pss_one (ps_ret (pe_and (pe_call G_is_set (hr.mono (by decide)) rfl T.m_is_set T.F_is_set.kp T.b_is_set .nil pass0 (pa_cons (pe_ix (ix_tupK K) (pv 0) pe_int (fun _ _ => rfl)) (pa_cons (pv 1) pa_nil))) (pe_one (pe_call G_is_set (hr.mono (by decide)) rfl T.m_is_set T.F_is_set.kp T.b_is_set .nil pass0 (pa_cons (pe_ix (ix_tupK K) (pv 0) pe_int (fun _ _ => rfl)) (pa_cons (pv 1) pa_nil)))))))), ?_⟩
    refine ⟨_, rfl, _, _, _, true, rfl, .tup ht, kit_tuple_tuple, true, rfl, iteF ?_⟩
    refine ⟨_, rfl, t, _, rfl, .inr (SqT.of ht), rfl, _, rfl, iteF ?_⟩
    refine ⟨_, rfl, t, _, 0, _, rfl, rfl, SqT.of ht, rfl, _, rfl, a, c, rfl, hc, _, rfl, ?_⟩
    have e1 := in_set ha
    have e2 := in_set hb
    rw [e1]
    refine iteT ⟨_, rfl, t, _, 1, _, rfl, rfl, SqT.of ht, rfl, _, rfl, b, c, rfl, hc, ?_⟩
    rw [e2]
    exact k
theorem ok_are_rules (T : Txt K mg A) : FnOk P w K mg base CX0 7 A.f_are_rules A.d_are_rules ["value", "columns"] sp_are_rules := by
  have G_is_list := ok_is_list (P := P) (w := w) (base := base) T
  have G_is_rule := ok_is_rule (P := P) (w := w) (base := base) T
  refine T.F_are_rules.ok sc_are_rules (fun vs H Q E h => ?_) (fun cdv A' outer s H vs Q E hr h => ?_)
  · obtain ⟨l, c, ps, rfl, _⟩ := h; rfl
  · obtain ⟨l, c, ps, rfl, ⟨ts, hl, htp⟩, ⟨hc1, hc6, hlen, hps⟩, k⟩ := h
    refine ⟨_, (pss_cons (ps_if (pt_not (pt_val (pe_call G_is_list (hr.mono (by decide)) rfl T.m_is_list T.F_is_list.kp T.b_is_list .nil pass0 (pa_cons (pv 0) (pa_cons pe_int (pa_cons (pe_glob (v := .int 64) rfl T.g_MOST_RULES.choose_spec ⟨_, rfl⟩) pa_nil)))))) (pss_one (ps_ret pe_bl)) pss_nil)
      (pss_one (ps_ret (pe_callB (call_allK K rfl) rfl T.z_all bt_all (pa_cons (pe_comp ["value", "columns"] (defScope s_are_rules) ["rule", "columns"] [none, some 1] ⟨rfl, by decide +kernel, by decide +kernel, by decide +kernel, by decide +kernel, by decide +kernel⟩ rfl (pi_listK K (pv 0)) (fun _ _ _ _ _ => (pg_name (i := 0) (by show List.Nodup (["rule", "columns"] : List Str); decide +kernel) rfl (Or.inl rfl) (Or.inr rfl))) (fun _ _ _ _ _ => pts_nil) (fun _ _ _ _ _ => (pe_call G_is_rule (hr.mono (by decide)) rfl T.m_is_rule T.F_is_rule.kp T.b_is_rule .nil pass0 (pa_cons (pv 0) (pa_cons (pv 1) pa_nil))))) pa_nil))))), ?_⟩
    refine ⟨_, rfl, l, ts.map V.ref, 0, 64, rfl, hl, _, rfl, ?_⟩
    have hln : (ts.map V.ref).length = ps.length := by rw [List.length_map]; exact htp.len
    have e : (decide ((0 : Int) ≤ ((ts.map V.ref).length : Int)) && decide (((ts.map V.ref).length : Int) ≤ 64)) = true := by
      rw [hln]; simp; omega
    rw [e]
    refine iteF ?_
    refine ⟨_, rfl, l, rfl, ⟨_, SqL.of hl⟩, fun D hD => comp_list (xs := ts.map V.ref) (fun i ys H' => Same H H' ∧ ys = List.replicate i (.bl true) ∧ i ≤ ps.length) ⟨Same.new hD, rfl, Nat.zero_le _⟩ (fun i ys H' _ ⟨e, _⟩ => SqL.of (e _ _ hl)) ?_ ?_⟩
    · rintro i x ys H' hx ⟨se, rfl, hi⟩ hDl
      obtain ⟨t, p, rfl, hp, ht⟩ := (htp.same se).get hx
      have hi' : i < ps.length := (List.getElem?_eq_some_iff.mp hp).1
      have hb := hps p (List.mem_of_getElem? hp)
      refine yes_mk ?_
      refine ⟨_, rfl, _, rfl, t, p.1, p.2, c, rfl, ht, hc6, hb.1, hb.2, CE1.mk hDl (small1000 (by rw [List.length_replicate]; omega)) ⟨Same.up se hD, ?_, hi'⟩⟩
      rw [List.replicate_succ']
    · rintro ys H' ⟨se, rfl, _⟩ hDl
      refine ⟨D, List.replicate _ true, rfl, SqL.of (by rw [List.map_replicate]; exact hDl), ?_⟩
      have e2 : (List.replicate (ts.map V.ref).length true).all id = true := by simp
      rw [e2]
      exact k H' se
theorem ok_Rules_init (T : Txt K mg A) : FnOk P w K mg base CX0 9 A.f_Rules_init A.d_Rules_init ["self", "columns", "rules"] (sp_Rules_init A.c_Rules) := by
  have G_is_count := ok_is_count (P := P) (w := w) (base := base) T
  have G_are_rules := ok_are_rules (P := P) (w := w) (base := base) T
  refine T.F_Rules_init.ok sc_Rules_init (fun vs H Q E h => ?_) (fun cdv A' outer s H vs Q E hr h => ?_)
  · obtain ⟨p, dx, l, c, ps, rfl, _⟩ := h; rfl
  · obtain ⟨p, dx, l, c, ps, rfl, hp, hP, hG, k⟩ := h
    obtain ⟨hc1, hc6, hlen, hps⟩ := id hG
    refine ⟨_, (pss_cons (ps_if (pt_not (pt_val (pe_call G_is_count (hr.mono (by decide)) rfl T.m_is_count T.F_is_count.kp T.b_is_count .nil pass0 (pa_cons (pv 1) pa_nil)))) (pss_one ps_never) pss_nil)
      (pss_cons (ps_if (pt_not (pt_val (pe_call G_are_rules (hr.mono (by decide)) rfl T.m_are_rules T.F_are_rules.kp T.b_are_rules .nil pass0 (pa_cons (pv 2) (pa_cons (pv 1) pa_nil))))) (pss_one ps_never) pss_nil)
      (pss_cons (ps_fldK K (pv 0) (pv 1))
      (pss_one (ps_fldK K (pv 0) (pe_comp ["self", "columns", "rules"] (defScope s_Rules_init) ["rule"] [none] ⟨rfl, by decide +kernel, by decide +kernel, by decide +kernel, by decide +kernel, by decide +kernel⟩ rfl (pi_listK K (pv 2)) (fun _ _ _ _ _ => (pg_name (i := 0) (by show List.Nodup (["rule"] : List Str); decide +kernel) rfl (Or.inl rfl) (Or.inr rfl))) (fun _ _ _ _ _ => pts_nil) (fun _ _ _ _ _ => (pe_tup (pa_cons (pe_ix (ix_tupK K) (pv 0) pe_int (fun _ _ => rfl)) (pa_cons (pe_ix (ix_tupK K) (pv 0) pe_int (fun _ _ => rfl)) pa_nil)))))))))), ?_⟩
    refine ⟨_, rfl, c, rfl, _, rfl, ?_⟩
    have e : (decide ((1 : Int) ≤ (c : Int)) && decide ((c : Int) ≤ 6)) = true := by simp; omega
    rw [e]
    refine iteF ?_
    refine ⟨_, rfl, _, rfl, l, c, ps, rfl, hP, hG, fun H1 s1 => ⟨_, rfl, iteF ?_⟩⟩
    obtain ⟨ts, hl, htp⟩ := hP.same s1
    have hp1 := s1 _ _ hp
    have npl : l ≠ p := ne_of hl hp1 (by intro z; cases z)
    refine ⟨_, rfl, _, rfl, p, A.c_Rules, dx, [], rfl, hp1, T.cl_Rules, T.na_Rules_columns, by show 0 < 1000; decide, ?_⟩
    -- self.pairs = [(rule[0], rule[1]) for rule in rules]
    have hl2 : (upd H1 p (.ins A.c_Rules dx (putF "columns" (.int (c : Nat)) []))) l = some (.lst (ts.map V.ref)) := by rw [upd_ne npl]; exact hl
    have hln : (ts.map V.ref).length = ps.length := by rw [List.length_map]; exact htp.len
    have htp2 : Tps (upd H1 p (.ins A.c_Rules dx (putF "columns" (.int (c : Nat)) []))) ts ps := by
      have : ∀ {ts : List Addr} {ps : List (Nat × Nat)}, Tps H1 ts ps → Tps (upd H1 p (.ins A.c_Rules dx (putF "columns" (.int (c : Nat)) []))) ts ps := by
        intro ts
        induction ts with
        | nil => intro ps h; cases ps with
          | nil => exact h
          | cons _ _ => exact h
        | cons t ts ih => intro ps h; cases ps with
          | nil => exact h
          | cons q ps => exact ⟨by rw [upd_ne (ne_of h.1 hp1 (by intro z; cases z))]; exact h.1, ih h.2⟩
      exact this htp
    refine ⟨_, rfl, l, rfl, ⟨_, SqL.of hl2⟩, fun D hD => comp_list (xs := ts.map V.ref) (fun i ys H' => Same (upd H1 p (.ins A.c_Rules dx (putF "columns" (.int (c : Nat)) []))) H' ∧ i ≤ ps.length ∧ ∃ qs : List Addr, ys = qs.map V.ref ∧ Tps H' qs (ps.take i)) ⟨Same.new hD, Nat.zero_le _, [], rfl, trivial⟩ (fun i ys H' _ ⟨e, _⟩ => SqL.of (e _ _ hl2)) ?_ ?_⟩
    · rintro i x ys H' hx ⟨se, hi, qs, rfl, hq⟩ hDl
      obtain ⟨t, q, rfl, hqe, ht⟩ := (htp2.same se).get hx
      have hi' : i < ps.length := (List.getElem?_eq_some_iff.mp hqe).1
      have hql : qs.length = i := by rw [hq.len, List.length_take]; omega
      refine yes_mk ?_
      refine ⟨_, rfl, t, _, 0, _, rfl, rfl, SqT.of ht, rfl, _, rfl, t, _, 1, _, rfl, rfl, SqT.of ht, rfl, by show 2 ≤ sizeLine; decide, fun n hn => ?_⟩
      have nD : D ≠ n := ne_of_none hDl hn
      have hDl2 : (upd H' n (.tup [.int (q.1 : Nat), .int (q.2 : Nat)])) D = some (.lst (qs.map V.ref)) := by rw [upd_ne nD]; exact hDl
      refine CE1.mk hDl2 (small1000 (by rw [List.length_map]; omega)) ⟨Same.up (Same.up se (se.free hn)) hD, hi', qs ++ [n], by rw [List.map_append]; rfl, ?_⟩
      have et : ps.take (i + 1) = ps.take i ++ [q] := by rw [List.take_succ, hqe]; rfl
      rw [et]
      exact Tps.snoc (by rw [upd_ne nD.symm, upd_same]) ((hq.same (Same.new hn)).upd hDl2)
    · rintro ys H' ⟨se, hi, qs, rfl, hq⟩ hDl
      rw [hln, List.take_length] at hq
      have hp3 := se p _ upd_same
      have nDp : D ≠ p := ne_of hDl hp3 (by intro z; cases z)
      refine ⟨_, rfl, p, A.c_Rules, dx, _, rfl, hp3, T.cl_Rules, T.na_Rules_pairs, by show 1 < 1000; decide, ?_⟩
      have hq2 : Tps (upd H' p (.ins A.c_Rules dx (flds c D))) qs ps := by
        have : ∀ {ts : List Addr} {ps : List (Nat × Nat)}, Tps H' ts ps → Tps (upd H' p (.ins A.c_Rules dx (flds c D))) ts ps := by
          intro ts
          induction ts with
          | nil => intro ps h; cases ps with
            | nil => exact h
            | cons _ _ => exact h
          | cons t ts ih => intro ps h; cases ps with
            | nil => exact h
            | cons q ps => exact ⟨by rw [upd_ne (ne_of h.1 hp3 (by intro z; cases z))]; exact h.1, ih h.2⟩
        exact this hq
      refine k D _ ?_ ⟨⟨dx, upd_same⟩, qs, by rw [upd_ne nDp]; exact hDl, hq2⟩ fun b o hb hbp => ?_
      · rw [upd_ne nDp] at hD
        exact s1.free hD
      · rw [upd_ne hbp]
        refine se _ _ ?_
        rw [upd_ne hbp]
        exact s1 _ _ hb
theorem ok_Rules_rules (T : Txt K mg A) : FnOk P w K mg base CX0 1 A.f_Rules_rules A.d_Rules_rules ["self"] (sp_Rules_rules A.c_Rules) := by
  refine T.F_Rules_rules.ok sc_Rules_rules (fun vs H Q E h => ?_) (fun cdv A' outer s H vs Q E hr h => ?_)
  · obtain ⟨p, m, c, ps, rfl, _⟩ := h; rfl
  · obtain ⟨p, m, c, ps, rfl, ⟨⟨dx, hp⟩, ts, hm, htp⟩, k⟩ := h
    refine ⟨_, (pss_one (ps_ret (pe_callTy (call_listK K) rfl T.z_list bt_list (pa_cons (pe_fldK K (pv 0)) pa_nil)))), ?_⟩
    exact ⟨_, rfl, p, A.c_Rules, dx, _, _, rfl, hp, T.cl_Rules, T.na_Rules_pairs, flds_pairs _ _, m, _, rfl, .inl (SqL.of hm), fun l hl => k l ts hl htp⟩
end
def nums (ns : List Nat) : List V := ns.map fun n => V.int (n : Nat)
def ltB (m : Nat) (ns : List Nat) : Bool := ns.all fun n => decide (n < m)
def sp_numbers : Sp := fun vs H Q _ => ∃ (l : Addr) (ns : List Nat) (m : Nat), vs = [.ref l, .int (m : Nat)] ∧ H l = some (.lst (nums ns)) ∧ ns.length ≤ 900 ∧ ∀ H', Same H H' → Q (.bl (ltB m ns)) H'
section
variable {P : Program} {w : World} {K : PySem.W.Frag} {mg : Str → Option Value} {base : Heap} {A : Adr}
theorem ok_law_numbers (T : Txt K mg A) : FnOk P w K mg base CX0 1 A.f_law_numbers A.d_law_numbers ["_law_found", "_law_most"] sp_numbers := by
  refine T.F_law_numbers.ok sc_law_numbers (fun vs H Q E h => ?_) (fun cdv A' outer s H vs Q E hr h => ?_)
  · obtain ⟨l, ns, m, rfl, _⟩ := h; rfl
  · obtain ⟨l, ns, m, rfl, hl, hlen, k⟩ := h
    refine ⟨_, (pss_cons (ps_if (pt_not (pt_val (pe_callB (call_isinstK K) rfl T.z_isinstance bt_isinstance (pa_cons (pv 0) (pa_cons (pe_bltn (v := .ty "list") rfl T.z_list bt_list rfl) pa_nil))))) (pss_one (ps_ret pe_bl)) pss_nil)
      (pss_one (ps_ret (pe_callB (call_allK K rfl) rfl T.z_all bt_all (pa_cons (pe_comp ["_law_found", "_law_most"] (defScope s_law_numbers) ["_law_one", "_law_most"] [none, some 1] ⟨rfl, by decide +kernel, by decide +kernel, by decide +kernel, by decide +kernel, by decide +kernel⟩ rfl (pi_listK K (pv 0)) (fun _ _ _ _ _ => (pg_name (i := 0) (by show List.Nodup (["_law_one", "_law_most"] : List Str); decide +kernel) rfl (Or.inl rfl) (Or.inr rfl))) (fun _ _ _ _ _ => pts_nil) (fun _ _ _ _ _ => (pe_and (pe_callB (call_isinstK K) rfl T.z_isinstance bt_isinstance (pa_cons (pv 0) (pa_cons (pe_bltn (v := .ty "int") rfl T.z_int bt_int rfl) pa_nil))) (pe_and (pe_not (pe_callB (call_isinstK K) rfl T.z_isinstance bt_isinstance (pa_cons (pv 0) (pa_cons (pe_bltn (v := .ty "bool") rfl T.z_bool bt_bool rfl) pa_nil)))) (pe_one (pe_chain op_le op_lt pe_int (pv 0) (pv 1))))))) pa_nil))))), ?_⟩
    refine ⟨_, rfl, _, _, _, true, rfl, .lst hl, kit_list_list, true, rfl, iteF ?_⟩
    refine ⟨_, rfl, l, rfl, ⟨_, SqL.of hl⟩, fun D hD => comp_list (xs := nums ns) (fun i ys H' => Same H H' ∧ ys = ((ns.take i).map fun n => decide (n < m)).map V.bl) ⟨Same.new hD, rfl⟩ (fun i ys H' _ ⟨e, _⟩ => SqL.of (e _ _ hl)) ?_ ?_⟩
    · rintro i x ys H' hx ⟨se, rfl⟩ hDl
      have hi : i < ns.length := by
        have := (List.getElem?_eq_some_iff.mp hx).1
        unfold nums at this
        rwa [List.length_map] at this
      have hxe : x = .int ((ns[i] : Nat) : Int) := by
        unfold nums at hx
        rw [List.getElem?_map, List.getElem?_eq_getElem hi] at hx
        exact (Option.some.inj hx).symm
      subst hxe
      refine yes_mk ?_
      refine ⟨_, rfl, _, _, _, true, rfl, .int _, kit_int_int, true, rfl, iteT ?_⟩
      refine ⟨_, rfl, _, _, _, false, rfl, .int _, kit_int_bool, false, rfl, true, rfl, iteT ?_⟩
      refine ⟨_, rfl, 0, _, rfl, rfl, _, rfl, ?_⟩
      have e1 : decide ((0 : Int) ≤ ((ns[i] : Nat) : Int)) = true := decide_eq_true (Int.natCast_nonneg _)
      rw [e1]
      refine iteT ⟨_, rfl, _, _, rfl, rfl, ?_⟩
      have e2 : decide (((ns[i] : Nat) : Int) < ((m : Nat) : Int)) = decide (ns[i] < m) := decide_eq_decide.mpr (by omega)
      show CE1 _ D _ (i + 1) _ (V.bl (decide (((ns[i] : Nat) : Int) < ((m : Nat) : Int)))) H'
      rw [e2]
      refine CE1.mk hDl (small1000 (by rw [List.length_map, List.length_map, List.length_take]; omega)) ⟨Same.up se hD, ?_⟩
      rw [List.take_add_one, List.getElem?_eq_getElem hi, List.map_append, List.map_append]; rfl
    · rintro ys H' ⟨se, rfl⟩ hDl
      have hnl : (nums ns).length = ns.length := by unfold nums; rw [List.length_map]
      rw [hnl, List.take_length] at hDl
      refine ⟨D, _, rfl, SqL.of hDl, ?_⟩
      have e2 : (ns.map fun n => decide (n < m)).all id = ltB m ns := by rw [List.all_map]; rfl
      rw [e2]
      exact k H' se
end
/-! ### the law -/
def pairD (p : Nat × Nat) : PyData := .tuple [.int (p.1 : Nat), .int (p.2 : Nat)]
theorem tps_dt {H : Hp} : ∀ {ts : List Addr} {ps : List (Nat × Nat)}, Tps H ts ps → Dts H (ts.map V.ref) (ps.map pairD)
  | [], [], _ => .nil
  | _ :: _, _ :: _, ⟨h, t⟩ => .cons (.tup h (.cons (.int _) (.cons (.int _) .nil))) (tps_dt t)
  | [], _ :: _, h => h.elim
  | _ :: _, [], h => h.elim
theorem prs_dt {H : Hp} {l : Addr} {ps : List (Nat × Nat)} : PrsAt H l ps → Dt H (.ref l) (.list (ps.map pairD)) := fun ⟨_, h, t⟩ => .lst h (tps_dt t)
theorem lay_pairs : ∀ ps : List (Nat × Nat), PyData.canLayAll0 (ps.map pairD) = true
  | [] => rfl
  | _ :: ps => by
    show (PyData.canLay0 (pairD _) && PyData.canLayAll0 (ps.map pairD)) = true
    rw [lay_pairs ps]; rfl
theorem depth_pairs : ∀ ps : List (Nat × Nat), PyData.depthAll (ps.map pairD) ≤ 1
  | [] => Nat.zero_le _
  | _ :: ps => Nat.max_le.mpr ⟨by show 1 ≤ 1; decide, depth_pairs ps⟩
theorem eqv_pairs : ∀ ps : List (Nat × Nat), PyData.eqvAll (ps.map pairD) (ps.map pairD) = true
  | [] => rfl
  | p :: ps => by
    show (PyData.eqv (pairD p) (pairD p) && PyData.eqvAll (ps.map pairD) (ps.map pairD)) = true
    rw [eqv_pairs ps]
    have : PyData.eqv (pairD p) (pairD p) = true := by
      show (((p.1 : Int) == (p.1 : Int)) && (((p.2 : Int) == (p.2 : Int)) && true)) = true
      simp
    rw [this]; rfl
theorem nums_dt {H : Hp} : ∀ (ns : List Nat), Dts H (nums ns) (ns.map fun n => PyData.int (n : Nat))
  | [] => .nil
  | _ :: ns => .cons (.int _) (nums_dt ns)
theorem lay_nums : ∀ ns : List Nat, PyData.canLayAll0 (ns.map fun n => PyData.int (n : Nat)) = true
  | [] => rfl
  | _ :: ns => by
    show (PyData.canLay0 (.int _) && PyData.canLayAll0 (ns.map fun n => PyData.int (n : Nat))) = true
    rw [lay_nums ns]; rfl
theorem depth_nums : ∀ ns : List Nat, PyData.depthAll (ns.map fun n => PyData.int (n : Nat)) ≤ 1
  | [] => Nat.zero_le _
  | _ :: ns => Nat.max_le.mpr ⟨Nat.zero_le _, depth_nums ns⟩
theorem menu (x : Int) : ∃ c : Nat, 1 ≤ c ∧ c ≤ 6 ∧ atI [V.int 3, V.int 4, V.int 2, V.int 5, V.int 3, V.int 4, V.int 1, V.int 6] (x % 8) = some (.int (c : Nat)) := by
  have h : x % 8 = 0 ∨ x % 8 = 1 ∨ x % 8 = 2 ∨ x % 8 = 3 ∨ x % 8 = 4 ∨ x % 8 = 5 ∨ x % 8 = 6 ∨ x % 8 = 7 := by omega
  rcases h with h | h | h | h | h | h | h | h <;> rw [h]
  · exact ⟨3, by decide, by decide, rfl⟩
  · exact ⟨4, by decide, by decide, rfl⟩
  · exact ⟨2, by decide, by decide, rfl⟩
  · exact ⟨5, by decide, by decide, rfl⟩
  · exact ⟨3, by decide, by decide, rfl⟩
  · exact ⟨4, by decide, by decide, rfl⟩
  · exact ⟨1, by decide, by decide, rfl⟩
  · exact ⟨6, by decide, by decide, rfl⟩
theorem and64 : ∀ a, a < 64 → ∀ i, i < 6 → ((a &&& 2 ^ i) != 0) = a.testBit i := by decide +kernel
theorem and_bit {a i : Nat} (ha : a < 64) (hi : i < 6) : (Builtin.bitAnd (a : Int) ((1 : Int) * 2 ^ ((i : Int)).toNat) != 0) = a.testBit i := by
  rw [shl_nat, and_nat, ← and64 a ha i hi]
  generalize a &&& 2 ^ i = z
  cases z with
  | zero => rfl
  | succ n => rfl
theorem nums_snoc (ns : List Nat) (n : Nat) : nums (ns ++ [n]) = nums ns ++ [.int (n : Nat)] := by unfold nums; rw [List.map_append]; rfl
theorem nums_len (ns : List Nat) : (nums ns).length = ns.length := by unfold nums; rw [List.length_map]
theorem nums_at {ns : List Nat} {i : Nat} {x : V} (h : (nums ns)[i]? = some x) : ∃ n, ns[i]? = some n ∧ x = .int (n : Nat) := by
  unfold nums at h
  rw [List.getElem?_map] at h
  cases e : ns[i]? with
  | none => rw [e] at h; cases h
  | some n => rw [e] at h; exact ⟨n, rfl, (Option.some.inj h).symm⟩
theorem nums_inj : ∀ {a b : List Nat}, nums a = nums b → a = b
  | [], [], _ => rfl
  | [], _ :: _, h => by cases h
  | _ :: _, [], h => by cases h
  | x :: a, y :: b, h => by
    have h' : V.int (x : Nat) :: nums a = V.int (y : Nat) :: nums b := h
    injection h' with h1 h2
    injection h1 with h1
    rw [nums_inj h2, Int.ofNat.inj h1]
theorem eqv_numsD : ∀ a b : List Nat, PyData.eqvAll (a.map fun n => PyData.int (n : Nat)) (b.map fun n => PyData.int (n : Nat)) = decide (a = b)
  | [], [] => rfl
  | [], _ :: _ => by simp [PyData.eqvAll]
  | _ :: _, [] => by simp [PyData.eqvAll]
  | x :: a, y :: b => by
    show (((x : Int) == (y : Int)) && PyData.eqvAll (a.map fun n => PyData.int (n : Nat)) (b.map fun n => PyData.int (n : Nat))) = _
    rw [eqv_numsD a b]
    by_cases h : x = y
    · subst h; simp
    · have h1 : ((x : Int) == (y : Int)) = false := by
        rw [beq_eq_false_iff_ne]; omega
      rw [h1]; simp [h]
theorem full_castN (c : Nat) : ((2 ^ c : Nat) : Int) - 1 = ((2 ^ c - 1 : Nat) : Int) := by
  have : 0 < 2 ^ c := Nat.two_pow_pos c
  generalize 2 ^ c = N at this ⊢
  omega
theorem bit_above {s n j : Nat} (hs : s < 2 ^ n) (h : n ≤ j) : s.testBit j = false := Nat.testBit_lt_two_pow (Nat.lt_of_lt_of_le hs (Nat.pow_le_pow_right (by decide) h))
theorem getD_at {r : List Nat} {j : Nat} (h : j < r.length) : r[j]? = some (r.getD j 0) := by simp [List.getD, h]
theorem take_mem {α : Type} {rs : List α} {i : Nat} {r a : α} (h : rs[i]? = some r) : a ∈ rs.take (i + 1) ↔ a ∈ rs.take i ∨ a = r := by
  rw [List.take_succ, h, List.mem_append]; simp
/-- rows stand at ts -/
def Rws (H : Hp) : List Addr → List (List Nat) → Prop
  | [], [] => True
  | t :: ts, r :: rs => H t = some (.lst (nums r)) ∧ Rws H ts rs
  | _, _ => False
theorem Rws.same {H H' : Hp} (e : Same H H') : ∀ {ts : List Addr} {rs : List (List Nat)}, Rws H ts rs → Rws H' ts rs
  | [], [], _ => trivial
  | _ :: _, _ :: _, ⟨h, t⟩ => ⟨e _ _ h, Rws.same e t⟩
  | [], _ :: _, h => h.elim
  | _ :: _, [], h => h.elim
theorem Rws.len {H : Hp} : ∀ {ts : List Addr} {rs : List (List Nat)}, Rws H ts rs → ts.length = rs.length
  | [], [], _ => rfl
  | _ :: _, _ :: _, ⟨_, t⟩ => congrArg (· + 1) (Rws.len t)
  | [], _ :: _, h => h.elim
  | _ :: _, [], h => h.elim
theorem Rws.get {H : Hp} : ∀ {ts : List Addr} {rs : List (List Nat)} {i : Nat} {v : V}, Rws H ts rs → (ts.map V.ref)[i]? = some v → ∃ t r, v = .ref t ∧ rs[i]? = some r ∧ H t = some (.lst (nums r))
  | [], [], i, v, _, h => by simp at h
  | t :: _, r :: _, 0, v, ⟨h, _⟩, e => ⟨t, r, by simpa using e.symm, by simp, h⟩
  | _ :: _, _ :: _, i + 1, v, ⟨_, t⟩, e => by
    obtain ⟨a, b, h1, h2, h3⟩ := Rws.get (i := i) t (by simpa using e)
    exact ⟨a, b, h1, by simpa using h2, h3⟩
  | [], _ :: _, _, _, h, _ => h.elim
  | _ :: _, [], _, _, h, _ => h.elim
theorem Rws.snoc {H : Hp} {t : Addr} {r : List Nat} (e : H t = some (.lst (nums r))) : ∀ {ts : List Addr} {rs : List (List Nat)}, Rws H ts rs → Rws H (ts ++ [t]) (rs ++ [r])
  | [], [], _ => ⟨e, trivial⟩
  | _ :: _, _ :: _, ⟨h, t⟩ => ⟨h, Rws.snoc e t⟩
  | [], _ :: _, h => h.elim
  | _ :: _, [], h => h.elim
def TblAt (H : Hp) (l : Addr) (rs : List (List Nat)) : Prop := ∃ ts : List Addr, H l = some (.lst (ts.map V.ref)) ∧ Rws H ts rs
theorem TblAt.same {H H' : Hp} (e : Same H H') {l : Addr} {rs : List (List Nat)} : TblAt H l rs → TblAt H' l rs := fun ⟨ts, h, t⟩ => ⟨ts, e _ _ h, t.same e⟩
/-- a table of c columns -/
def GoodT (c : Nat) (rs : List (List Nat)) : Prop := rs.length ≤ 64 ∧ ∀ r ∈ rs, r.length = c ∧ ∀ n ∈ r, n ≤ 99
/-- what a row has in a set of columns -/
def cellsI (r : List Nat) (s i : Nat) : List Nat := ((List.range i).filter fun j => s.testBit j).map fun j => r.getD j 0
def cellsN (r : List Nat) (s : Nat) : List Nat := cellsI r s r.length
theorem cellsI_succ (r : List Nat) (s i : Nat) : cellsI r s (i + 1) = cellsI r s i ++ (if s.testBit i = true then [r.getD i 0] else []) := by
  unfold cellsI
  rw [List.range_succ, List.filter_append, List.map_append]
  congr 1
  by_cases h : s.testBit i = true
  · rw [if_pos h, List.filter_cons, if_pos h]; rfl
  · rw [if_neg h, List.filter_cons, if_neg h]; rfl
theorem cellsI_len (r : List Nat) (s i : Nat) : (cellsI r s i).length ≤ i := by
  unfold cellsI
  rw [List.length_map]
  exact Nat.le_trans (List.length_filter_le _ _) (by rw [List.length_range]; exact Nat.le_refl _)
/-- whether a table keeps a rule -/
def Keeps (rs : List (List Nat)) (p : Nat × Nat) : Prop := ∀ a ∈ rs, ∀ b ∈ rs, cellsN a p.1 = cellsN b p.1 → cellsN a p.2 = cellsN b p.2
instance (rs : List (List Nat)) (p : Nat × Nat) : Decidable (Keeps rs p) := by unfold Keeps; infer_instance
/-! ### rows and tables, good or not -/
def rowB (c : Nat) (r : List Nat) : Bool := decide (r.length = c) && r.all fun n => decide (n ≤ 99)
def tabB (c : Nat) (rs : List (List Nat)) : Bool := decide (rs.length ≤ 64) && rs.all (rowB c)
theorem tabB_good {c : Nat} {rs : List (List Nat)} (h : tabB c rs = true) : GoodT c rs := by
  unfold tabB at h
  rw [Bool.and_eq_true] at h
  refine ⟨of_decide_eq_true h.1, fun r hr => ?_⟩
  have h2 := List.all_eq_true.mp h.2 r hr
  unfold rowB at h2
  rw [Bool.and_eq_true] at h2
  exact ⟨of_decide_eq_true h2.1, fun n hn => of_decide_eq_true (List.all_eq_true.mp h2.2 n hn)⟩
theorem good_tabB {c : Nat} {rs : List (List Nat)} (h : GoodT c rs) : tabB c rs = true := by
  unfold tabB
  rw [decide_eq_true h.1, Bool.true_and]
  refine List.all_eq_true.mpr fun r hr => ?_
  unfold rowB
  rw [decide_eq_true (h.2 r hr).1, Bool.true_and]
  exact List.all_eq_true.mpr fun n hn => decide_eq_true ((h.2 r hr).2 n hn)
def bls (bs : List Bool) : List V := bs.map V.bl
theorem bls_len (bs : List Bool) : (bls bs).length = bs.length := by unfold bls; rw [List.length_map]
theorem bls_snoc (bs : List Bool) (b : Bool) : bls (bs ++ [b]) = bls bs ++ [.bl b] := by unfold bls; rw [List.map_append]; rfl
theorem map_take {α β : Type} (f : α → β) {xs : List α} {i : Nat} {x : α} (h : xs[i]? = some x) : (xs.take (i + 1)).map f = (xs.take i).map f ++ [f x] := by
  rw [List.take_add_one, h, List.map_append]; rfl
theorem all_map {α : Type} (f : α → Bool) (xs : List α) : (xs.map f).all id = xs.all f := by
  rw [List.all_map]; rfl
def sp_is_row : Sp := fun vs H Q _ => ∃ (l : Addr) (c : Nat) (r : List Nat), vs = [.ref l, .int (c : Nat)] ∧ c ≤ 6 ∧ H l = some (.lst (nums r)) ∧ ∀ H', Same H H' → Q (.bl (rowB c r)) H'
def sp_is_table : Sp := fun vs H Q _ => ∃ (l : Addr) (c : Nat) (rs : List (List Nat)), vs = [.ref l, .int (c : Nat)] ∧ c ≤ 6 ∧ TblAt H l rs ∧ ∀ H', Same H H' → Q (.bl (tabB c rs)) H'
section
variable {P : Program} {w : World} {K : PySem.W.Frag} {mg : Str → Option Value} {base : Heap} {A : Adr}
theorem ok_is_row (T : Txt K mg A) : FnOk P w K mg base CX0 3 A.f_is_row A.d_is_row ["value", "columns"] sp_is_row := by
  have G_is_list := ok_is_list (P := P) (w := w) (base := base) T
  have G_is_number := ok_is_number (P := P) (w := w) (base := base) T
  refine T.F_is_row.ok sc_is_row (fun vs H Q E h => ?_) (fun cdv A' outer s H vs Q E hr h => ?_)
  · obtain ⟨l, c, r, rfl, _⟩ := h; rfl
  · obtain ⟨l, c, r, rfl, hc, hl, k⟩ := h
    refine ⟨_, (pss_cons (ps_if (pt_not (pt_val (pe_call G_is_list (hr.mono (by decide)) rfl T.m_is_list T.F_is_list.kp T.b_is_list .nil pass0 (pa_cons (pv 0) (pa_cons (pv 1) (pa_cons (pv 1) pa_nil)))))) (pss_one (ps_ret pe_bl)) pss_nil)
      (pss_one (ps_ret (pe_callB (call_allK K rfl) rfl T.z_all bt_all (pa_cons (pe_comp ["value", "columns"] (defScope s_is_row) ["number"] [none] ⟨rfl, by decide +kernel, by decide +kernel, by decide +kernel, by decide +kernel, by decide +kernel⟩ rfl (pi_listK K (pv 0)) (fun _ _ _ _ _ => (pg_name (i := 0) (by show List.Nodup (["number"] : List Str); decide +kernel) rfl (Or.inl rfl) (Or.inr rfl))) (fun _ _ _ _ _ => pts_nil) (fun _ _ _ _ _ => (pe_call G_is_number (hr.mono (by decide)) rfl T.m_is_number T.F_is_number.kp T.b_is_number .nil pass0 (pa_cons (pv 0) (pa_cons pe_int (pa_cons (pe_glob (v := .int 99) rfl T.g_MOST_NUMBER.choose_spec ⟨_, rfl⟩) pa_nil)))))) pa_nil))))), ?_⟩
    refine ⟨_, rfl, _, rfl, _, rfl, l, nums r, (c : Int), (c : Int), rfl, hl, _, rfl, ?_⟩
    by_cases hlen : r.length = c
    · have e : (decide ((c : Int) ≤ ((nums r).length : Int)) && decide (((nums r).length : Int) ≤ (c : Int))) = true := by
        rw [nums_len, hlen]; simp
      rw [e]
      refine iteF ?_
      refine ⟨_, rfl, l, rfl, ⟨_, SqL.of hl⟩, fun D hD => comp_list (xs := nums r) (fun i ys H' => Same H H' ∧ ys = bls ((r.take i).map fun n => decide (n ≤ 99)) ∧ i ≤ r.length) ⟨Same.new hD, rfl, Nat.zero_le _⟩ (fun i ys H' _ ⟨e, _⟩ => SqL.of (e _ _ hl)) ?_ ?_⟩
      · rintro i x ys H' hx ⟨se, rfl, hi⟩ hDl
        obtain ⟨n, hn, rfl⟩ := nums_at hx
        have hi' : i < r.length := (List.getElem?_eq_some_iff.mp hn).1
        refine yes_mk ?_
        refine ⟨_, rfl, (n : Int), 0, 99, rfl, ?_⟩
        have e2 : (decide ((0 : Int) ≤ (n : Int)) && decide ((n : Int) ≤ 99)) = decide (n ≤ 99) := by
          rw [decide_eq_true (Int.natCast_nonneg n), Bool.true_and]
          exact decide_eq_decide.mpr (by omega)
        rw [e2]
        refine CE1.mk hDl (small1000 (by rw [bls_len, List.length_map, List.length_take]; omega)) ⟨Same.up se hD, ?_, hi'⟩
        rw [map_take _ hn, bls_snoc]
      · rintro ys H' ⟨se, rfl, _⟩ hDl
        rw [nums_len, List.take_length] at hDl
        refine ⟨D, _, rfl, SqL.of hDl, ?_⟩
        have z := k H' se
        unfold rowB at z
        rw [decide_eq_true hlen, Bool.true_and] at z
        rw [all_map]
        exact z
    · have e : (decide ((c : Int) ≤ ((nums r).length : Int)) && decide (((nums r).length : Int) ≤ (c : Int))) = false := by
        rw [nums_len, Bool.and_eq_false_iff]
        by_cases q : c ≤ r.length
        · exact .inr (decide_eq_false (by omega))
        · exact .inl (decide_eq_false (by omega))
      rw [e]
      refine iteT ?_
      have z := k H (Same.refl _)
      unfold rowB at z
      rw [decide_eq_false hlen, Bool.false_and] at z
      exact z
theorem ok_is_table (T : Txt K mg A) : FnOk P w K mg base CX0 5 A.f_is_table A.d_is_table ["value", "columns"] sp_is_table := by
  have G_is_list := ok_is_list (P := P) (w := w) (base := base) T
  have G_is_row := ok_is_row (P := P) (w := w) (base := base) T
  refine T.F_is_table.ok sc_is_table (fun vs H Q E h => ?_) (fun cdv A' outer s H vs Q E hr h => ?_)
  · obtain ⟨l, c, rs, rfl, _⟩ := h; rfl
  · obtain ⟨l, c, rs, rfl, hc, ⟨ts, hl, htp⟩, k⟩ := h
    refine ⟨_, (pss_cons (ps_if (pt_not (pt_val (pe_call G_is_list (hr.mono (by decide)) rfl T.m_is_list T.F_is_list.kp T.b_is_list .nil pass0 (pa_cons (pv 0) (pa_cons pe_int (pa_cons (pe_glob (v := .int 64) rfl T.g_MOST_ROWS.choose_spec ⟨_, rfl⟩) pa_nil)))))) (pss_one (ps_ret pe_bl)) pss_nil)
      (pss_one (ps_ret (pe_callB (call_allK K rfl) rfl T.z_all bt_all (pa_cons (pe_comp ["value", "columns"] (defScope s_is_table) ["row", "columns"] [none, some 1] ⟨rfl, by decide +kernel, by decide +kernel, by decide +kernel, by decide +kernel, by decide +kernel⟩ rfl (pi_listK K (pv 0)) (fun _ _ _ _ _ => (pg_name (i := 0) (by show List.Nodup (["row", "columns"] : List Str); decide +kernel) rfl (Or.inl rfl) (Or.inr rfl))) (fun _ _ _ _ _ => pts_nil) (fun _ _ _ _ _ => (pe_call G_is_row (hr.mono (by decide)) rfl T.m_is_row T.F_is_row.kp T.b_is_row .nil pass0 (pa_cons (pv 0) (pa_cons (pv 1) pa_nil))))) pa_nil))))), ?_⟩
    have hln : (ts.map V.ref).length = rs.length := by rw [List.length_map]; exact htp.len
    refine ⟨_, rfl, l, ts.map V.ref, 0, 64, rfl, hl, _, rfl, ?_⟩
    by_cases hlen : rs.length ≤ 64
    · have e : (decide ((0 : Int) ≤ ((ts.map V.ref).length : Int)) && decide (((ts.map V.ref).length : Int) ≤ 64)) = true := by
        rw [hln]; simp; omega
      rw [e]
      refine iteF ?_
      refine ⟨_, rfl, l, rfl, ⟨_, SqL.of hl⟩, fun D hD => comp_list (xs := ts.map V.ref) (fun i ys H' => Same H H' ∧ ys = bls ((rs.take i).map (rowB c)) ∧ i ≤ rs.length) ⟨Same.new hD, rfl, Nat.zero_le _⟩ (fun i ys H' _ ⟨e, _⟩ => SqL.of (e _ _ hl)) ?_ ?_⟩
      · rintro i x ys H' hx ⟨se, rfl, hi⟩ hDl
        obtain ⟨t, r, rfl, hp, ht⟩ := (htp.same se).get hx
        have hi' : i < rs.length := (List.getElem?_eq_some_iff.mp hp).1
        refine yes_mk ?_
        refine ⟨_, rfl, _, rfl, t, c, r, rfl, hc, ht, fun H2 s2 => ?_⟩
        refine CE1.mk (s2 _ _ hDl) (small1000 (by rw [bls_len, List.length_map, List.length_take]; omega)) ⟨Same.up (se.trans s2) hD, ?_, hi'⟩
        rw [map_take _ hp, bls_snoc]
      · rintro ys H' ⟨se, rfl, _⟩ hDl
        rw [hln, List.take_length] at hDl
        refine ⟨D, _, rfl, SqL.of hDl, ?_⟩
        have z := k H' se
        unfold tabB at z
        rw [decide_eq_true hlen, Bool.true_and] at z
        rw [all_map]
        exact z
    · have e : (decide ((0 : Int) ≤ ((ts.map V.ref).length : Int)) && decide (((ts.map V.ref).length : Int) ≤ 64)) = false := by
        rw [hln, Bool.and_eq_false_iff]
        exact .inr (decide_eq_false (by omega))
      rw [e]
      refine iteT ?_
      have z := k H (Same.refl _)
      unfold tabB at z
      rw [decide_eq_false hlen, Bool.false_and] at z
      exact z
end
end K07

namespace K07
open PySem L2 TC
def sp_cells : Sp := fun vs H Q _ => ∃ (l : Addr) (r : List Nat) (s : Nat), vs = [.ref l, .int (s : Nat)] ∧ H l = some (.lst (nums r)) ∧ r.length ≤ 6 ∧ s < 64 ∧ ∀ (t : Addr) (H' : Hp), H t = none → Same H H' → H' t = some (.tup (nums (cellsN r s))) → Q (.ref t) H'
section
variable {P : Program} {w : World} {K : PySem.W.Frag} {mg : Str → Option Value} {base : Heap} {A : Adr}
theorem ok_cells (T : Txt K mg A) : FnOk P w K mg base CX0 1 A.f_cells A.d_cells ["row", "some"] sp_cells := by
  refine T.F_cells.ok sc_cells (fun vs H Q E h => ?_) (fun cdv A' outer s H vs Q E hr h => ?_)
  · obtain ⟨l, r, s, rfl, _⟩ := h; rfl
  · obtain ⟨l, r, s, rfl, hl, hr6, hs, k⟩ := h
    refine ⟨_, (pss_one (ps_ret (pe_callTy (call_tupleK K) rfl T.z_tuple bt_tuple (pa_cons (pe_comp ["row", "some"] (defScope s_cells) ["column", "number", "some"] [none, none, some 1] ⟨rfl, by decide +kernel, by decide +kernel, by decide +kernel, by decide +kernel, by decide +kernel⟩ rfl (pi_enumK K rfl T.z_enumerate bt_enumerate (pa_cons (pv 0) pa_nil)) (fun _ _ _ _ _ => pg_tupK K (n := 2) rfl (pgs_cons (pg_name (i := 0) (by show List.Nodup (["column", "number", "some"] : List Str); decide +kernel) rfl (Or.inl rfl) (Or.inr rfl)) (pgs_cons (pg_name (i := 1) (by show List.Nodup (["column", "number", "some"] : List Str); decide +kernel) rfl (Or.inl rfl) (Or.inr rfl)) pgs_nil))) (fun _ _ _ _ _ => pts_one (pt_truthK K (pe_op op_and (pv 2) (pe_op op_shl pe_int (pv 0))))) (fun _ _ _ _ _ => (pv 1))) pa_nil)))), ?_⟩
    refine ⟨_, rfl, l, nums r, rfl, hl, fun D hD => comp_enum (xs := nums r) (fun i ys H' => Same H H' ∧ i ≤ r.length ∧ ys = nums (cellsI r s i)) ⟨Same.new hD, Nat.zero_le _, rfl⟩ (fun i ys H' _ ⟨e, _⟩ => e _ _ hl) ?_ ?_⟩
    · rintro i x ys H' p hx ⟨se, hi, rfl⟩ hDl hp
      obtain ⟨n, hn, rfl⟩ := nums_at hx
      have hi' : i < r.length := (List.getElem?_eq_some_iff.mp hn).1
      have hll : (nums (cellsI r s i)).length ≤ 64 := by
        rw [nums_len]
        exact Nat.le_trans (cellsI_len r s i) (by omega)
      have hDl2 : (upd H' p (.tup [.int (i : Nat), .int (n : Nat)])) D = some (.lst (nums (cellsI r s i))) := by rw [upd_ne (ne_of_none hDl hp)]; exact hDl
      have hg : r.getD i 0 = n := by simp [List.getD, hn]
      refine ⟨_, rfl, _, rfl, 1, (i : Int), rfl, rfl, ⟨Int.natCast_nonneg i, by omega, by decide⟩, _, _, rfl, rfl, _, rfl, ?_⟩
      rw [and_bit hs (by omega)]
      refine ite2 (fun e => ?_) (fun e => ?_)
      · refine ⟨_, rfl, CE2.mk hDl2 (small1000 (by omega)) ⟨Same.up (Same.up se (se.free hp)) hD, hi', ?_⟩⟩
        rw [cellsI_succ, if_pos e, nums_snoc, hg]
      · refine CN2.mk hDl2 ⟨Same.up se (se.free hp), hi', ?_⟩
        rw [cellsI_succ, if_neg e, List.append_nil]
    · rintro ys H' ⟨se, _, rfl⟩ hDl
      rw [nums_len] at hDl
      refine ⟨D, _, rfl, .inl ⟨SqL.of hDl, fun t ht => ?_⟩⟩
      exact k t _ (se.free ht) (Same.up se (se.free ht)) upd_same
end
def keyN (ns : List Nat) : List Key := ns.map fun (n : Nat) => (Sum.inl ((n : Nat) : Int) : Key)
theorem keyN_map : ∀ ns : List Nat, (keyN ns).map kV = nums ns
  | [] => rfl
  | n :: ns => by
    show kV (Sum.inl ((n : Nat) : Int)) :: (keyN ns).map kV = V.int (n : Nat) :: nums ns
    rw [keyN_map ns]; rfl
theorem keyN_inj {a b : List Nat} (h : keyN a = keyN b) : a = b := nums_inj (by rw [← keyN_map, ← keyN_map, h])
def tupD (ns : List Nat) : PyData := .tuple (ns.map fun n => PyData.int (n : Nat))
theorem tupD_dt {H : Hp} {t : Addr} {ns : List Nat} (h : H t = some (.tup (nums ns))) : Dt H (.ref t) (tupD ns) := .tup h (nums_dt ns)
theorem tupD_lay (ns : List Nat) : (tupD ns).canLay0 = true := lay_nums ns
theorem tupD_depth (ns : List Nat) : (tupD ns).depth ≤ 60 := by
  show PyData.depthAll _ + 1 ≤ 60
  have := depth_nums ns
  omega
theorem tupD_eqv (a b : List Nat) : PyData.eqv (tupD a) (tupD b) = decide (a = b) := eqv_numsD a b
def sp_keeps : Sp := fun vs H Q _ => ∃ (l t : Addr) (rs : List (List Nat)) (p : Nat × Nat), vs = [.ref l, .ref t] ∧ TblAt H l rs ∧ rs.length ≤ 64 ∧ (∀ r ∈ rs, r.length ≤ 6) ∧ H t = some (.tup [.int (p.1 : Nat), .int (p.2 : Nat)]) ∧ p.1 < 64 ∧ p.2 < 64 ∧ ∀ H', Same H H' → Q (.bl (decide (Keeps rs p))) H'
section
variable {P : Program} {w : World} {K : PySem.W.Frag} {mg : Str → Option Value} {base : Heap} {A : Adr}
theorem ok_keeps (T : Txt K mg A) : FnOk P w K mg base CX0 3 A.f_keeps A.d_keeps ["table", "rule"] sp_keeps := by
  have G_cells := ok_cells (P := P) (w := w) (base := base) T
  refine T.F_keeps.ok sc_keeps (fun vs H Q E h => ?_) (fun cdv A' outer s H vs Q E hr h => ?_)
  · obtain ⟨l, t, rs, p, rfl, _⟩ := h; rfl
  · obtain ⟨l, t, rs, p, rfl, ⟨ts, hl, htp⟩, hlen, hr6, ht, hp1, hp2, k⟩ := h
    refine ⟨_, (pss_cons (ps_set (i := 2) sc_keeps.nd rfl (Or.inl rfl) pe_dnewT)
      (pss_cons (ps_for PassesOwn.never rfl (pi_listK K (pv 0)) (pg_name (i := 3) sc_keeps.nd rfl (Or.inl rfl))
      (pss_cons (ps_set (i := 4) sc_keeps.nd rfl (Or.inl rfl) (pe_call G_cells (hr.mono (by decide)) rfl T.m_cells T.F_cells.kp T.b_cells .nil pass0 (pa_cons (pv 3) (pa_cons (pe_ix (ix_tupK K) (pv 1) pe_int (fun _ _ => rfl)) pa_nil))))
      (pss_one (ps_if (pt_cmpR (op_neD hr.units) (pe_dsetdef (hu_of hr) (pv 2) (pe_call G_cells (hr.mono (by decide)) rfl T.m_cells T.F_cells.kp T.b_cells .nil pass0 (pa_cons (pv 3) (pa_cons (pe_ix (ix_tupK K) (pv 1) pe_int (fun _ _ => rfl)) pa_nil))) (pv 4) ⟨rfl, rfl, rfl, rfl⟩) (pv 4) (nomark _)) (pss_one (ps_ret pe_bl)) pss_nil))))
      (pss_one (ps_ret pe_bl)))), ?_⟩
    refine fun D hD => ?_
    have hln : (ts.map V.ref).length = rs.length := by rw [List.length_map]; exact htp.len
    refine ⟨_, rfl, l, rfl, ⟨_, SqL.of (Same.new hD _ _ hl)⟩, for_list (K := K) (a := l) (xs := ts.map V.ref) (fun i σ' H' => Same H H' ∧ (∃ rv gv, σ' = [some (.ref l), some (.ref t), some (.ref D), rv, gv]) ∧ ∃ kvs, H' D = some (.dT kvs) ∧ kvs.length ≤ i ∧
        (∀ r ∈ rs.take i, ∃ v, valV kvs (keyN (cellsN r p.1)) = some (.ref v) ∧ H' v = some (.tup (nums (cellsN r p.2)))) ∧
        (∀ q v, valV kvs q = some v → ∃ r ∈ rs.take i, q = keyN (cellsN r p.1) ∧ ∃ tv, v = .ref tv ∧ H' tv = some (.tup (nums (cellsN r p.2)))))
      ⟨Same.new hD, ⟨none, none, rfl⟩, [], upd_same, Nat.le_refl _, fun r hr' => by simp at hr', fun q v h => by cases h⟩ (fun i σ' H' _ ⟨e, _⟩ => SqL.of (e _ _ hl)) ?_ ?_⟩
    · rintro i x σ' H' hx ⟨se, ⟨rv, gv, rfl⟩, kvs, hDd, hkl, i1, i2⟩
      obtain ⟨tr, r, rfl, hri, hrow⟩ := (htp.same se).get hx
      have hrm : r ∈ rs := List.mem_of_getElem? hri
      have hi' : i < rs.length := (List.getElem?_eq_some_iff.mp hri).1
      refine ⟨_, rfl, _, rfl, t, _, 1, _, rfl, rfl, SqT.of (se _ _ ht), rfl, tr, r, p.2, rfl, hrow, hr6 r hrm, hp2, fun t2 H2 f2 s2 c2 => ?_⟩
      have hD2 := s2 _ _ hDd
      refine ⟨_, rfl, D, rfl, .inr ⟨kvs, .inl hD2⟩, _, rfl, _, rfl, t, _, 0, _, rfl, rfl, SqT.of (s2 _ _ (se _ _ ht)), rfl, tr, r, p.1, rfl, s2 _ _ hrow, hr6 r hrm, hp1, fun t1 H3 f3 s3 c3 => ?_⟩
      have hD3 := s3 _ _ hD2
      have c2' := s3 _ _ c2
      have s13 : Same H' H3 := s2.trans s3
      refine ⟨_, rfl, kvs, keyN (cellsN r p.1), t1, hD3, rfl, by rw [keyN_map]; exact c3, small1000 (by omega), fun v hv => ?_, fun hv => ?_⟩
      · obtain ⟨r0, hr0, ek, tv, rfl, htv⟩ := i2 _ _ hv
        have htv3 := s13 _ _ htv
        refine ⟨_, rfl, tupD (cellsN r0 p.2), tupD (cellsN r p.2), tupD_dt htv3, tupD_dt c2', tupD_lay _, tupD_lay _, tupD_depth _, _, rfl, ?_⟩
        rw [if_pos rfl, tupD_eqv]
        refine ite2 (fun e => ?_) (fun e => ?_)
        · have hne : ¬ cellsN r0 p.2 = cellsN r p.2 := by simpa using e
          have hk : decide (Keeps rs p) = false := decide_eq_false fun z => hne (z r0 (List.mem_of_mem_take hr0) r hrm (keyN_inj ek).symm)
          have z := k H3 (se.trans s13)
          rw [hk] at z
          exact z
        · have he : cellsN r0 p.2 = cellsN r p.2 := by simpa using e
          refine ⟨se.trans s13, ⟨_, _, rfl⟩, kvs, hD3, by omega, fun a ha => ?_, fun q v hq => ?_⟩
          · rcases (take_mem hri).mp ha with ha | rfl
            · obtain ⟨v, h1, h2⟩ := i1 a ha
              exact ⟨v, h1, s13 _ _ h2⟩
            · exact ⟨tv, hv, by rw [← he]; exact htv3⟩
          · obtain ⟨a, ha, h1, tv', h2, h3⟩ := i2 q v hq
            exact ⟨a, (take_mem hri).mpr (.inl ha), h1, tv', h2, s13 _ _ h3⟩
      · have nD : ∀ v xs, H3 v = some (.tup xs) → v ≠ D := fun v xs h => ne_of h hD3 (by intro z; cases z)
        have c2u : (upd H3 D (.dT (putK kvs (keyN (cellsN r p.1)) (.ref t2)))) t2 = some (.tup (nums (cellsN r p.2))) := by rw [upd_ne (nD _ _ c2')]; exact c2'
        refine ⟨_, rfl, tupD (cellsN r p.2), tupD (cellsN r p.2), tupD_dt c2u, tupD_dt c2u, tupD_lay _, tupD_lay _, tupD_depth _, _, rfl, ?_⟩
        rw [if_pos rfl, tupD_eqv, decide_eq_true rfl]
        refine iteF ?_
        refine ⟨Same.up (se.trans s13) hD, ⟨_, _, rfl⟩, _, upd_same, by have := length_putK kvs (keyN (cellsN r p.1)) (.ref t2); omega, fun a ha => ?_, fun q v hq => ?_⟩
        · rw [valV_put]
          rcases (take_mem hri).mp ha with ha | rfl
          · obtain ⟨v, h1, h2⟩ := i1 a ha
            have h2' := s13 _ _ h2
            refine ⟨v, ?_, by rw [upd_ne (nD _ _ h2')]; exact h2'⟩
            rw [if_neg fun z => by rw [z, hv] at h1; cases h1]
            exact h1
          · exact ⟨t2, if_pos rfl, c2u⟩
        · rw [valV_put] at hq
          by_cases hqe : q = keyN (cellsN r p.1)
          · rw [if_pos hqe] at hq
            exact ⟨r, (take_mem hri).mpr (.inr rfl), hqe, t2, (Option.some.inj hq).symm, c2u⟩
          · rw [if_neg hqe] at hq
            obtain ⟨a, ha, h1, tv', h2, h3⟩ := i2 q v hq
            have h3' := s13 _ _ h3
            exact ⟨a, (take_mem hri).mpr (.inl ha), h1, tv', h2, by rw [upd_ne (nD _ _ h3')]; exact h3'⟩
    · rintro σ' H' ⟨se, ⟨rv, gv, rfl⟩, kvs, hDd, hkl, i1, i2⟩
      rw [hln, List.take_length] at i1
      have hk : decide (Keeps rs p) = true := decide_eq_true fun a ha b hb e => by
        obtain ⟨v, h1, h2⟩ := i1 a ha
        obtain ⟨u, h3, h4⟩ := i1 b hb
        rw [e, h3] at h1
        cases h1
        rw [h2] at h4
        injection h4 with h4
        injection h4 with h4
        exact nums_inj h4
      have z := k H' se
      rw [hk] at z
      exact z
end
def sp_keeps_all : Sp := fun vs H Q _ => ∃ (l m : Addr) (rs : List (List Nat)) (ps : List (Nat × Nat)), vs = [.ref l, .ref m] ∧ TblAt H l rs ∧ rs.length ≤ 64 ∧ (∀ r ∈ rs, r.length ≤ 6) ∧ PrsAt H m ps ∧ ps.length ≤ 64 ∧ (∀ p ∈ ps, p.1 < 64 ∧ p.2 < 64) ∧ ∀ H', Same H H' → Q (.bl (ps.all fun p => decide (Keeps rs p))) H'
section
variable {P : Program} {w : World} {K : PySem.W.Frag} {mg : Str → Option Value} {base : Heap} {A : Adr}
theorem ok_keeps_all (T : Txt K mg A) : FnOk P w K mg base CX0 5 A.f_keeps_all A.d_keeps_all ["table", "pairs"] sp_keeps_all := by
  have G_keeps := ok_keeps (P := P) (w := w) (base := base) T
  refine T.F_keeps_all.ok sc_keeps_all (fun vs H Q E h => ?_) (fun cdv A' outer s H vs Q E hr h => ?_)
  · obtain ⟨l, m, rs, ps, rfl, _⟩ := h; rfl
  · obtain ⟨l, m, rs, ps, rfl, hT, hlen, hr6, ⟨ts, hm, htp⟩, hpl, hps, k⟩ := h
    refine ⟨_, (pss_one (ps_ret (pe_callB (call_allK K rfl) rfl T.z_all bt_all (pa_cons (pe_comp ["table", "pairs"] (defScope s_keeps_all) ["rule", "table"] [none, some 0] ⟨rfl, by decide +kernel, by decide +kernel, by decide +kernel, by decide +kernel, by decide +kernel⟩ rfl (pi_listK K (pv 1)) (fun _ _ _ _ _ => (pg_name (i := 0) (by show List.Nodup (["rule", "table"] : List Str); decide +kernel) rfl (Or.inl rfl) (Or.inr rfl))) (fun _ _ _ _ _ => pts_nil) (fun _ _ _ _ _ => (pe_call G_keeps (hr.mono (by decide)) rfl T.m_keeps T.F_keeps.kp T.b_keeps .nil pass0 (pa_cons (pv 1) (pa_cons (pv 0) pa_nil))))) pa_nil)))), ?_⟩
    have hln : (ts.map V.ref).length = ps.length := by rw [List.length_map]; exact htp.len
    refine ⟨_, rfl, m, rfl, ⟨_, SqL.of hm⟩, fun D hD => comp_list (xs := ts.map V.ref) (fun i ys H' => Same H H' ∧ ys = bls ((ps.take i).map fun p => decide (Keeps rs p)) ∧ i ≤ ps.length) ⟨Same.new hD, rfl, Nat.zero_le _⟩ (fun i ys H' _ ⟨e, _⟩ => SqL.of (e _ _ hm)) ?_ ?_⟩
    · rintro i x ys H' hx ⟨se, rfl, hi⟩ hDl
      obtain ⟨t, p, rfl, hp, ht⟩ := (htp.same se).get hx
      have hi' : i < ps.length := (List.getElem?_eq_some_iff.mp hp).1
      have hb := hps p (List.mem_of_getElem? hp)
      refine yes_mk ?_
      refine ⟨_, rfl, _, rfl, l, t, rs, p, rfl, hT.same se, hlen, hr6, ht, hb.1, hb.2, fun H2 s2 => ?_⟩
      refine CE1.mk (s2 _ _ hDl) (small1000 (by rw [bls_len, List.length_map, List.length_take]; omega)) ⟨Same.up (se.trans s2) hD, ?_, hi'⟩
      rw [map_take _ hp, bls_snoc]
    · rintro ys H' ⟨se, rfl, _⟩ hDl
      rw [hln, List.take_length] at hDl
      refine ⟨D, _, rfl, SqL.of hDl, ?_⟩
      rw [all_map]
      exact k H' se
end
def sp_row_of : Sp := fun vs H Q _ => ∃ (c s n : Nat), vs = [.int (c : Nat), .int (s : Nat), .int (n : Nat)] ∧ c ≤ 6 ∧ s < 64 ∧ ∀ (d : Addr) (H' : Hp), H d = none → Same H H' → H' d = some (.lst (nums (rowOf c s n))) → Q (.ref d) H'
section
variable {P : Program} {w : World} {K : PySem.W.Frag} {mg : Str → Option Value} {base : Heap} {A : Adr}
theorem ok_row_of (T : Txt K mg A) : FnOk P w K mg base CX0 1 A.f_row_of A.d_row_of ["columns", "some", "number"] sp_row_of := by
  refine T.F_row_of.ok sc_row_of (fun vs H Q E h => ?_) (fun cdv A' outer s H vs Q E hr h => ?_)
  · obtain ⟨c, s, n, rfl, _⟩ := h; rfl
  · obtain ⟨c, s, n, rfl, hc, hs, k⟩ := h
    refine ⟨_, (pss_one (ps_ret (pe_comp ["columns", "some", "number"] (defScope s_row_of) ["column", "some", "number"] [none, some 1, some 2] ⟨rfl, by decide +kernel, by decide +kernel, by decide +kernel, by decide +kernel, by decide +kernel⟩ rfl (pi_range1 rfl T.z_range (pa_cons (pv 0) pa_nil)) (fun _ _ _ _ _ => (pg_name (i := 0) (by show List.Nodup (["column", "some", "number"] : List Str); decide +kernel) rfl (Or.inl rfl) (Or.inr rfl))) (fun _ _ _ _ _ => pts_nil) (fun _ _ _ _ _ => (pe_ifExp (pt_truthK K (pe_op op_and (pv 1) (pe_op op_shl pe_int (pv 0)))) pe_int (pv 2)))))), ?_⟩
    refine ⟨_, rfl, (c : Int), rfl, by omega, by omega, fun D hD => ?_⟩
    rw [Int.toNat_natCast]
    refine comp_range (lo := 0) (n := c) (fun i ys H' => Same H H' ∧ ys = nums ((List.range i).map fun j => if s.testBit j = true then 0 else n)) ⟨Same.new hD, rfl⟩ ?_ ?_
    · rintro i ys H' hi ⟨se, rfl⟩ hDl
      rw [Int.zero_add]
      have hll : (nums ((List.range i).map fun j => if s.testBit j = true then 0 else n)).length ≤ 64 := by
        rw [nums_len, List.length_map, List.length_range]; omega
      have es : (List.range (i + 1)).map (fun j => if s.testBit j = true then 0 else n) = (List.range i).map (fun j => if s.testBit j = true then 0 else n) ++ [if s.testBit i = true then 0 else n] := by
        rw [List.range_succ, List.map_append]; rfl
      refine yes_mk ?_
      refine ⟨_, rfl, _, rfl, 1, (i : Int), rfl, rfl, ⟨Int.natCast_nonneg i, by omega, by decide⟩, _, _, rfl, rfl, _, rfl, ?_⟩
      rw [and_bit hs (by omega)]
      refine ite2 (fun e => ?_) (fun e => ?_)
      · refine CE1.mk hDl (small1000 (by omega)) ⟨Same.up se hD, ?_⟩
        rw [es, if_pos e, nums_snoc]; rfl
      · refine ⟨_, rfl, CE1.mk hDl (small1000 (by omega)) ⟨Same.up se hD, ?_⟩⟩
        rw [es, if_neg e, nums_snoc]
    · rintro ys H' ⟨se, rfl⟩ hDl
      exact k D H' hD se hDl
end
theorem Rws.upd {H : Hp} {a : Addr} {o : HO} : ∀ {ts : List Addr} {rs : List (List Nat)}, Rws H ts rs → a ∉ ts → Rws (upd H a o) ts rs
  | [], [], _, _ => trivial
  | _ :: _, _ :: _, ⟨h, t⟩, n => ⟨by rw [upd_ne (fun z => n (by rw [z]; exact List.mem_cons_self))]; exact h, Rws.upd t fun z => n (List.mem_cons_of_mem _ z)⟩
  | [], _ :: _, h, _ => h.elim
  | _ :: _, [], h, _ => h.elim
/-- rows stand anew at a list -/
def NewRows (H0 H : Hp) (l : Addr) (rs : List (List Nat)) : Prop := ∃ ts : List Addr, H l = some (.lst (ts.map V.ref)) ∧ Rws H ts rs ∧ (∀ t ∈ ts, H0 t = none ∧ t ≠ l) ∧ ts.Nodup
def sp_are_parts : Sp := fun vs H Q _ => ∃ (l : Addr) (c : Nat) (ps : List Nat), vs = [.ref l, .int (c : Nat)] ∧ c ≤ 6 ∧ H l = some (.lst (nums ps)) ∧ 1 ≤ ps.length ∧ ps.length ≤ 64 ∧ (∀ p ∈ ps, 1 ≤ p ∧ p < 2 ^ c) ∧ ps.foldl (· ||| ·) 0 = 2 ^ c - 1 ∧ Q (.bl true) H
section
variable {P : Program} {w : World} {K : PySem.W.Frag} {mg : Str → Option Value} {base : Heap} {A : Adr}
theorem ok_are_parts (T : Txt K mg A) : FnOk P w K mg base CX0 3 A.f_are_parts A.d_are_parts ["value", "columns"] sp_are_parts := by
  have G_is_list := ok_is_list (P := P) (w := w) (base := base) T
  have G_is_number := ok_is_number (P := P) (w := w) (base := base) T
  have G_all_columns := ok_all_columns (P := P) (w := w) (base := base) T
  refine T.F_are_parts.ok sc_are_parts (fun vs H Q E h => ?_) (fun cdv A' outer s H vs Q E hr h => ?_)
  · obtain ⟨l, c, ps, rfl, _⟩ := h; rfl
  · obtain ⟨l, c, ps, rfl, hc, hl, hl1, hl64, hps, hall, k⟩ := h
    refine ⟨_, (pss_cons (ps_if (pt_not (pt_val (pe_call G_is_list (hr.mono (by decide)) rfl T.m_is_list T.F_is_list.kp T.b_is_list .nil pass0 (pa_cons (pv 0) (pa_cons pe_int (pa_cons (pe_glob (v := .int 64) rfl T.g_MOST_PARTS.choose_spec ⟨_, rfl⟩) pa_nil)))))) (pss_one (ps_ret pe_bl)) pss_nil)
      (pss_cons (ps_set (i := 2) sc_are_parts.nd rfl (Or.inl rfl) pe_int)
      (pss_cons (ps_for PassesOwn.never rfl (pi_listK K (pv 0)) (pg_name (i := 3) sc_are_parts.nd rfl (Or.inl rfl))
      (pss_cons (ps_if (pt_not (pt_val (pe_call G_is_number (hr.mono (by decide)) rfl T.m_is_number T.F_is_number.kp T.b_is_number .nil pass0 (pa_cons (pv 3) (pa_cons pe_int (pa_cons (pe_call G_all_columns (hr.mono (by decide)) rfl T.m_all_columns T.F_all_columns.kp T.b_all_columns .nil pass0 (pa_cons (pv 1) pa_nil)) pa_nil)))))) (pss_one (ps_ret pe_bl)) pss_nil)
      (pss_one (ps_set (i := 2) sc_are_parts.nd rfl (Or.inl rfl) (pe_op op_or (pv 2) (pv 3))))))
      (pss_one (ps_ret (pe_cmpR op_eq (pv 2) (pe_call G_all_columns (hr.mono (by decide)) rfl T.m_all_columns T.F_all_columns.kp T.b_all_columns .nil pass0 (pa_cons (pv 1) pa_nil)) (nomark _))))))), ?_⟩
    refine ⟨_, rfl, l, nums ps, 1, 64, rfl, hl, _, rfl, ?_⟩
    have e : (decide ((1 : Int) ≤ ((nums ps).length : Int)) && decide (((nums ps).length : Int) ≤ 64)) = true := by
      rw [nums_len]; simp; omega
    rw [e]
    refine iteF ?_
    refine ⟨_, rfl, l, rfl, ⟨_, SqL.of hl⟩, for_list (K := K) (a := l) (xs := nums ps) (fun i σ' H' => H' = H ∧ ∃ pv, σ' = [some (.ref l), some (.int (c : Nat)), some (.int ((ps.take i).foldl (· ||| ·) 0 : Nat)), pv])
      ⟨rfl, none, rfl⟩ (fun i σ' H' _ ⟨e, _⟩ => by subst e; exact SqL.of hl) ?_ ?_⟩
    · rintro i x σ' H' hx ⟨rfl, pv, rfl⟩
      obtain ⟨n, hn, rfl⟩ := nums_at hx
      obtain ⟨b1, b2⟩ := hps n (List.mem_of_getElem? hn)
      refine ⟨_, rfl, _, rfl, c, rfl, hc, (n : Int), 1, _, rfl, _, rfl, ?_⟩
      have e2 : (decide ((1 : Int) ≤ (n : Int)) && decide ((n : Int) ≤ ((2 ^ c : Nat) : Int) - 1)) = true := by
        generalize 2 ^ c = N at b2 ⊢
        simp; omega
      rw [e2]
      refine iteF ⟨_, rfl, _, rfl, _, _, rfl, rfl, rfl, some (.int (n : Nat)), ?_⟩
      have et : (ps.take (i + 1)).foldl (· ||| ·) 0 = (ps.take i).foldl (· ||| ·) 0 ||| n := by rw [List.take_succ, hn, List.foldl_append]; rfl
      rw [et, ← or_nat]; rfl
    · rintro σ' H' ⟨rfl, pv, rfl⟩
      rw [nums_len, List.take_length, hall]
      refine ⟨_, rfl, _, rfl, c, rfl, hc, rfl, ?_⟩
      have e3 : ((2 ^ c - 1 : Nat) : Int) = ((2 ^ c : Nat) : Int) - 1 := by
        have : 0 < 2 ^ c := Nat.two_pow_pos c
        generalize 2 ^ c = N at this ⊢
        omega
      rw [e3, decide_eq_true rfl]
      exact k
end
def sp_need_parts : Sp := fun vs H Q _ => ∃ (l : Addr) (c : Nat) (ps : List Nat), vs = [.int (c : Nat), .ref l] ∧ c ≤ 6 ∧ H l = some (.lst (nums ps)) ∧ 1 ≤ ps.length ∧ ps.length ≤ 64 ∧ (∀ p ∈ ps, 1 ≤ p ∧ p < 2 ^ c) ∧ ps.foldl (· ||| ·) 0 = 2 ^ c - 1 ∧ Q .non H
section
variable {P : Program} {w : World} {K : PySem.W.Frag} {mg : Str → Option Value} {base : Heap} {A : Adr}
theorem ok_need_parts (T : Txt K mg A) : FnOk P w K mg base CX0 5 A.f_need_parts A.d_need_parts ["columns", "parts"] sp_need_parts := by
  have G_are_parts := ok_are_parts (P := P) (w := w) (base := base) T
  refine T.F_need_parts.ok sc_need_parts (fun vs H Q E h => ?_) (fun cdv A' outer s H vs Q E hr h => ?_)
  · obtain ⟨l, c, ps, rfl, _⟩ := h; rfl
  · obtain ⟨l, c, ps, rfl, hc, hl, h1, h64, hps, hall, k⟩ := h
    refine ⟨_, (pss_one (ps_if (pt_not (pt_val (pe_call G_are_parts (hr.mono (by decide)) rfl T.m_are_parts T.F_are_parts.kp T.b_are_parts .nil pass0 (pa_cons (pv 1) (pa_cons (pv 0) pa_nil))))) (pss_one ps_never) pss_nil)), ?_⟩
    exact ⟨_, rfl, _, rfl, l, c, ps, rfl, hc, hl, h1, h64, hps, hall, _, rfl, iteF k⟩
end
def sp_sheet_of : Sp := fun vs H Q _ => ∃ (l : Addr) (c : Nat) (pts : List Nat), vs = [.int (c : Nat), .ref l] ∧ H l = some (.lst (nums pts)) ∧ c ≤ 6 ∧ pts.length ≤ 64 ∧ (∀ p ∈ pts, p < 64) ∧ ∀ (d : Addr) (H' : Hp), H d = none → Same H H' → NewRows H H' d (sheetN c pts) → Q (.ref d) H'
theorem Rws.there {H : Hp} {t : Addr} : ∀ {ts : List Addr} {rs : List (List Nat)}, Rws H ts rs → t ∈ ts → ∃ xs, H t = some (.lst xs)
  | [], [], _, h => nomatch h
  | u :: ts, r :: rs, ⟨h, q⟩, m => by
    rcases List.mem_cons.mp m with rfl | m
    · exact ⟨_, h⟩
    · exact Rws.there q m
  | [], _ :: _, h, _ => h.elim
  | _ :: _, [], h, _ => h.elim
section
variable {P : Program} {w : World} {K : PySem.W.Frag} {mg : Str → Option Value} {base : Heap} {A : Adr}
theorem ok_sheet_of (T : Txt K mg A) : FnOk P w K mg base CX0 3 A.f_sheet_of A.d_sheet_of ["columns", "parts"] sp_sheet_of := by
  have G_row_of := ok_row_of (P := P) (w := w) (base := base) T
  refine T.F_sheet_of.ok sc_sheet_of (fun vs H Q E h => ?_) (fun cdv A' outer s H vs Q E hr h => ?_)
  · obtain ⟨l, c, pts, rfl, _⟩ := h; rfl
  · obtain ⟨l, c, pts, rfl, hl, hc6, hlen, hps, k⟩ := h
    refine ⟨_, (pss_one (ps_ret (pe_comp ["columns", "parts"] (defScope s_sheet_of) ["place", "part", "columns"] [none, none, some 0] ⟨rfl, by decide +kernel, by decide +kernel, by decide +kernel, by decide +kernel, by decide +kernel⟩ rfl (pi_enum1K K rfl T.z_enumerate bt_enumerate (pa_cons (pv 1) pa_nil) pe_int) (fun _ _ _ _ _ => pg_tupK K (n := 2) rfl (pgs_cons (pg_name (i := 0) (by show List.Nodup (["place", "part", "columns"] : List Str); decide +kernel) rfl (Or.inl rfl) (Or.inr rfl)) (pgs_cons (pg_name (i := 1) (by show List.Nodup (["place", "part", "columns"] : List Str); decide +kernel) rfl (Or.inl rfl) (Or.inr rfl)) pgs_nil))) (fun _ _ _ _ _ => pts_nil) (fun _ _ _ _ _ => (pe_call G_row_of (hr.mono (by decide)) rfl T.m_row_of T.F_row_of.kp T.b_row_of .nil pass0 (pa_cons (pv 2) (pa_cons (pv 1) (pa_cons (pv 0) pa_nil)))))))), ?_⟩
    refine ⟨_, rfl, l, nums pts, rfl, hl, fun D hD => comp_enum1 (xs := nums pts) (fun i ys H' => Same H H' ∧ i ≤ pts.length ∧ ∃ ts : List Addr, ys = ts.map V.ref ∧ Rws H' ts ((List.range i).map fun j => rowOf c (pts.getD j 0) (j + 1)) ∧ (∀ t ∈ ts, H t = none ∧ t ≠ D) ∧ ts.Nodup) ⟨Same.new hD, Nat.zero_le _, [], rfl, trivial, (fun _ h => nomatch h), List.nodup_nil⟩ (fun i ys H' _ ⟨e, _⟩ => e _ _ hl) ?_ ?_⟩
    · rintro i x ys H' q hx ⟨se, hi, ts, rfl, hR, hn, hnd⟩ hDl hq
      obtain ⟨n, hn', rfl⟩ := nums_at hx
      have hi' : i < pts.length := (List.getElem?_eq_some_iff.mp hn').1
      have hg : pts.getD i 0 = n := by simp [List.getD, hn']
      have sq : Same H' (upd H' q (.tup [.int ((i + 1 : Nat) : Int), .int (n : Nat)])) := Same.new hq
      have hD3 := sq _ _ hDl
      generalize upd H' q (.tup [.int ((i + 1 : Nat) : Int), .int (n : Nat)]) = H3 at sq hD3 ⊢
      have hln : ts.length = i := by rw [hR.len, List.length_map, List.length_range]
      refine yes_mk ?_
      refine ⟨_, rfl, _, rfl, _, rfl, c, n, i + 1, rfl, hc6, hps n (List.mem_of_getElem? hn'), fun d H4 hd s4 hrow => ?_⟩
      have hD4 := s4 _ _ hD3
      have ndD : d ≠ D := fun z => by rw [z, hD3] at hd; cases hd
      have hR4 := (hR.same sq).same s4
      have nDts : D ∉ ts := fun z => (hn D z).2 rfl
      have ndts : d ∉ ts := fun z => by
        obtain ⟨xs, hxs⟩ := (hR.same sq).there z
        rw [hxs] at hd
        cases hd
      refine CE2.mk hD4 (small1000 (by rw [List.length_map]; omega)) ⟨Same.up (se.trans (sq.trans s4)) hD, hi', ts ++ [d], by rw [List.map_append]; rfl, ?_, fun t ht => ?_, ?_⟩
      · rw [List.range_succ, List.map_append, List.map_singleton, hg]
        exact Rws.snoc (by rw [L2.upd_ne ndD]; exact hrow) (hR4.upd nDts)
      · rcases List.mem_append.mp ht with ht | ht
        · exact hn t ht
        · have e : t = d := by simpa using ht
          subst e
          exact ⟨(se.trans sq).free hd, ndD⟩
      · exact List.nodup_append.mpr ⟨hnd, by simp, fun a ha b hb z => by
          have e : b = d := by simpa using hb
          exact ndts (by rw [← e, ← z]; exact ha)⟩
    · rintro ys H' ⟨se, _, ts, rfl, hR, hn, hnd⟩ hDl
      rw [nums_len] at hR
      exact k D H' hD se ⟨ts, hDl, hR, hn, hnd⟩
end
def sp_is_place : Sp := fun vs H Q _ => ∃ (v : Nat) (l : Addr) (xs : List V), vs = [.int (v : Nat), .ref l] ∧ H l = some (.lst xs) ∧ Q (.bl (decide (v < xs.length))) H
section
variable {P : Program} {w : World} {K : PySem.W.Frag} {mg : Str → Option Value} {base : Heap} {A : Adr}
theorem ok_is_place (T : Txt K mg A) : FnOk P w K mg base CX0 3 A.f_is_place A.d_is_place ["value", "things"] sp_is_place := by
  have G_is_number := ok_is_number (P := P) (w := w) (base := base) T
  refine T.F_is_place.ok sc_is_place (fun vs H Q E h => ?_) (fun cdv A' outer s H vs Q E hr h => ?_)
  · obtain ⟨v, l, xs, rfl, _⟩ := h; rfl
  · obtain ⟨v, l, xs, rfl, hl, k⟩ := h
    refine ⟨_, (pss_one (ps_ret (pe_call G_is_number (hr.mono (by decide)) rfl T.m_is_number T.F_is_number.kp T.b_is_number .nil pass0 (pa_cons (pv 0) (pa_cons pe_int (pa_cons (pe_op op_sub (pe_callB (call_lenK K) rfl T.z_len bt_len (pa_cons (pv 1) pa_nil)) pe_int) pa_nil)))))), ?_⟩
    refine ⟨_, rfl, _, rfl, l, xs, rfl, .inl (SqL.of hl), (xs.length : Int), 1, rfl, rfl, (v : Int), 0, _, rfl, ?_⟩
    have e : (decide ((0 : Int) ≤ (v : Int)) && decide ((v : Int) ≤ (xs.length : Int) - 1)) = decide (v < xs.length) := by
      rw [decide_eq_true (Int.natCast_nonneg v), Bool.true_and]
      exact decide_eq_decide.mpr (by omega)
    rw [e]
    exact k
end
end K07

namespace K07
open PySem L2 TC
/-! ### steps: triples -/
def trip (q : Nat × Nat × Nat) : List V := [.int (q.1 : Nat), .int (q.2.1 : Nat), .int (q.2.2 : Nat)]
def Trs (H : Hp) : List Addr → List (Nat × Nat × Nat) → Prop
  | [], [] => True
  | t :: ts, q :: L => H t = some (.tup (trip q)) ∧ Trs H ts L
  | _, _ => False
theorem Trs.same {H H' : Hp} (e : Same H H') : ∀ {ts : List Addr} {L : List (Nat × Nat × Nat)}, Trs H ts L → Trs H' ts L
  | [], [], _ => trivial
  | _ :: _, _ :: _, ⟨h, t⟩ => ⟨e _ _ h, Trs.same e t⟩
  | [], _ :: _, h => h.elim
  | _ :: _, [], h => h.elim
theorem Trs.len {H : Hp} : ∀ {ts : List Addr} {L : List (Nat × Nat × Nat)}, Trs H ts L → ts.length = L.length
  | [], [], _ => rfl
  | _ :: _, _ :: _, ⟨_, t⟩ => congrArg (· + 1) (Trs.len t)
  | [], _ :: _, h => h.elim
  | _ :: _, [], h => h.elim
theorem Trs.get {H : Hp} : ∀ {ts : List Addr} {L : List (Nat × Nat × Nat)} {i : Nat} {v : V}, Trs H ts L → (ts.map V.ref)[i]? = some v → ∃ t q, v = .ref t ∧ L[i]? = some q ∧ H t = some (.tup (trip q))
  | [], [], i, v, _, h => by simp at h
  | t :: _, p :: _, 0, v, ⟨h, _⟩, e => ⟨t, p, by simpa using e.symm, by simp, h⟩
  | _ :: _, _ :: _, i + 1, v, ⟨_, t⟩, e => by
    obtain ⟨a, b, h1, h2, h3⟩ := Trs.get (i := i) t (by simpa using e)
    exact ⟨a, b, h1, by simpa using h2, h3⟩
  | [], _ :: _, _, _, h, _ => h.elim
  | _ :: _, [], _, _, h, _ => h.elim
theorem Trs.snoc {H : Hp} {t : Addr} {q : Nat × Nat × Nat} (e : H t = some (.tup (trip q))) : ∀ {ts : List Addr} {L : List (Nat × Nat × Nat)}, Trs H ts L → Trs H (ts ++ [t]) (L ++ [q])
  | [], [], _ => ⟨e, trivial⟩
  | _ :: _, _ :: _, ⟨h, r⟩ => ⟨h, Trs.snoc e r⟩
  | [], _ :: _, h => h.elim
  | _ :: _, [], h => h.elim
theorem Trs.upd {H : Hp} {a : Addr} {xs : List V} {o : HO} (ha : H a = some (.lst xs)) : ∀ {ts : List Addr} {L : List (Nat × Nat × Nat)}, Trs H ts L → Trs (upd H a o) ts L
  | [], [], _ => trivial
  | _ :: _, _ :: _, ⟨h, t⟩ => ⟨by rw [upd_ne (ne_of h ha (by intro z; cases z))]; exact h, Trs.upd ha t⟩
  | [], _ :: _, h => h.elim
  | _ :: _, [], h => h.elim
def TrsAt (H : Hp) (l : Addr) (L : List (Nat × Nat × Nat)) : Prop := ∃ ts : List Addr, H l = some (.lst (ts.map V.ref)) ∧ Trs H ts L
theorem TrsAt.same {H H' : Hp} (e : Same H H') {l : Addr} {L : List (Nat × Nat × Nat)} : TrsAt H l L → TrsAt H' l L := fun ⟨ts, h, t⟩ => ⟨ts, e _ _ h, t.same e⟩
/-- whether a step can be done, and what it does -/
def okS (ps : List (Nat × Nat)) (S : List (List Nat)) (q : Nat × Nat × Nat) : Bool := decide (q.1 < ps.length) && (decide (q.2.1 < S.length) && (decide (q.2.2 < S.length) && decide (cellsN (S.getD q.2.1 []) (ps.getD q.1 (0, 0)).1 = cellsN (S.getD q.2.2 []) (ps.getD q.1 (0, 0)).1)))
def doS (c : Nat) (ps : List (Nat × Nat)) (S : List (List Nat)) (q : Nat × Nat × Nat) : List (List Nat) := stepS c (ps.getD q.1 (0, 0)).2 q.2.1 q.2.2 S
def runS (c : Nat) (ps : List (Nat × Nat)) : List (Nat × Nat × Nat) → List (List Nat) → Option (List (List Nat))
  | [], S => some S
  | q :: L, S => if okS ps S q = true then runS c ps L (doS c ps S q) else none
theorem runS_append (c : Nat) (ps : List (Nat × Nat)) : ∀ (A B : List (Nat × Nat × Nat)) (S : List (List Nat)), runS c ps (A ++ B) S = (runS c ps A S).bind (runS c ps B)
  | [], _, _ => rfl
  | q :: A, B, S => by
    show (if okS ps S q = true then runS c ps (A ++ B) (doS c ps S q) else none) = (if okS ps S q = true then runS c ps A (doS c ps S q) else none).bind _
    by_cases h : okS ps S q = true
    · rw [if_pos h, if_pos h]; exact runS_append c ps A B _
    · rw [if_neg h, if_neg h]; rfl
theorem runS_one {c : Nat} {ps : List (Nat × Nat)} {S : List (List Nat)} {q : Nat × Nat × Nat} (h : okS ps S q = true) : runS c ps [q] S = some (doS c ps S q) := if_pos h
theorem runS_take {c : Nat} {ps : List (Nat × Nat)} {L : List (Nat × Nat × Nat)} {i : Nat} {q : Nat × Nat × Nat} {S : List (List Nat)} (h : L[i]? = some q) : runS c ps (L.take (i + 1)) S = (runS c ps (L.take i) S).bind (runS c ps [q]) := by
  rw [List.take_add_one, h]; exact runS_append c ps _ _ _
theorem runS_no {c : Nat} {ps : List (Nat × Nat)} {L : List (Nat × Nat × Nat)} {i : Nat} {S : List (List Nat)} (h : runS c ps (L.take i) S = none) : runS c ps L S = none := by
  have : runS c ps (L.take i ++ L.drop i) S = none := by rw [runS_append, h]; rfl
  rwa [List.take_append_drop] at this
def backB (c : Nat) (ps : List (Nat × Nat)) (pts : List Nat) (L : List (Nat × Nat × Nat)) : Bool := match runS c ps L (sheetN c pts) with
  | some S => decide (List.replicate c 0 ∈ S)
  | none => false
theorem backB_no {c : Nat} {ps : List (Nat × Nat)} {pts : List Nat} {L : List (Nat × Nat × Nat)} (h : runS c ps L (sheetN c pts) = none) : backB c ps pts L = false := by unfold backB; rw [h]
theorem backB_at {c : Nat} {ps : List (Nat × Nat)} {pts : List Nat} {L : List (Nat × Nat × Nat)} {S : List (List Nat)} (h : runS c ps L (sheetN c pts) = some S) : backB c ps pts L = decide (List.replicate c 0 ∈ S) := by unfold backB; rw [h]
theorem backB_out {c : Nat} {ps : List (Nat × Nat)} {pts : List Nat} {L : List (Nat × Nat × Nat)} {a b : Nat} : backB c ps pts (L ++ [(ps.length, a, b)]) = false := by
  refine backB_no ?_
  rw [runS_append]
  cases runS c ps L (sheetN c pts) with
  | none => rfl
  | some S =>
    show (if okS ps S (ps.length, a, b) = true then _ else none) = none
    refine if_neg fun z => ?_
    unfold okS at z
    rw [decide_eq_false (Nat.lt_irrefl _), Bool.false_and] at z
    cases z
/-- a sheet's form -/
def Shp (c n : Nat) (S : List (List Nat)) : Prop := S.length = n ∧ ∀ x ∈ S, x.length = c
theorem Shp.sheet (c : Nat) (pts : List Nat) : Shp c pts.length (sheetN c pts) := ⟨sheetN_len c pts, sheetN_row⟩
theorem Shp.step {c n r i k : Nat} {S : List (List Nat)} (h : Shp c n S) : Shp c n (stepS c r i k S) := ⟨by rw [stepS_len]; exact h.1, stepS_row⟩
theorem Shp.run {c n : Nat} {ps : List (Nat × Nat)} : ∀ {L : List (Nat × Nat × Nat)} {S S' : List (List Nat)}, Shp c n S → runS c ps L S = some S' → Shp c n S'
  | [], S, S', h, e => by cases e; exact h
  | q :: L, S, S', h, e => by
    have e' : (if okS ps S q = true then runS c ps L (doS c ps S q) else none) = some S' := e
    by_cases z : okS ps S q = true
    · rw [if_pos z] at e'
      exact Shp.run (L := L) (S := doS c ps S q) (Shp.step h) e'
    · rw [if_neg z] at e'; cases e'
theorem getD_mem {S : List (List Nat)} {i : Nat} (h : i < S.length) : S[i]? = some (S.getD i []) := by simp [List.getD, h]
/-- a row that a table's parts make, and that it hasn't -/
def mkB (S : List (List Nat)) (pts : List Nat) (r : List Nat) : Bool := pts.all fun p => decide (cellsN r p ∈ S.map fun x => cellsN x p)
def lostB (c : Nat) (ps : List (Nat × Nat)) (pts : List Nat) (S : List (List Nat)) (r : List Nat) : Bool := tabB c S && (rowB c r && (!decide (r ∈ S) && ((ps.all fun p => decide (Keeps S p)) && mkB S pts r)))
def rowD (r : List Nat) : PyData := .list (r.map fun n => PyData.int (n : Nat))
theorem rows_dt {H : Hp} : ∀ {ts : List Addr} {rs : List (List Nat)}, Rws H ts rs → Dts H (ts.map V.ref) (rs.map rowD)
  | [], [], _ => .nil
  | _ :: _, _ :: _, ⟨h, t⟩ => .cons (.lst h (nums_dt _)) (rows_dt t)
  | [], _ :: _, h => h.elim
  | _ :: _, [], h => h.elim
theorem tbl_dt {H : Hp} {l : Addr} {rs : List (List Nat)} : TblAt H l rs → Dt H (.ref l) (.list (rs.map rowD)) := fun ⟨_, h, t⟩ => .lst h (rows_dt t)
theorem lay_rows : ∀ rs : List (List Nat), PyData.canLayAll0 (rs.map rowD) = true
  | [] => rfl
  | r :: rs => by
    show (PyData.canLayAll0 (r.map fun n => PyData.int (n : Nat)) && PyData.canLayAll0 (rs.map rowD)) = true
    rw [lay_rows rs, lay_nums r]; rfl
theorem depth_rows : ∀ rs : List (List Nat), PyData.depthAll (rs.map rowD) ≤ 2
  | [] => Nat.zero_le _
  | r :: rs => Nat.max_le.mpr ⟨by
      show PyData.depthAll (r.map fun n => PyData.int (n : Nat)) + 1 ≤ 2
      have := depth_nums r
      omega, depth_rows rs⟩
def sp_lowered : Sp := fun vs H Q _ => ∃ (v a b : Nat), vs = [.int (v : Nat), .int (a : Nat), .int (b : Nat)] ∧ Q (.int (low a b v : Nat)) H
def sp_after_step : Sp := fun vs H Q _ => ∃ (l : Addr) (c r i k : Nat) (S : List (List Nat)), vs = [.ref l, .int (r : Nat), .int (i : Nat), .int (k : Nat)] ∧ TblAt H l S ∧ c ≤ 6 ∧ S.length ≤ 64 ∧ (∀ x ∈ S, x.length = c) ∧ i < S.length ∧ k < S.length ∧ r < 64 ∧
  ∀ (d : Addr) (H' : Hp), H d = none → Same H H' → NewRows H H' d (stepS c r i k S) → Q (.ref d) H'
theorem nums_get' {x : List Nat} {j : Nat} (h : j < x.length) : (nums x)[j]? = some (.int (x.getD j 0 : Nat)) := by unfold nums; rw [List.getElem?_map, getD_at h]; rfl
theorem Rws.at {H : Hp} {ts : List Addr} {S : List (List Nat)} (h : Rws H ts S) {i : Nat} {x : List Nat} (e : S[i]? = some x) : ∃ t, (ts.map V.ref)[i]? = some (.ref t) ∧ H t = some (.lst (nums x)) := by
  have hi : i < ts.length := by rw [h.len]; exact (List.getElem?_eq_some_iff.mp e).1
  have e2 : (ts.map V.ref)[i]? = some (.ref ts[i]) := by rw [List.getElem?_map, List.getElem?_eq_getElem hi]; rfl
  obtain ⟨t, y, a, b, q⟩ := h.get e2
  rw [e] at b
  cases b
  rw [a] at e2
  exact ⟨t, e2, q⟩
section
variable {P : Program} {w : World} {K : PySem.W.Frag} {mg : Str → Option Value} {base : Heap} {A : Adr}
theorem ok_lowered (T : Txt K mg A) : FnOk P w K mg base CX0 1 A.f_lowered A.d_lowered ["number", "one", "other"] sp_lowered := by
  refine T.F_lowered.ok sc_lowered (fun vs H Q E h => ?_) (fun cdv A' outer s H vs Q E hr h => ?_)
  · obtain ⟨v, a, b, rfl, _⟩ := h; rfl
  · obtain ⟨v, a, b, rfl, k⟩ := h
    refine ⟨_, (pss_one (ps_ret (pe_ifExp (PW.pt (pw_or (pt_cmpR op_eq (pv 0) (pv 1) (nomark _)) (pw_or1 (pt_cmpR op_eq (pv 0) (pv 2) (nomark _))))) (pe_callB (call_min2 rfl) rfl T.z_min bt_min (pa_cons (pv 1) (pa_cons (pv 2) pa_nil))) (pv 0)))), ?_⟩
    have em : (if ((b : Nat) : Int) < ((a : Nat) : Int) then ((b : Nat) : Int) else ((a : Nat) : Int)) = ((min a b : Nat) : Int) := by split <;> omega
    refine ⟨_, rfl, _, rfl, rfl, _, rfl, ?_⟩
    refine ite2 (fun e => ?_) (fun e => ?_)
    · have e' : v = a := by have := of_decide_eq_true e; injection this with this; omega
      refine iteT ⟨_, rfl, _, rfl, (a : Int), (b : Int), rfl, ?_⟩
      rw [em]
      unfold low at k
      rwa [if_pos (.inl e')] at k
    have e1 : ¬ v = a := fun z => e (decide_eq_true (by rw [z]))
    refine ⟨_, rfl, _, rfl, rfl, _, rfl, ?_⟩
    refine ite2 (fun e => ?_) (fun e => ?_)
    · have e' : v = b := by have := of_decide_eq_true e; injection this with this; omega
      refine ⟨_, rfl, _, rfl, (a : Int), (b : Int), rfl, ?_⟩
      rw [em]
      unfold low at k
      rwa [if_pos (.inr e')] at k
    have e2 : ¬ v = b := fun z => e (decide_eq_true (by rw [z]))
    unfold low at k
    rw [if_neg (fun z => z.elim e1 e2)] at k
    exact ⟨_, rfl, k⟩
theorem ok_after_step (T : Txt K mg A) : FnOk P w K mg base CX0 3 A.f_after_step A.d_after_step ["sheet", "right", "one", "other"] sp_after_step := by
  have G_lowered := ok_lowered (P := P) (w := w) (base := base) T
  refine T.F_after_step.ok sc_after_step (fun vs H Q E h => ?_) (fun cdv A' outer s H vs Q E hr h => ?_)
  · obtain ⟨l, c, r, i, k, S, rfl, _⟩ := h; rfl
  · obtain ⟨l, c, r, i, k, S, rfl, ⟨ts, hl, hR⟩, hc6, h64, hw, hi, hk, hr64, q⟩ := h
    have hln : (ts.map V.ref).length = S.length := by rw [List.length_map]; exact hR.len
    have hf := getD_mem hi
    have hg := getD_mem hk
    obtain ⟨tf, ef, hf'⟩ := hR.at hf
    obtain ⟨tg, eg, hg'⟩ := hR.at hg
    have wf := hw _ (List.mem_of_getElem? hf)
    have wg := hw _ (List.mem_of_getElem? hg)
    generalize hF : S.getD i [] = f at hf hf' wf
    generalize hG : S.getD k [] = g at hg hg' wg
    refine ⟨_, (pss_cons (ps_set (i := 4) sc_after_step.nd rfl (Or.inr rfl) (pe_ix (ix_listK K) (pv 0) (pv 2) (fun _ _ => rfl)))
      (pss_cons (ps_set (i := 5) sc_after_step.nd rfl (Or.inr rfl) (pe_ix (ix_listK K) (pv 0) (pv 3) (fun _ _ => rfl)))
      (pss_cons (ps_set (i := 6) sc_after_step.nd rfl (Or.inl rfl) (pe_lst pa_nil))
      (pss_cons (ps_for PassesOwn.never rfl (pi_listK K (pv 0)) (pg_name (i := 7) sc_after_step.nd rfl (Or.inr rfl))
      (pss_cons (ps_set (i := 8) sc_after_step.nd rfl (Or.inr rfl) (pe_comp ["sheet", "right", "one", "other", "first", "second", "stepped", "row", "fallen"] (defScope s_after_step) ["column", "row", "first", "second"] [none, some 7, some 4, some 5] ⟨rfl, by decide +kernel, by decide +kernel, by decide +kernel, by decide +kernel, by decide +kernel⟩ rfl (pi_range1 rfl T.z_range (pa_cons (pe_callB (call_lenK K) rfl T.z_len bt_len (pa_cons (pv 7) pa_nil)) pa_nil)) (fun _ _ _ _ _ => (pg_name (i := 0) (by show List.Nodup (["column", "row", "first", "second"] : List Str); decide +kernel) rfl (Or.inl rfl) (Or.inr rfl))) (fun _ _ _ _ _ => pts_nil) (fun _ _ _ _ _ => (pe_call G_lowered (hr.mono (by decide)) rfl T.m_lowered T.F_lowered.kp T.b_lowered .nil pass0 (pa_cons (pe_ix (ix_listK K) (pv 1) (pv 0) (fun _ _ => rfl)) (pa_cons (pe_ix (ix_listK K) (pv 2) (pv 0) (fun _ _ => rfl)) (pa_cons (pe_ix (ix_listK K) (pv 3) (pv 0) (fun _ _ => rfl)) pa_nil)))))))
      (pss_one (ps_expr (pe_appendK K (pv 6) (pa_cons (pe_comp ["sheet", "right", "one", "other", "first", "second", "stepped", "row", "fallen"] (defScope s_after_step) ["column", "right", "fallen", "row"] [none, some 1, some 8, some 7] ⟨rfl, by decide +kernel, by decide +kernel, by decide +kernel, by decide +kernel, by decide +kernel⟩ rfl (pi_range1 rfl T.z_range (pa_cons (pe_callB (call_lenK K) rfl T.z_len bt_len (pa_cons (pv 7) pa_nil)) pa_nil)) (fun _ _ _ _ _ => (pg_name (i := 0) (by show List.Nodup (["column", "right", "fallen", "row"] : List Str); decide +kernel) rfl (Or.inl rfl) (Or.inr rfl))) (fun _ _ _ _ _ => pts_nil) (fun _ _ _ _ _ => (pe_ifExp (pt_truthK K (pe_op op_and (pv 1) (pe_op op_shl pe_int (pv 0)))) (pe_ix (ix_listK K) (pv 2) (pv 0) (fun _ _ => rfl)) (pe_ix (ix_listK K) (pv 3) (pv 0) (fun _ _ => rfl))))) pa_nil))))))
      (pss_one (ps_ret (pv 6))))))), ?_⟩
    refine ⟨_, rfl, _, rfl, l, _, (i : Int), _, rfl, rfl, SqL.of hl, atI_nat ef, ?_⟩
    refine ⟨_, rfl, _, rfl, l, _, (k : Int), _, rfl, rfl, SqL.of hl, atI_nat eg, ?_⟩
    refine ⟨Nat.zero_le _, fun B hB => ?_⟩
    have s0 : Same H (upd H B (.lst [])) := Same.new hB
    refine ⟨_, rfl, l, rfl, ⟨_, SqL.of (s0 _ _ hl)⟩, for_list (K := K) (a := l) (xs := ts.map V.ref) (fun m σ' H' => Same H H' ∧ m ≤ S.length ∧ (∃ us : List Addr, H' B = some (.lst (us.map V.ref)) ∧ Rws H' us ((S.take m).map (stepRow c r f g)) ∧ (∀ t ∈ us, H t = none ∧ t ≠ B) ∧ us.Nodup) ∧ ∃ o7 o8 : Option V, σ' = [some (.ref l), some (.int (r : Nat)), some (.int (i : Nat)), some (.int (k : Nat)), some (.ref tf), some (.ref tg), some (.ref B), o7, o8])
      ⟨s0, Nat.zero_le _, ⟨[], upd_same, trivial, fun t ht => by simp at ht, List.nodup_nil⟩, none, none, rfl⟩ (fun m σ' H' _ ⟨e, _⟩ => SqL.of (e _ _ hl)) ?_ ?_⟩
    · rintro m v σ' H1 hv ⟨s1, hm, ⟨us, hB1, hU, hn, hnd⟩, o7, o8, rfl⟩
      obtain ⟨t, x, rfl, hx, ht⟩ := (hR.same s1).get hv
      have hmS : m < S.length := (List.getElem?_eq_some_iff.mp hx).1
      have wx := hw x (List.mem_of_getElem? hx)
      -- fallen
      refine ⟨_, rfl, t, _, rfl, .inl (SqL.of ht), ((nums x).length : Int), rfl, by rw [nums_len]; omega, by rw [nums_len]; omega, fun D hD => ?_⟩
      rw [nums_len, wx, Int.toNat_natCast]
      refine comp_range (lo := 0) (n := c) (fun j ys H' => Same H1 H' ∧ j ≤ c ∧ ys = nums ((List.range j).map fun j => low (f.getD j 0) (g.getD j 0) (x.getD j 0))) ⟨Same.new hD, Nat.zero_le _, rfl⟩ ?_ ?_
      · rintro j ys H2 hj ⟨s2, _, rfl⟩ hDl
        rw [Int.zero_add]
        have s12 := s1.trans s2
        refine yes_mk ?_
        refine ⟨_, rfl, _, rfl, t, _, (j : Int), _, rfl, rfl, SqL.of (s2 _ _ ht), atI_nat (nums_get' (by omega)), _, rfl, _, rfl, tf, _, (j : Int), _, rfl, rfl, SqL.of (s12 _ _ hf'), atI_nat (nums_get' (by omega)), _, rfl, _, rfl, tg, _, (j : Int), _, rfl, rfl, SqL.of (s12 _ _ hg'), atI_nat (nums_get' (by omega)), x.getD j 0, f.getD j 0, g.getD j 0, rfl, ?_⟩
        refine CE1.mk hDl (small1000 (by rw [nums_len, List.length_map, List.length_range]; omega)) ⟨Same.up s2 hD, hj, ?_⟩
        rw [List.range_succ, List.map_append]
        show _ = nums (_ ++ [low (f.getD j 0) (g.getD j 0) (x.getD j 0)])
        rw [nums_snoc]
      rintro ys H2 ⟨s2, _, rfl⟩ hDl
      generalize hE : (List.range c).map (fun j => low (f.getD j 0) (g.getD j 0) (x.getD j 0)) = fl at hDl
      have hfl : fl.length = c := by rw [← hE, List.length_map, List.length_range]
      have hat : ∀ j, j < c → fl.getD j 0 = low (f.getD j 0) (g.getD j 0) (x.getD j 0) := fun j hj => by
        rw [← hE]; simp [List.getD, hj]
      have hB2 := s2 _ _ hB1
      have ht2 := s2 _ _ ht
      refine ⟨_, rfl, .inl ⟨rfl, _, SqL.of hB2⟩, _, rfl, t, _, rfl, .inl (SqL.of ht2), ((nums x).length : Int), rfl, by rw [nums_len]; omega, by rw [nums_len]; omega, fun D' hD' => ?_⟩
      rw [nums_len, wx, Int.toNat_natCast]
      refine comp_range (lo := 0) (n := c) (fun j ys H' => Same H2 H' ∧ j ≤ c ∧ ys = nums ((List.range j).map fun j => if r.testBit j = true then low (f.getD j 0) (g.getD j 0) (x.getD j 0) else x.getD j 0)) ⟨Same.new hD', Nat.zero_le _, rfl⟩ ?_ ?_
      · rintro j ys H3 hj ⟨s3, _, rfl⟩ hDl'
        rw [Int.zero_add]
        have es : (List.range (j + 1)).map (fun j => if r.testBit j = true then low (f.getD j 0) (g.getD j 0) (x.getD j 0) else x.getD j 0) = (List.range j).map (fun j => if r.testBit j = true then low (f.getD j 0) (g.getD j 0) (x.getD j 0) else x.getD j 0) ++ [if r.testBit j = true then low (f.getD j 0) (g.getD j 0) (x.getD j 0) else x.getD j 0] := by
          rw [List.range_succ, List.map_append]; rfl
        have hll : (nums ((List.range j).map fun j => if r.testBit j = true then low (f.getD j 0) (g.getD j 0) (x.getD j 0) else x.getD j 0)).length ≤ 64 := by
          rw [nums_len, List.length_map, List.length_range]; omega
        refine yes_mk ?_
        refine ⟨_, rfl, _, rfl, 1, (j : Int), rfl, rfl, ⟨Int.natCast_nonneg j, by omega, by decide⟩, _, _, rfl, rfl, _, rfl, ?_⟩
        rw [and_bit hr64 (by omega)]
        refine ite2 (fun e => ?_) (fun e => ?_)
        · refine ⟨_, rfl, _, rfl, D, _, (j : Int), _, rfl, rfl, SqL.of (s3 _ _ hDl), atI_nat (nums_get' (by omega)), CE1.mk hDl' (small1000 (by omega)) ⟨Same.up s3 hD', hj, ?_⟩⟩
          rw [es, if_pos e, nums_snoc, hat j hj]
        · refine ⟨_, rfl, _, rfl, t, _, (j : Int), _, rfl, rfl, SqL.of (s3 _ _ ht2), atI_nat (nums_get' (by omega)), CE1.mk hDl' (small1000 (by omega)) ⟨Same.up s3 hD', hj, ?_⟩⟩
          rw [es, if_neg e, nums_snoc]
      rintro ys H3 ⟨s3, _, rfl⟩ hDl'
      have hB3 := s3 _ _ hB2
      refine ⟨B, _, _, rfl, rfl, hB3, small1000 (by rw [List.length_map, hU.len, List.length_map, List.length_take]; omega), ?_⟩
      have s13 := s1.trans (s2.trans s3)
      have hD'H : H D' = none := (s1.trans s2).free hD'
      have nD'B : D' ≠ B := fun z => by rw [z, hB2] at hD'; cases hD'
      have hD'us : D' ∉ us := fun z => by
        obtain ⟨q', hq'⟩ := List.mem_iff_getElem?.mp z
        obtain ⟨t', r', e1, e2, e3⟩ := (hU.same s2).get (i := q') (v := .ref D') (by rw [List.getElem?_map, hq']; rfl)
        injection e1 with e1
        rw [← e1, hD'] at e3
        cases e3
      refine ⟨Same.up s13 hB, hmS, ⟨us ++ [D'], by rw [upd_same, List.map_append]; rfl, ?_, fun t ht => ?_, ?_⟩, _, _, rfl⟩
      · rw [List.take_add_one, hx, List.map_append]
        refine Rws.upd (Rws.snoc hDl' (hU.same (s2.trans s3))) fun z => ?_
        rcases List.mem_append.mp z with z | z
        · exact (hn _ z).2 rfl
        · exact nD'B (List.mem_singleton.mp z).symm
      · rcases List.mem_append.mp ht with z | z
        · exact hn t z
        · rw [List.mem_singleton.mp z]; exact ⟨hD'H, nD'B⟩
      · rw [List.nodup_append]
        exact ⟨hnd, by simp, fun a ha b hb z => hD'us (by rw [← List.mem_singleton.mp hb, ← z]; exact ha)⟩
    · rintro σ' H1 ⟨s1, _, ⟨us, hB1, hU, hn, hnd⟩, o7, o8, rfl⟩
      rw [hln, List.take_length] at hU
      refine ⟨_, rfl, q B H1 hB s1 ⟨us, hB1, ?_, hn, hnd⟩⟩
      unfold stepS
      rw [hF, hG]
      exact hU
end
/-- what steps_by tells of a sheet and a rule -/
def ByOk (S : List (List Nat)) (pl : Nat) (p : Nat × Nat) (L : List (Nat × Nat × Nat)) : Prop := ∀ q ∈ L, q.1 = pl ∧ q.2.1 < S.length ∧ q.2.2 < S.length ∧ cellsN (S.getD q.2.1 []) p.1 = cellsN (S.getD q.2.2 []) p.1 ∧ ¬ cellsN (S.getD q.2.1 []) p.2 = cellsN (S.getD q.2.2 []) p.2
def sp_steps_by : Sp := fun vs H Q _ => ∃ (l t : Addr) (pl : Nat) (S : List (List Nat)) (p : Nat × Nat), vs = [.ref l, .int (pl : Nat), .ref t] ∧ TblAt H l S ∧ S.length ≤ 64 ∧ (∀ r ∈ S, r.length ≤ 6) ∧ H t = some (.tup [.int (p.1 : Nat), .int (p.2 : Nat)]) ∧ p.1 < 64 ∧ p.2 < 64 ∧
  ∀ (d : Addr) (L : List (Nat × Nat × Nat)) (H' : Hp), H d = none → Same H H' → TrsAt H' d L → ByOk S pl p L → L.length ≤ S.length → (L = [] → Keeps S p) → Q (.ref d) H'
section
variable {P : Program} {w : World} {K : PySem.W.Frag} {mg : Str → Option Value} {base : Heap} {A : Adr}
theorem ok_steps_by (T : Txt K mg A) : FnOk P w K mg base CX0 3 A.f_steps_by A.d_steps_by ["sheet", "place", "rule"] sp_steps_by := by
  have G_cells := ok_cells (P := P) (w := w) (base := base) T
  refine T.F_steps_by.ok sc_steps_by (fun vs H Q E h => ?_) (fun cdv A' outer s H vs Q E hr h => ?_)
  · obtain ⟨l, t, pl, S, p, rfl, _⟩ := h; rfl
  · obtain ⟨l, t, pl, S, p, rfl, ⟨ts, hl, htp⟩, hlen, hr6, ht, hp1, hp2, k⟩ := h
    refine ⟨_, (pss_cons (ps_set (i := 3) sc_steps_by.nd rfl (Or.inl rfl) pe_dnewT)
      (pss_cons (ps_set (i := 4) sc_steps_by.nd rfl (Or.inl rfl) (pe_lst pa_nil))
      (pss_cons (ps_for PassesOwn.never rfl (pi_enumK K rfl T.z_enumerate bt_enumerate (pa_cons (pv 0) pa_nil)) (pg_tupK K (n := 2) rfl (pgs_cons (pg_name (i := 5) sc_steps_by.nd rfl (Or.inl rfl)) (pgs_cons (pg_name (i := 6) sc_steps_by.nd rfl (Or.inl rfl)) pgs_nil)))
      (pss_cons (ps_set (i := 7) sc_steps_by.nd rfl (Or.inl rfl) (pe_dsetdef (hu_of hr) (pv 3) (pe_call G_cells (hr.mono (by decide)) rfl T.m_cells T.F_cells.kp T.b_cells .nil pass0 (pa_cons (pv 6) (pa_cons (pe_ix (ix_tupK K) (pv 2) pe_int (fun _ _ => rfl)) pa_nil))) (pv 5) ⟨rfl, rfl, rfl, rfl⟩))
      (pss_one (ps_if (pt_cmpR (op_neD hr.units) (pe_call G_cells (hr.mono (by decide)) rfl T.m_cells T.F_cells.kp T.b_cells .nil pass0 (pa_cons (pv 6) (pa_cons (pe_ix (ix_tupK K) (pv 2) pe_int (fun _ _ => rfl)) pa_nil))) (pe_call G_cells (hr.mono (by decide)) rfl T.m_cells T.F_cells.kp T.b_cells .nil pass0 (pa_cons (pe_ix (ix_listK K) (pv 0) (pv 7) (fun _ _ => rfl)) (pa_cons (pe_ix (ix_tupK K) (pv 2) pe_int (fun _ _ => rfl)) pa_nil))) (nomark _)) (pss_one (ps_expr (pe_appendK K (pv 4) (pa_cons (pe_tup (pa_cons (pv 1) (pa_cons (pv 7) (pa_cons (pv 5) pa_nil)))) pa_nil)))) pss_nil))))
      (pss_one (ps_ret (pv 4)))))), ?_⟩
    refine fun D hD => ⟨Nat.zero_le _, fun B hB => ?_⟩
    have hln : (ts.map V.ref).length = S.length := by rw [List.length_map]; exact htp.len
    have sD : Same H (upd H D (.dT [])) := Same.new hD
    have sB : Same H (upd (upd H D (.dT [])) B (.lst [])) := Same.up sD (sD.free hB)
    have nBD : D ≠ B := ne_of_none upd_same hB
    have hBH : H B = none := sD.free hB
    refine ⟨_, rfl, l, ts.map V.ref, rfl, sB _ _ hl, ?_⟩
    refine for_enum (K := K) (a := l) (xs := ts.map V.ref) (fun i σ' H' => Same H H' ∧ i ≤ S.length ∧ (∃ o5 o6 o7 : Option V, σ' = [some (.ref l), some (.int (pl : Nat)), some (.ref t), some (.ref D), some (.ref B), o5, o6, o7]) ∧ ∃ (kvs : List (List Key × V)) (L : List (Nat × Nat × Nat)), H' D = some (.dT kvs) ∧ kvs.length ≤ i ∧ TrsAt H' B L ∧ ByOk S pl p L ∧ L.length ≤ i ∧
        (∀ q v, valV kvs q = some v → ∃ (j : Nat) (r0 : List Nat), v = .int (j : Nat) ∧ S[j]? = some r0 ∧ q = keyN (cellsN r0 p.1)) ∧
        (∀ r ∈ S.take i, ∃ (j : Nat) (r0 : List Nat), valV kvs (keyN (cellsN r p.1)) = some (.int (j : Nat)) ∧ S[j]? = some r0 ∧ (L = [] → cellsN r0 p.2 = cellsN r p.2)))
      ⟨sB, Nat.zero_le _, ⟨none, none, none, rfl⟩, [], [], by rw [upd_ne nBD, upd_same], Nat.le_refl _, ⟨[], upd_same, trivial⟩, (fun q hq => by simp at hq), Nat.le_refl _, (fun q v h => by cases h), fun r hr' => by simp at hr'⟩ (fun i σ' H' _ ⟨e, _⟩ => e _ _ hl) ?_ ?_
    · rintro i x σ' H' q hx ⟨se, hi, ⟨o5, o6, o7, rfl⟩, kvs, L, hDd, hkl, ⟨us, hBd, hU⟩, hBy, hLi, i1, i2⟩ hq
      obtain ⟨tr, r, rfl, hri, hrow⟩ := (htp.same se).get hx
      have hrm : r ∈ S := List.mem_of_getElem? hri
      have hi' : i < S.length := (List.getElem?_eq_some_iff.mp hri).1
      have hgi : S.getD i [] = r := by simp [List.getD, hri]
      have sq : Same H' (upd H' q (.tup [.int (i : Nat), .ref tr])) := Same.new hq
      have seq := se.trans sq
      refine ⟨q, _, rfl, SqT.of upd_same, rfl, _, _, rfl, _, _, rfl, rfl, ?_⟩
      have hDq := sq _ _ hDd
      have hBq := sq _ _ hBd
      have hUq := hU.same sq
      have hrowq := sq _ _ hrow
      generalize upd H' q (.tup [.int (i : Nat), .ref tr]) = H1 at sq seq hDq hBq hUq hrowq ⊢
      refine ⟨_, rfl, D, rfl, .inr ⟨kvs, .inl hDq⟩, _, rfl, _, rfl, t, _, 0, _, rfl, rfl, SqT.of (seq _ _ ht), rfl, tr, r, p.1, rfl, hrowq, hr6 r hrm, hp1, fun t1 H3 f3 s3 c3 => ?_⟩
      have hD3 := s3 _ _ hDq
      have hB3 := s3 _ _ hBq
      have hU3 := hUq.same s3
      have s03 : Same H H3 := seq.trans s3
      -- behind setdefault
      suffices rest : ∀ (j : Nat) (r0 : List Nat) (kvs' : List (List Key × V)) (H4 : Hp), Same H H4 → H4 D = some (.dT kvs') → kvs'.length ≤ i + 1 → H4 B = some (.lst (us.map V.ref)) → Trs H4 us L → S[j]? = some r0 → cellsN r0 p.1 = cellsN r p.1 →
          (∀ q v, valV kvs' q = some v → ∃ (j : Nat) (r0 : List Nat), v = .int (j : Nat) ∧ S[j]? = some r0 ∧ q = keyN (cellsN r0 p.1)) →
          (∀ r ∈ S.take i, ∃ (j : Nat) (r0 : List Nat), valV kvs' (keyN (cellsN r p.1)) = some (.int (j : Nat)) ∧ S[j]? = some r0 ∧ (L = [] → cellsN r0 p.2 = cellsN r p.2)) → valV kvs' (keyN (cellsN r p.1)) = some (.int (j : Nat)) →
          tSeq _ _ _ [some (.ref l), some (.int (pl : Nat)), some (.ref t), some (.ref D), some (.ref B), some (.int (i : Nat)), some (.ref tr), some (.int (j : Nat))] H4 by
        refine ⟨_, rfl, kvs, keyN (cellsN r p.1), t1, hD3, rfl, by rw [keyN_map]; exact c3, small1000 (by omega), fun v hv => ?_, fun hv => ?_⟩
        · obtain ⟨j, r0, rfl, hj, ek⟩ := i1 _ _ hv
          exact rest j r0 kvs H3 s03 hD3 (by omega) hB3 hU3 hj (keyN_inj ek).symm i1 i2 hv
        · have nBD3 : B ≠ D := ne_of hB3 hD3 (by intro z; cases z)
          have hUu : Trs (upd H3 D (.dT (putK kvs (keyN (cellsN r p.1)) (.int (i : Nat))))) us L := by
            have : ∀ {us : List Addr} {L : List (Nat × Nat × Nat)}, Trs H3 us L → Trs (upd H3 D (.dT (putK kvs (keyN (cellsN r p.1)) (.int (i : Nat))))) us L := by
              intro us
              induction us with
              | nil => intro L h; cases L with
                | nil => trivial
                | cons _ _ => exact h.elim
              | cons a us ih => intro L h; cases L with
                | nil => exact h.elim
                | cons b L => exact ⟨by rw [upd_ne (ne_of h.1 hD3 (by intro z; cases z))]; exact h.1, ih h.2⟩
            exact this hU3
          refine rest i r (putK kvs (keyN (cellsN r p.1)) (.int (i : Nat))) _ (Same.up s03 hD) upd_same (by have := length_putK kvs (keyN (cellsN r p.1)) (.int (i : Nat)); omega) (by rw [upd_ne nBD3]; exact hB3) hUu hri rfl (fun q v hq' => ?_) (fun a ha => ?_) (by rw [valV_put, if_pos rfl])
          · rw [valV_put] at hq'
            by_cases hqe : q = keyN (cellsN r p.1)
            · rw [if_pos hqe] at hq'
              exact ⟨i, r, (Option.some.inj hq').symm, hri, hqe⟩
            · rw [if_neg hqe] at hq'
              exact i1 q v hq'
          · obtain ⟨j, r0, h1, h2, h3⟩ := i2 a ha
            refine ⟨j, r0, ?_, h2, h3⟩
            rw [valV_put, if_neg fun z => by rw [z, hv] at h1; cases h1]
            exact h1
      intro j r0 kvs' H4 s4 hD4 hkl4 hB4 hU4 hj ej j1 j2 jv
      obtain ⟨tj, eTj, hTj⟩ := (htp.same s4).at hj
      have hgj : S.getD j [] = r0 := by simp [List.getD, hj]
      have hj' : j < S.length := (List.getElem?_eq_some_iff.mp hj).1
      have hrow4 : H4 tr = some (.lst (nums r)) := by
        obtain ⟨tr', e', h'⟩ := (htp.same s4).at hri
        rw [hx] at e'
        cases e'
        exact h'
      refine ⟨_, rfl, _, rfl, t, _, 1, _, rfl, rfl, SqT.of (s4 _ _ ht), rfl, tr, r, p.2, rfl, hrow4, hr6 r hrm, hp2, fun t2 H5 f5 s5 c5 => ?_⟩
      refine ⟨_, rfl, _, rfl, l, _, (j : Int), _, rfl, rfl, SqL.of (s5 _ _ (s4 _ _ hl)), atI_nat eTj, _, rfl, t, _, 1, _, rfl, rfl, SqT.of (s5 _ _ (s4 _ _ ht)), rfl, tj, r0, p.2, rfl, s5 _ _ hTj, hr6 r0 (List.mem_of_getElem? hj), hp2, fun t3 H6 f6 s6 c6 => ?_⟩
      have s56 := s5.trans s6
      have s06 := s4.trans s56
      refine ⟨tupD (cellsN r p.2), tupD (cellsN r0 p.2), tupD_dt (s6 _ _ c5), tupD_dt c6, tupD_lay _, tupD_lay _, tupD_depth _, _, rfl, ?_⟩
      rw [if_pos rfl, tupD_eqv]
      have hB6 := s56 _ _ hB4
      have hD6 := s56 _ _ hD4
      refine ite2 (fun e => ?_) (fun e => ?_)
      · have hne : ¬ cellsN r p.2 = cellsN r0 p.2 := by simpa using e
        refine ⟨_, rfl, .inl ⟨rfl, _, SqL.of hB6⟩, _, rfl, _, rfl, _, rfl, by show 3 ≤ sizeLine; decide, fun t7 ht7 => ?_⟩
        have s7 : Same H6 (upd H6 t7 (.tup (trip (pl, j, i)))) := Same.new ht7
        have hB7 := s7 _ _ hB6
        refine ⟨B, _, _, rfl, rfl, hB7, small1000 (by rw [List.length_map, hU4.len]; omega), ?_⟩
        have s07 := s06.trans s7
        have nDB : D ≠ B := ne_of hD6 hB6 (by intro z; cases z)
        refine ⟨Same.up s07 hBH, hi', ⟨_, _, _, rfl⟩, kvs', L ++ [(pl, j, i)], by rw [upd_ne nDB]; exact s7 _ _ hD6, hkl4, ⟨us ++ [t7], by rw [upd_same, List.map_append]; rfl, Trs.upd hB7 (Trs.snoc upd_same ((hU4.same s56).same s7))⟩, fun q hq' => ?_, by rw [List.length_append]; simp; omega, j1, fun a ha => ?_⟩
        · rcases List.mem_append.mp hq' with z | z
          · exact hBy q z
          · rw [List.mem_singleton.mp z]
            exact ⟨rfl, hj', hi', by show cellsN (S.getD j []) p.1 = cellsN (S.getD i []) p.1; rw [hgj, hgi]; exact ej, by show ¬ cellsN (S.getD j []) p.2 = cellsN (S.getD i []) p.2; rw [hgj, hgi]; exact fun z => hne z.symm⟩
        · rcases (take_mem hri).mp ha with ha | rfl
          · obtain ⟨j', r', h1, h2, _⟩ := j2 a ha
            exact ⟨j', r', h1, h2, fun z => by simp at z⟩
          · exact ⟨j, r0, jv, hj, fun z => by simp at z⟩
      · have he : cellsN r p.2 = cellsN r0 p.2 := by simpa using e
        refine ⟨s06, hi', ⟨_, _, _, rfl⟩, kvs', L, hD6, hkl4, ⟨us, hB6, hU4.same s56⟩, hBy, by omega, j1, fun a ha => ?_⟩
        rcases (take_mem hri).mp ha with ha | rfl
        · exact j2 a ha
        · exact ⟨j, r0, jv, hj, fun _ => he.symm⟩
    · rintro σ' H' ⟨se, _, ⟨o5, o6, o7, rfl⟩, kvs, L, hDd, hkl, hT, hBy, hLi, i1, i2⟩
      rw [hln, List.take_length] at i2
      rw [hln] at hLi
      refine ⟨_, rfl, k B L H' hBH se hT hBy hLi fun hL a ha b hb e => ?_⟩
      obtain ⟨j, r0, h1, h2, h3⟩ := i2 a ha
      obtain ⟨j', r1, h4, h5, h6⟩ := i2 b hb
      rw [e, h4] at h1
      injection h1 with h1
      injection h1 with h1
      have : j' = j := by omega
      subst this
      rw [h2] at h5
      cases h5
      rw [← h3 hL, h6 hL]
end
end K07

namespace K07
open PySem L2 TC
/-! ### Back and Lost -/
def fldB (d : Addr) : List (Str × V) := putF "steps" (.ref d) []
def fldL (a b : Addr) : List (Str × V) := putF "row" (.ref b) (putF "table" (.ref a) [])
theorem fldB_steps (d : Addr) : (fldB d).lookup ("steps" : Str) = some (.ref d) := by unfold fldB; rw [lookup_putF, if_pos rfl]
theorem fldB_no (d : Addr) {m : Str} (h1 : ¬ m = "steps") : (fldB d).lookup m = none := by unfold fldB; rw [lookup_putF, if_neg h1]; rfl
theorem ktr : ¬ (("table" : Str) = "row") := by decide +kernel
theorem fldL_table (a b : Addr) : (fldL a b).lookup ("table" : Str) = some (.ref a) := by unfold fldL; rw [lookup_putF, if_neg ktr, lookup_putF, if_pos rfl]
theorem fldL_row (a b : Addr) : (fldL a b).lookup ("row" : Str) = some (.ref b) := by unfold fldL; rw [lookup_putF, if_pos rfl]
theorem fldL_no (a b : Addr) {m : Str} (h1 : ¬ m = "row") (h2 : ¬ m = "table") : (fldL a b).lookup m = none := by unfold fldL; rw [lookup_putF, if_neg h1, lookup_putF, if_neg h2]; rfl
def BackAt (C : Addr) (H : Hp) (x d : Addr) (L : List (Nat × Nat × Nat)) : Prop := (∃ dx, H x = some (.ins C dx (fldB d))) ∧ TrsAt H d L
def LostAt (C : Addr) (H : Hp) (x a b : Addr) (S : List (List Nat)) (r : List Nat) : Prop := (∃ dx, H x = some (.ins C dx (fldL a b))) ∧ TblAt H a S ∧ H b = some (.lst (nums r))
theorem BackAt.same {C : Addr} {H H' : Hp} {x d : Addr} {L : List (Nat × Nat × Nat)} (e : Same H H') : BackAt C H x d L → BackAt C H' x d L := fun ⟨⟨dx, h⟩, t⟩ => ⟨⟨dx, e _ _ h⟩, t.same e⟩
theorem LostAt.same {C : Addr} {H H' : Hp} {x a b : Addr} {S : List (List Nat)} {r : List Nat} (e : Same H H') : LostAt C H x a b S r → LostAt C H' x a b S r := fun ⟨⟨dx, h⟩, t, u⟩ => ⟨⟨dx, e _ _ h⟩, t.same e, e _ _ u⟩
def sp_Back_init (C : Addr) : Sp := fun vs H Q _ => ∃ (p dx l : Addr) (L : List (Nat × Nat × Nat)), vs = [.ref p, .ref l] ∧ H p = some (.ins C dx []) ∧ TrsAt H l L ∧
  ∀ (d : Addr) (H' : Hp), H d = none → BackAt C H' p d L → (∀ b o, H b = some o → b ≠ p → H' b = some o) → Q .non H'
def sp_Lost_init (C : Addr) : Sp := fun vs H Q _ => ∃ (p dx l m : Addr) (S : List (List Nat)) (r : List Nat), vs = [.ref p, .ref l, .ref m] ∧ H p = some (.ins C dx []) ∧ TblAt H l S ∧ S.length ≤ 64 ∧ H m = some (.lst (nums r)) ∧
  ∀ (a b : Addr) (H' : Hp), H a = none → H b = none → LostAt C H' p a b S r → (∀ b o, H b = some o → b ≠ p → H' b = some o) → Q .non H'
def sp_is_step : Sp := fun vs H Q _ => ∃ (t l d : Addr) (q : Nat × Nat × Nat) (ps : List (Nat × Nat)) (S : List (List Nat)), vs = [.ref t, .ref l, .ref d] ∧ H t = some (.tup (trip q)) ∧ PrsAt H l ps ∧ (∀ p ∈ ps, p.1 < 64) ∧ TblAt H d S ∧ (∀ x ∈ S, x.length ≤ 6) ∧
  ∀ H', Same H H' → Q (.bl (okS ps S q)) H'
def sp_makes : Sp := fun vs H Q _ => ∃ (a l b : Addr) (S : List (List Nat)) (pts r : List Nat), vs = [.ref a, .ref l, .ref b] ∧ TblAt H a S ∧ S.length ≤ 64 ∧ (∀ x ∈ S, x.length ≤ 6) ∧ H l = some (.lst (nums pts)) ∧ (∀ p ∈ pts, p < 64) ∧ H b = some (.lst (nums r)) ∧ r.length ≤ 6 ∧
  ∀ H', Same H H' → Q (.bl (mkB S pts r)) H'
def sp_Back_shows (C CR : Addr) : Sp := fun vs H Q _ => ∃ (x d p m l : Addr) (c : Nat) (ps : List (Nat × Nat)) (pts : List Nat) (L : List (Nat × Nat × Nat)), vs = [.ref x, .ref p, .ref l] ∧ BackAt C H x d L ∧ RulesAt CR H p m c ps ∧ Good c ps ∧ H l = some (.lst (nums pts)) ∧ pts.length ≤ 64 ∧ (∀ q ∈ pts, q < 64) ∧
  ∀ H', Same H H' → Q (.bl (backB c ps pts L)) H'
def sp_Lost_shows (C CR : Addr) : Sp := fun vs H Q _ => ∃ (x a b p m l : Addr) (c : Nat) (ps : List (Nat × Nat)) (pts : List Nat) (S : List (List Nat)) (r : List Nat), vs = [.ref x, .ref p, .ref l] ∧ LostAt C H x a b S r ∧ RulesAt CR H p m c ps ∧ Good c ps ∧ H l = some (.lst (nums pts)) ∧ (∀ q ∈ pts, q < 64) ∧
  ∀ H', Same H H' → Q (.bl (lostB c ps pts S r)) H'
theorem rowD_dt {H : Hp} {b : Addr} {r : List Nat} (h : H b = some (.lst (nums r))) : Dt H (.ref b) (rowD r) := .lst h (nums_dt r)
theorem row_eqv' (a b : List Nat) : PyData.eqv (rowD a) (rowD b) = decide (a = b) := eqv_numsD a b
theorem lay_row' (a : List Nat) : (rowD a).canLay0 = true := lay_nums a
theorem depth_row' (a : List Nat) : (rowD a).depth ≤ 60 := by
  show PyData.depthAll _ + 1 ≤ 60
  have := depth_nums a
  omega
theorem in_rows' (x : List Nat) (S : List (List Nat)) : ((S.map rowD).any fun e => PyData.eqv e (rowD x)) = decide (x ∈ S) := by
  rw [List.any_map]
  have : ((fun e => PyData.eqv e (rowD x)) ∘ rowD) = fun y => decide (y = x) := by
    funext y
    exact row_eqv' y x
  rw [this]
  by_cases h : x ∈ S
  · rw [decide_eq_true h, List.any_eq_true]
    exact ⟨x, h, by simp⟩
  · rw [decide_eq_false h, List.any_eq_false]
    intro y hy
    have : ¬ y = x := fun z => h (by rw [← z]; exact hy)
    simp [this]
theorem in_tups (x : List Nat) (S : List (List Nat)) : ((S.map tupD).any fun e => PyData.eqv e (tupD x)) = decide (x ∈ S) := by
  rw [List.any_map]
  have : ((fun e => PyData.eqv e (tupD x)) ∘ tupD) = fun y => decide (y = x) := by
    funext y
    exact tupD_eqv y x
  rw [this]
  by_cases h : x ∈ S
  · rw [decide_eq_true h, List.any_eq_true]
    exact ⟨x, h, by simp⟩
  · rw [decide_eq_false h, List.any_eq_false]
    intro y hy
    have : ¬ y = x := fun z => h (by rw [← z]; exact hy)
    simp [this]
theorem lay_tups : ∀ S : List (List Nat), PyData.canLayAll0 (S.map tupD) = true
  | [] => rfl
  | r :: rs => by
    show (PyData.canLayAll0 (r.map fun n => PyData.int (n : Nat)) && PyData.canLayAll0 (rs.map tupD)) = true
    rw [lay_tups rs, lay_nums r]; rfl
/-- tuples stand at ts -/
def Tws (H : Hp) : List Addr → List (List Nat) → Prop
  | [], [] => True
  | t :: ts, r :: rs => H t = some (.tup (nums r)) ∧ Tws H ts rs
  | _, _ => False
theorem Tws.same {H H' : Hp} (e : Same H H') : ∀ {ts : List Addr} {rs : List (List Nat)}, Tws H ts rs → Tws H' ts rs
  | [], [], _ => trivial
  | _ :: _, _ :: _, ⟨h, t⟩ => ⟨e _ _ h, Tws.same e t⟩
  | [], _ :: _, h => h.elim
  | _ :: _, [], h => h.elim
theorem Tws.len {H : Hp} : ∀ {ts : List Addr} {rs : List (List Nat)}, Tws H ts rs → ts.length = rs.length
  | [], [], _ => rfl
  | _ :: _, _ :: _, ⟨_, t⟩ => congrArg (· + 1) (Tws.len t)
  | [], _ :: _, h => h.elim
  | _ :: _, [], h => h.elim
theorem Tws.snoc {H : Hp} {t : Addr} {r : List Nat} (e : H t = some (.tup (nums r))) : ∀ {ts : List Addr} {rs : List (List Nat)}, Tws H ts rs → Tws H (ts ++ [t]) (rs ++ [r])
  | [], [], _ => ⟨e, trivial⟩
  | _ :: _, _ :: _, ⟨h, t⟩ => ⟨h, Tws.snoc e t⟩
  | [], _ :: _, h => h.elim
  | _ :: _, [], h => h.elim
theorem Tws.upd {H : Hp} {a : Addr} {xs : List V} {o : HO} (ha : H a = some (.lst xs)) : ∀ {ts : List Addr} {rs : List (List Nat)}, Tws H ts rs → Tws (upd H a o) ts rs
  | [], [], _ => trivial
  | _ :: _, _ :: _, ⟨h, t⟩ => ⟨by rw [upd_ne (ne_of h ha (by intro z; cases z))]; exact h, Tws.upd ha t⟩
  | [], _ :: _, h => h.elim
  | _ :: _, [], h => h.elim
theorem tws_dt {H : Hp} : ∀ {ts : List Addr} {rs : List (List Nat)}, Tws H ts rs → Dts H (ts.map V.ref) (rs.map tupD)
  | [], [], _ => .nil
  | _ :: _, _ :: _, ⟨h, t⟩ => .cons (tupD_dt h) (tws_dt t)
  | [], _ :: _, h => h.elim
  | _ :: _, [], h => h.elim
theorem rep_zero (c : Nat) : (List.replicate ((c : Int)).toNat [V.int 0]).flatten = nums (List.replicate c 0) := by
  rw [Int.toNat_natCast]
  induction c with
  | zero => rfl
  | succ c ih => rw [List.replicate_succ, List.flatten_cons, ih, List.replicate_succ]; rfl
section
variable {P : Program} {w : World} {K : PySem.W.Frag} {mg : Str → Option Value} {base : Heap} {A : Adr}
theorem ok_Back_init (T : Txt K mg A) : FnOk P w K mg base CX0 1 A.f_Back_init A.d_Back_init ["self", "steps"] (sp_Back_init A.c_Back) := by
  refine T.F_Back_init.ok sc_Back_init (fun vs H Q E h => ?_) (fun cdv A' outer s H vs Q E hr h => ?_)
  · obtain ⟨p, dx, l, L, rfl, _⟩ := h; rfl
  · obtain ⟨p, dx, l, L, rfl, hp, ⟨ts, hl, hT⟩, k⟩ := h
    refine ⟨_, (pss_one (ps_fldK K (pv 0) (pe_callTy (call_listK K) rfl T.z_list bt_list (pa_cons (pv 1) pa_nil)))), ?_⟩
    refine ⟨_, rfl, l, ts.map V.ref, rfl, .inl (SqL.of hl), fun d hd => ⟨_, rfl, p, A.c_Back, dx, [], rfl, Same.new hd _ _ hp, T.cl_Back, T.na_Back_steps, by show 0 < 1000; decide, ?_⟩⟩
    have npd : d ≠ p := fun z => by rw [z, hp] at hd; cases hd
    have hT2 : Trs (upd (upd H d (.lst (ts.map V.ref))) p (.ins A.c_Back dx (putF "steps" (.ref d) []))) ts L := by
      have : ∀ {us : List Addr} {L : List (Nat × Nat × Nat)}, Trs H us L → Trs (upd (upd H d (.lst (ts.map V.ref))) p (.ins A.c_Back dx (putF "steps" (.ref d) []))) us L := by
        intro us
        induction us with
        | nil => intro L h; cases L with
          | nil => trivial
          | cons _ _ => exact h.elim
        | cons a us ih => intro L h; cases L with
          | nil => exact h.elim
          | cons b L => exact ⟨by rw [upd_ne (ne_of h.1 hp (by intro z; cases z)), upd_ne (ne_of_none h.1 hd)]; exact h.1, ih h.2⟩
      exact this hT
    refine k d _ hd ⟨⟨dx, upd_same⟩, ⟨ts, by rw [upd_ne npd, upd_same], hT2⟩⟩ fun b o hb hbp => ?_
    rw [upd_ne hbp]
    exact Same.new hd _ _ hb
theorem ok_Lost_init (T : Txt K mg A) : FnOk P w K mg base CX0 1 A.f_Lost_init A.d_Lost_init ["self", "table", "row"] (sp_Lost_init A.c_Lost) := by
  refine T.F_Lost_init.ok sc_Lost_init (fun vs H Q E h => ?_) (fun cdv A' outer s H vs Q E hr h => ?_)
  · obtain ⟨p, dx, l, m, S, r, rfl, _⟩ := h; rfl
  · obtain ⟨p, dx, l, m, S, r, rfl, hp, ⟨ts, hl, hR⟩, h64, hm, k⟩ := h
    have hln : (ts.map V.ref).length = S.length := by rw [List.length_map]; exact hR.len
    refine ⟨_, (pss_cons (ps_fldK K (pv 0) (pe_comp ["self", "table", "row"] (defScope s_Lost_init) ["line"] [none] ⟨rfl, by decide +kernel, by decide +kernel, by decide +kernel, by decide +kernel, by decide +kernel⟩ rfl (pi_listK K (pv 1)) (fun _ _ _ _ _ => (pg_name (i := 0) (by show List.Nodup (["line"] : List Str); decide +kernel) rfl (Or.inl rfl) (Or.inr rfl))) (fun _ _ _ _ _ => pts_nil) (fun _ _ _ _ _ => (pe_callTy (call_listK K) rfl T.z_list bt_list (pa_cons (pv 0) pa_nil)))))
      (pss_one (ps_fldK K (pv 0) (pe_callTy (call_listK K) rfl T.z_list bt_list (pa_cons (pv 2) pa_nil))))), ?_⟩
    refine ⟨_, rfl, l, rfl, ⟨_, SqL.of hl⟩, fun D hD => comp_list (xs := ts.map V.ref) (fun i ys H' => Same H H' ∧ i ≤ S.length ∧ ∃ us : List Addr, ys = us.map V.ref ∧ Rws H' us (S.take i) ∧ ∀ t ∈ us, t ≠ D) ⟨Same.new hD, Nat.zero_le _, [], rfl, trivial, fun t ht => by simp at ht⟩ (fun i ys H' _ ⟨e, _⟩ => SqL.of (e _ _ hl)) ?_ ?_⟩
    · rintro i x ys H' hx ⟨se, hi, us, rfl, hU, hn⟩ hDl
      obtain ⟨t, y, rfl, hy, ht⟩ := (hR.same se).get hx
      have hi' : i < S.length := (List.getElem?_eq_some_iff.mp hy).1
      refine yes_mk ?_
      refine ⟨_, rfl, t, nums y, rfl, .inl (SqL.of ht), fun e he => ?_⟩
      have s2 : Same H' (upd H' e (.lst (nums y))) := Same.new he
      have neD : e ≠ D := fun z => by rw [z, hDl] at he; cases he
      refine CE1.mk (s2 _ _ hDl) (small1000 (by rw [List.length_map, hU.len, List.length_take]; omega)) ⟨Same.up (se.trans s2) hD, hi', us ++ [e], by rw [List.map_append]; rfl, ?_, fun t ht => ?_⟩
      · rw [List.take_add_one, hy]
        refine Rws.upd (Rws.snoc upd_same (hU.same s2)) fun z => ?_
        rcases List.mem_append.mp z with z | z
        · exact hn _ z rfl
        · exact neD (List.mem_singleton.mp z).symm
      · rcases List.mem_append.mp ht with z | z
        · exact hn t z
        · rw [List.mem_singleton.mp z]; exact neD
    · rintro ys H1 ⟨s1, _, us, rfl, hU, hn⟩ hDl
      rw [hln, List.take_length] at hU
      have hp1 := s1 _ _ hp
      have npD : D ≠ p := fun z => by rw [z, hp] at hD; cases hD
      refine ⟨_, rfl, p, A.c_Lost, dx, [], rfl, hp1, T.cl_Lost, T.na_Lost_table, by show 0 < 1000; decide, ?_⟩
      have nmp : m ≠ p := ne_of hm hp (by intro z; cases z)
      have hm2 : (upd H1 p (.ins A.c_Lost dx (putF "table" (.ref D) []))) m = some (.lst (nums r)) := by rw [upd_ne nmp]; exact s1 _ _ hm
      have hD2 : (upd H1 p (.ins A.c_Lost dx (putF "table" (.ref D) []))) D = some (.lst (us.map V.ref)) := by rw [upd_ne npD]; exact hDl
      have hU2 : Rws (upd H1 p (.ins A.c_Lost dx (putF "table" (.ref D) []))) us S := Rws.upd hU fun z => by
        obtain ⟨j, hj⟩ := List.mem_iff_getElem?.mp z
        obtain ⟨t', r', e1, e2, e3⟩ := hU.get (i := j) (v := .ref p) (by rw [List.getElem?_map, hj]; rfl)
        injection e1 with e1
        rw [← e1, hp1] at e3
        cases e3
      refine ⟨_, rfl, m, nums r, rfl, .inl (SqL.of hm2), fun b hb => ⟨_, rfl, p, A.c_Lost, dx, _, rfl, Same.new hb _ _ upd_same, T.cl_Lost, T.na_Lost_row, by show 1 < 1000; decide, ?_⟩⟩
      have nbp : b ≠ p := fun z => by rw [z, upd_same] at hb; cases hb
      have nDb : D ≠ b := ne_of_none hD2 hb
      have hbH1 : H1 b = none := by rw [upd_ne nbp] at hb; exact hb
      have sb : Same (upd H1 p (.ins A.c_Lost dx (putF "table" (.ref D) []))) (upd (upd H1 p (.ins A.c_Lost dx (putF "table" (.ref D) []))) b (.lst (nums r))) := Same.new hb
      have hU3 := hU2.same sb
      refine k D b _ hD (s1.free hbH1) ⟨⟨dx, upd_same⟩, ⟨us, by rw [upd_ne npD]; exact sb _ _ hD2, Rws.upd hU3 fun z => by
        obtain ⟨j, hj⟩ := List.mem_iff_getElem?.mp z
        obtain ⟨t', r', e1, e2, e3⟩ := hU.get (i := j) (v := .ref p) (by rw [List.getElem?_map, hj]; rfl)
        injection e1 with e1
        rw [← e1, hp1] at e3
        cases e3⟩, by rw [upd_ne nbp, upd_same]⟩ fun q o hq hqp => ?_
      rw [upd_ne hqp, upd_ne (ne_of_none hq (s1.free hbH1)), upd_ne hqp]
      exact s1 _ _ hq
end
end K07

namespace K07
open PySem L2 TC
section
variable {P : Program} {w : World} {K : PySem.W.Frag} {mg : Str → Option Value} {base : Heap} {A : Adr}
theorem ok_is_step (T : Txt K mg A) : FnOk P w K mg base CX0 5 A.f_is_step A.d_is_step ["step", "pairs", "sheet"] sp_is_step := by
  have G_is_place := ok_is_place (P := P) (w := w) (base := base) T
  have G_cells := ok_cells (P := P) (w := w) (base := base) T
  refine T.F_is_step.ok sc_is_step (fun vs H Q E h => ?_) (fun cdv A' outer s H vs Q E hr h => ?_)
  · obtain ⟨t, l, d, q, ps, S, rfl, _⟩ := h; rfl
  · obtain ⟨t, l, d, q, ps, S, rfl, ht, ⟨tl, hl, htl⟩, hps, ⟨ts, hd, hR⟩, hw, k⟩ := h
    have hlp : (tl.map V.ref).length = ps.length := by rw [List.length_map]; exact htl.len
    have hld : (ts.map V.ref).length = S.length := by rw [List.length_map]; exact hR.len
    refine ⟨_, (pss_cons (ps_if (PW.pt (pw_or (pt_not (pt_val (pe_callB (call_isinstK K) rfl T.z_isinstance bt_isinstance (pa_cons (pv 0) (pa_cons (pe_bltn (v := .ty "tuple") rfl T.z_tuple bt_tuple rfl) pa_nil))))) (pw_or1 (pt_cmpR op_ne (pe_callB (call_lenK K) rfl T.z_len bt_len (pa_cons (pv 0) pa_nil)) pe_int (nomark _))))) (pss_one (ps_ret pe_bl)) pss_nil)
      (pss_cons (ps_if (PW.pt (pw_or (pt_not (pt_val (pe_call G_is_place (hr.mono (by decide)) rfl T.m_is_place T.F_is_place.kp T.b_is_place .nil pass0 (pa_cons (pe_ix (ix_tupK K) (pv 0) pe_int (fun _ _ => rfl)) (pa_cons (pv 1) pa_nil))))) (pw_or (pt_not (pt_val (pe_call G_is_place (hr.mono (by decide)) rfl T.m_is_place T.F_is_place.kp T.b_is_place .nil pass0 (pa_cons (pe_ix (ix_tupK K) (pv 0) pe_int (fun _ _ => rfl)) (pa_cons (pv 2) pa_nil))))) (pw_or1 (pt_not (pt_val (pe_call G_is_place (hr.mono (by decide)) rfl T.m_is_place T.F_is_place.kp T.b_is_place .nil pass0 (pa_cons (pe_ix (ix_tupK K) (pv 0) pe_int (fun _ _ => rfl)) (pa_cons (pv 2) pa_nil))))))))) (pss_one (ps_ret pe_bl)) pss_nil)
      (pss_cons (ps_set (i := 3) sc_is_step.nd rfl (Or.inl rfl) (pe_ix (ix_tupK K) (pe_ix (ix_listK K) (pv 1) (pe_ix (ix_tupK K) (pv 0) pe_int (fun _ _ => rfl)) (fun _ _ => rfl)) pe_int (fun _ _ => rfl)))
      (pss_one (ps_ret (pe_cmpR (op_eqD hr.units) (pe_call G_cells (hr.mono (by decide)) rfl T.m_cells T.F_cells.kp T.b_cells .nil pass0 (pa_cons (pe_ix (ix_listK K) (pv 2) (pe_ix (ix_tupK K) (pv 0) pe_int (fun _ _ => rfl)) (fun _ _ => rfl)) (pa_cons (pv 3) pa_nil))) (pe_call G_cells (hr.mono (by decide)) rfl T.m_cells T.F_cells.kp T.b_cells .nil pass0 (pa_cons (pe_ix (ix_listK K) (pv 2) (pe_ix (ix_tupK K) (pv 0) pe_int (fun _ _ => rfl)) (fun _ _ => rfl)) (pa_cons (pv 3) pa_nil))) (nomark _))))))), ?_⟩
    have no : okS ps S q = false → Q (.bl false) H := fun e => by
      have z := k H (Same.refl _)
      rw [e] at z
      exact z
    refine ⟨_, rfl, _, _, _, true, rfl, .tup ht, kit_tuple_tuple, true, rfl, iteF ⟨_, rfl, t, _, rfl, .inr (SqT.of ht), rfl, _, rfl, iteF ?_⟩⟩
    refine ⟨_, rfl, t, _, 0, _, rfl, rfl, SqT.of ht, rfl, _, rfl, q.1, l, _, rfl, hl, _, rfl, ?_⟩
    rw [hlp]
    by_cases h1 : q.1 < ps.length
    · rw [decide_eq_true h1]
      refine iteF ?_
      refine ⟨_, rfl, t, _, 1, _, rfl, rfl, SqT.of ht, rfl, _, rfl, q.2.1, d, _, rfl, hd, _, rfl, ?_⟩
      rw [hld]
      by_cases h2 : q.2.1 < S.length
      · rw [decide_eq_true h2]
        refine iteF ?_
        refine ⟨_, rfl, t, _, 2, _, rfl, rfl, SqT.of ht, rfl, _, rfl, q.2.2, d, _, rfl, hd, _, rfl, ?_⟩
        rw [hld]
        by_cases h3 : q.2.2 < S.length
        · rw [decide_eq_true h3]
          refine iteF ?_
          have hpt : (tl.map V.ref)[q.1]? = some (.ref (tl[q.1]'(by rw [List.length_map] at hlp; omega))) := by rw [List.getElem?_map, List.getElem?_eq_getElem (by rw [List.length_map] at hlp; omega)]; rfl
          obtain ⟨tp, p, ep, hp, htp⟩ := htl.get hpt
          rw [ep] at hpt
          have hgp : ps.getD q.1 (0, 0) = p := by simp [List.getD, hp]
          obtain ⟨t1, e1, h1'⟩ := hR.at (getD_mem h2)
          obtain ⟨t2, e2, h2'⟩ := hR.at (getD_mem h3)
          refine ⟨_, rfl, _, rfl, t, _, 0, _, rfl, rfl, SqT.of ht, rfl, l, _, (q.1 : Int), _, rfl, rfl, SqL.of hl, atI_nat hpt, tp, _, 0, _, rfl, rfl, SqT.of htp, rfl, ?_⟩
          have hp64 := hps p (List.mem_of_getElem? hp)
          refine ⟨_, rfl, _, rfl, t, _, 1, _, rfl, rfl, SqT.of ht, rfl, d, _, (q.2.1 : Int), _, rfl, rfl, SqL.of hd, atI_nat e1, _, rfl, t1, S.getD q.2.1 [], p.1, rfl, h1', hw _ (List.mem_of_getElem? (getD_mem h2)), hp64, fun a H1 fa s1 ca => ?_⟩
          refine ⟨_, rfl, _, rfl, t, _, 2, _, rfl, rfl, SqT.of (s1 _ _ ht), rfl, d, _, (q.2.2 : Int), _, rfl, rfl, SqL.of (s1 _ _ hd), atI_nat e2, _, rfl, t2, S.getD q.2.2 [], p.1, rfl, s1 _ _ h2', hw _ (List.mem_of_getElem? (getD_mem h3)), hp64, fun b H2 fb s2 cb => ?_⟩
          refine ⟨tupD (cellsN (S.getD q.2.1 []) p.1), tupD (cellsN (S.getD q.2.2 []) p.1), tupD_dt (s2 _ _ ca), tupD_dt cb, tupD_lay _, tupD_lay _, tupD_depth _, ?_⟩
          rw [if_neg (by decide), tupD_eqv]
          have z := k H2 (s1.trans s2)
          unfold okS at z
          rw [decide_eq_true h1, decide_eq_true h2, decide_eq_true h3, hgp] at z
          exact z
        · rw [decide_eq_false h3]
          refine iteT (no ?_)
          unfold okS
          rw [decide_eq_false h3, Bool.false_and, Bool.and_false, Bool.and_false]
      · rw [decide_eq_false h2]
        refine iteT (iteT (no ?_))
        unfold okS
        rw [decide_eq_false h2, Bool.false_and, Bool.and_false]
    · rw [decide_eq_false h1]
      refine iteT (iteT (no ?_))
      unfold okS
      rw [decide_eq_false h1, Bool.false_and]
theorem ok_makes (T : Txt K mg A) : FnOk P w K mg base CX0 3 A.f_makes A.d_makes ["table", "parts", "row"] sp_makes := by
  have G_cells := ok_cells (P := P) (w := w) (base := base) T
  refine T.F_makes.ok sc_makes (fun vs H Q E h => ?_) (fun cdv A' outer s H vs Q E hr h => ?_)
  · obtain ⟨a, l, b, S, pts, r, rfl, _⟩ := h; rfl
  · obtain ⟨a, l, b, S, pts, r, rfl, ⟨ts, ha, hR⟩, h64, hw, hl, hpts, hb, hr6, k⟩ := h
    have hln : (ts.map V.ref).length = S.length := by rw [List.length_map]; exact hR.len
    refine ⟨_, (pss_cons (ps_for PassesOwn.never rfl (pi_listK K (pv 1)) (pg_name (i := 3) sc_makes.nd rfl (Or.inr rfl))
      (pss_one (ps_if (pt_cmpR (op_notInD hr.units) (pe_call G_cells (hr.mono (by decide)) rfl T.m_cells T.F_cells.kp T.b_cells .nil pass0 (pa_cons (pv 2) (pa_cons (pv 3) pa_nil))) (pe_comp ["table", "parts", "row", "part"] (defScope s_makes) ["other", "part"] [none, some 3] ⟨rfl, by decide +kernel, by decide +kernel, by decide +kernel, by decide +kernel, by decide +kernel⟩ rfl (pi_listK K (pv 0)) (fun _ _ _ _ _ => (pg_name (i := 0) (by show List.Nodup (["other", "part"] : List Str); decide +kernel) rfl (Or.inl rfl) (Or.inr rfl))) (fun _ _ _ _ _ => pts_nil) (fun _ _ _ _ _ => (pe_call G_cells (hr.mono (by decide)) rfl T.m_cells T.F_cells.kp T.b_cells .nil pass0 (pa_cons (pv 0) (pa_cons (pv 1) pa_nil))))) (by with_unfolding_all rfl)) (pss_one (ps_ret pe_bl)) pss_nil)))
      (pss_one (ps_ret pe_bl))), ?_⟩
    refine ⟨_, rfl, l, rfl, ⟨_, SqL.of hl⟩, for_list (K := K) (a := l) (xs := nums pts) (fun i σ' H' => Same H H' ∧ (∀ p ∈ pts.take i, cellsN r p ∈ S.map fun x => cellsN x p) ∧ ∃ o3 : Option V, σ' = [some (.ref a), some (.ref l), some (.ref b), o3])
      ⟨Same.refl _, (fun p hp => by simp at hp), none, rfl⟩ (fun i σ' H' _ ⟨e, _⟩ => SqL.of (e _ _ hl)) ?_ ?_⟩
    · rintro i x σ' H1 hx ⟨s1, hI, o3, rfl⟩
      obtain ⟨p, hp, rfl⟩ := nums_at hx
      have hpm := List.mem_of_getElem? hp
      refine ⟨_, rfl, _, rfl, b, r, p, rfl, s1 _ _ hb, hr6, hpts p hpm, fun t1 H2 f2 s2 c2 => ?_⟩
      have s02 := s1.trans s2
      refine ⟨_, rfl, a, rfl, ⟨_, SqL.of (s02 _ _ ha)⟩, fun D hD => comp_list (xs := ts.map V.ref) (fun j ys H' => Same H2 H' ∧ j ≤ S.length ∧ ∃ us : List Addr, ys = us.map V.ref ∧ Tws H' us ((S.take j).map fun x => cellsN x p)) ⟨Same.new hD, Nat.zero_le _, [], rfl, trivial⟩ (fun j ys H' _ ⟨e, _⟩ => SqL.of (e _ _ (s02 _ _ ha))) ?_ ?_⟩
      · rintro j v ys H3 hv ⟨s3, hj, us, rfl, hU⟩ hDl
        obtain ⟨t, y, rfl, hy, ht⟩ := ((hR.same s02).same s3).get hv
        have hj' : j < S.length := (List.getElem?_eq_some_iff.mp hy).1
        refine yes_mk ?_
        refine ⟨_, rfl, _, rfl, t, y, p, rfl, ht, hw y (List.mem_of_getElem? hy), hpts p hpm, fun t4 H4 f4 s4 c4 => ?_⟩
        have hD4 := s4 _ _ hDl
        refine CE1.mk hD4 (small1000 (by rw [List.length_map, hU.len, List.length_map, List.length_take]; omega)) ⟨Same.up (s3.trans s4) hD, hj', us ++ [t4], by rw [List.map_append]; rfl, ?_⟩
        rw [List.take_add_one, hy, List.map_append]
        exact Tws.upd hD4 (Tws.snoc c4 (hU.same s4))
      · rintro ys H3 ⟨s3, _, us, rfl, hU⟩ hDl
        rw [hln, List.take_length] at hU
        refine ⟨tupD (cellsN r p), (S.map fun x => cellsN x p).map tupD, tupD_dt (s3 _ _ c2), .lst hDl (tws_dt hU), tupD_lay _, lay_tups _, tupD_depth _, _, rfl, ?_⟩
        rw [if_pos rfl, in_tups]
        refine ite2 (fun e => ?_) (fun e => ?_)
        · have e' : ¬ cellsN r p ∈ S.map fun x => cellsN x p := by simpa using e
          have z := k H3 (s02.trans s3)
          have ez : mkB S pts r = false := by
            unfold mkB
            rw [List.all_eq_false]
            exact ⟨p, hpm, by rw [decide_eq_false e']; decide⟩
          rw [ez] at z
          exact z
        · have e' : cellsN r p ∈ S.map fun x => cellsN x p := by simpa using e
          refine ⟨s02.trans s3, fun q hq => ?_, _, rfl⟩
          rcases (take_mem hp).mp hq with hq | rfl
          · exact hI q hq
          · exact e'
    · rintro σ' H1 ⟨s1, hI, o3, rfl⟩
      rw [nums_len, List.take_length] at hI
      have z := k H1 s1
      have ez : mkB S pts r = true := List.all_eq_true.mpr fun p hp => decide_eq_true (hI p hp)
      rw [ez] at z
      exact z
theorem ok_Back_shows (T : Txt K mg A) : FnOk P w K mg base CX0 7 A.f_Back_shows A.d_Back_shows ["self", "rules", "parts"] (sp_Back_shows A.c_Back A.c_Rules) := by
  have G_Rules_rules := ok_Rules_rules (P := P) (w := w) (base := base) T
  have G_sheet_of := ok_sheet_of (P := P) (w := w) (base := base) T
  have G_is_step := ok_is_step (P := P) (w := w) (base := base) T
  have G_after_step := ok_after_step (P := P) (w := w) (base := base) T
  refine T.F_Back_shows.ok sc_Back_shows (fun vs H Q E h => ?_) (fun cdv A' outer s H vs Q E hr h => ?_)
  · obtain ⟨x, d, p, m, l, c, ps, pts, L, rfl, _⟩ := h; rfl
  · obtain ⟨x, d, p, m, l, c, ps, pts, L, rfl, ⟨⟨dx, hx⟩, ⟨tL, hd, hT⟩⟩, hRu, ⟨hc1, hc6, hlen, hps⟩, hl, hpl, hpts, k⟩ := h
    obtain ⟨⟨dp, hp⟩, _⟩ := id hRu
    have h64 : 2 ^ c ≤ 64 := Nat.pow_le_pow_right (by decide) hc6
    have hlL : (tL.map V.ref).length = L.length := by rw [List.length_map]; exact hT.len
    refine ⟨_, (pss_cons (ps_set (i := 3) sc_Back_shows.nd rfl (Or.inl rfl) (pe_meth0 (pv 1) T.cl_Rules T.mt_Rules_rules G_Rules_rules (hr.mono (by decide)) T.b_Rules_rules .nil pass0))
      (pss_cons (ps_set (i := 4) sc_Back_shows.nd rfl (Or.inl rfl) (pe_call G_sheet_of (hr.mono (by decide)) rfl T.m_sheet_of T.F_sheet_of.kp T.b_sheet_of .nil pass0 (pa_cons (pe_fldK K (pv 1)) (pa_cons (pv 2) pa_nil))))
      (pss_cons (ps_for PassesOwn.never rfl (pi_listK K (pe_fldK K (pv 0))) (pg_name (i := 5) sc_Back_shows.nd rfl (Or.inl rfl))
      (pss_cons (ps_if (pt_not (pt_val (pe_call G_is_step (hr.mono (by decide)) rfl T.m_is_step T.F_is_step.kp T.b_is_step .nil pass0 (pa_cons (pv 5) (pa_cons (pv 3) (pa_cons (pv 4) pa_nil)))))) (pss_one (ps_ret pe_bl)) pss_nil)
      (pss_one (ps_set (i := 4) sc_Back_shows.nd rfl (Or.inl rfl) (pe_call G_after_step (hr.mono (by decide)) rfl T.m_after_step T.F_after_step.kp T.b_after_step .nil pass0 (pa_cons (pv 4) (pa_cons (pe_ix (ix_tupK K) (pe_ix (ix_listK K) (pv 3) (pe_ix (ix_tupK K) (pv 5) pe_int (fun _ _ => rfl)) (fun _ _ => rfl)) pe_int (fun _ _ => rfl)) (pa_cons (pe_ix (ix_tupK K) (pv 5) pe_int (fun _ _ => rfl)) (pa_cons (pe_ix (ix_tupK K) (pv 5) pe_int (fun _ _ => rfl)) pa_nil)))))))))
      (pss_one (ps_ret (pe_cmpR (op_inD hr.units) (pe_op op_rep (pe_lst (pa_cons pe_int pa_nil)) (pe_fldK K (pv 1))) (pv 4) (by with_unfolding_all rfl))))))), ?_⟩
    refine ⟨_, rfl, p, dp, _, rfl, hp, flds_no _ _ (by decide +kernel) (by decide +kernel), p, m, c, ps, rfl, hRu, fun f tf hf htf => ?_⟩
    have s1 : Same H (upd H f (.lst (tf.map V.ref))) := Same.new hf
    have hf1 : (upd H f (.lst (tf.map V.ref))) f = some (.lst (tf.map V.ref)) := upd_same
    have htf1 := htf.same s1
    generalize upd H f (.lst (tf.map V.ref)) = H1 at s1 hf1 htf1 ⊢
    refine ⟨_, rfl, p, A.c_Rules, dp, _, _, rfl, s1 _ _ hp, T.cl_Rules, T.na_Rules_columns, flds_columns _ _, _, rfl, l, c, pts, rfl, s1 _ _ hl, hc6, hpl, hpts, fun g H2 hg s2 hN => ?_⟩
    have s02 := s1.trans s2
    obtain ⟨tg, hg2, hRg, _, _⟩ := hN
    refine ⟨_, rfl, x, A.c_Back, dx, _, _, rfl, s02 _ _ hx, T.cl_Back, T.na_Back_steps, fldB_steps _, d, rfl, ⟨_, SqL.of (s02 _ _ hd)⟩, for_list (K := K) (a := d) (xs := tL.map V.ref) (fun i σ' H' => Same H H' ∧ i ≤ L.length ∧ H' f = some (.lst (tf.map V.ref)) ∧ Tps H' tf ps ∧ ∃ (S : List (List Nat)) (gd : Addr) (o5 : Option V), runS c ps (L.take i) (sheetN c pts) = some S ∧ TblAt H' gd S ∧ σ' = [some (.ref x), some (.ref p), some (.ref l), some (.ref f), some (.ref gd), o5])
      ⟨s02, Nat.zero_le _, s2 _ _ hf1, htf1.same s2, _, g, none, rfl, ⟨tg, hg2, hRg⟩, rfl⟩ (fun i σ' H' _ ⟨e, _⟩ => SqL.of (e _ _ hd)) ?_ ?_⟩
    · rintro i v σ' H3 hv ⟨s3, hi, hf3, htf3, S, gd, o5, hrun, hS, rfl⟩
      obtain ⟨t, q, rfl, hq, ht⟩ := (hT.same s3).get hv
      have hi' : i < L.length := (List.getElem?_eq_some_iff.mp hq).1
      have hsh := Shp.run (Shp.sheet c pts) hrun
      have hrt := runS_take (c := c) (ps := ps) (S := sheetN c pts) hq
      rw [hrun] at hrt
      have hrt' : runS c ps (L.take (i + 1)) (sheetN c pts) = runS c ps [q] S := hrt
      refine ⟨_, rfl, _, rfl, _, rfl, t, f, gd, q, ps, S, rfl, ht, ⟨tf, hf3, htf3⟩, fun p hp => by have := (hps p hp).1; omega, hS, fun x hx => by rw [hsh.2 x hx]; exact hc6, fun H4 s4 => ⟨_, rfl, ?_⟩⟩
      have s04 := s3.trans s4
      cases hok : okS ps S q with
      | false =>
        refine iteT ?_
        have e : runS c ps L (sheetN c pts) = none := runS_no (i := i + 1) (by rw [hrt']; show (if okS ps S q = true then _ else none) = none; rw [hok]; exact if_neg (by decide))
        have z := k H4 s04
        rw [backB_no e] at z
        exact z
      | true =>
        refine iteF ?_
        have hok' := hok
        unfold okS at hok'
        rw [Bool.and_eq_true, Bool.and_eq_true, Bool.and_eq_true] at hok'
        obtain ⟨b1, b2, b3, _⟩ := hok'
        have b1 := of_decide_eq_true b1
        have b2 := of_decide_eq_true b2
        have b3 := of_decide_eq_true b3
        have htf4 := htf3.same s4
        have hlp : tf.length = ps.length := htf4.len
        have hpt : (tf.map V.ref)[q.1]? = some (.ref (tf[q.1]'(by omega))) := by rw [List.getElem?_map, List.getElem?_eq_getElem (by omega)]; rfl
        obtain ⟨tp, pr, ep, hpr, htp⟩ := htf4.get hpt
        rw [ep] at hpt
        have hgp : ps.getD q.1 (0, 0) = pr := by simp [List.getD, hpr]
        have hpb := hps pr (List.mem_of_getElem? hpr)
        have ht4 := s4 _ _ ht
        have hf4 := s4 _ _ hf3
        refine ⟨_, rfl, _, rfl, _, rfl, t, _, 0, _, rfl, rfl, SqT.of ht4, rfl, f, _, (q.1 : Int), _, rfl, rfl, SqL.of hf4, atI_nat hpt, tp, _, 1, _, rfl, rfl, SqT.of htp, rfl, _, rfl, t, _, 1, _, rfl, rfl, SqT.of ht4, rfl, _, rfl, t, _, 2, _, rfl, rfl, SqT.of ht4, rfl, gd, c, pr.2, q.2.1, q.2.2, S, rfl, hS.same s4, hc6, by rw [hsh.1]; exact hpl, hsh.2, b2, b3, by omega, fun e H5 he s5 hN5 => ?_⟩
        obtain ⟨us, hU1, hU2, _, _⟩ := hN5
        refine ⟨s04.trans s5, hi', s5 _ _ hf4, htf4.same s5, _, e, _, ?_, ⟨us, hU1, hU2⟩, rfl⟩
        rw [hrt', runS_one hok]
        unfold doS
        rw [hgp]
    · rintro σ' H3 ⟨s3, _, hf3, htf3, S, gd, o5, hrun, hS, rfl⟩
      rw [hlL, List.take_length] at hrun
      refine ⟨by show 1 ≤ sizeLine; decide, fun z hz => ?_⟩
      have sz : Same H3 (upd H3 z (.lst [.int 0])) := Same.new hz
      refine ⟨_, rfl, p, A.c_Rules, dp, _, _, rfl, sz _ _ (s3 _ _ hp), T.cl_Rules, T.na_Rules_columns, flds_columns _ _, z, (c : Int), [.int 0], rfl, rfl, upd_same, by omega, by omega, by rw [Int.toNat_natCast]; show 1 * c ≤ 2 ^ 24; omega, fun y hy => ?_⟩
      rw [rep_zero]
      have sy : Same (upd H3 z (.lst [.int 0])) (upd (upd H3 z (.lst [.int 0])) y (.lst (nums (List.replicate c 0)))) := Same.new hy
      refine ⟨_, rfl, rowD (List.replicate c 0), S.map rowD, rowD_dt upd_same, tbl_dt (hS.same (sz.trans sy)), lay_row' _, lay_rows _, depth_row' _, ?_⟩
      rw [if_neg (by decide), in_rows']
      have zz := k _ (s3.trans (sz.trans sy))
      rw [backB_at hrun] at zz
      exact zz
theorem ok_Lost_shows (T : Txt K mg A) : FnOk P w K mg base CX0 7 A.f_Lost_shows A.d_Lost_shows ["self", "rules", "parts"] (sp_Lost_shows A.c_Lost A.c_Rules) := by
  have G_Rules_rules := ok_Rules_rules (P := P) (w := w) (base := base) T
  have G_is_table := ok_is_table (P := P) (w := w) (base := base) T
  have G_is_row := ok_is_row (P := P) (w := w) (base := base) T
  have G_keeps_all := ok_keeps_all (P := P) (w := w) (base := base) T
  have G_makes := ok_makes (P := P) (w := w) (base := base) T
  refine T.F_Lost_shows.ok sc_Lost_shows (fun vs H Q E h => ?_) (fun cdv A' outer s H vs Q E hr h => ?_)
  · obtain ⟨x, a, b, p, m, l, c, ps, pts, S, r, rfl, _⟩ := h; rfl
  · obtain ⟨x, a, b, p, m, l, c, ps, pts, S, r, rfl, ⟨⟨dx, hx⟩, hS, hb⟩, hRu, ⟨hc1, hc6, hlen, hps⟩, hl, hpts, k⟩ := h
    obtain ⟨⟨dp, hp⟩, _⟩ := id hRu
    have h64 : 2 ^ c ≤ 64 := Nat.pow_le_pow_right (by decide) hc6
    refine ⟨_, (pss_cons (ps_if (PW.pt (pw_or (pt_not (pt_val (pe_call G_is_table (hr.mono (by decide)) rfl T.m_is_table T.F_is_table.kp T.b_is_table .nil pass0 (pa_cons (pe_fldK K (pv 0)) (pa_cons (pe_fldK K (pv 1)) pa_nil))))) (pw_or1 (pt_not (pt_val (pe_call G_is_row (hr.mono (by decide)) rfl T.m_is_row T.F_is_row.kp T.b_is_row .nil pass0 (pa_cons (pe_fldK K (pv 0)) (pa_cons (pe_fldK K (pv 1)) pa_nil)))))))) (pss_one (ps_ret pe_bl)) pss_nil)
      (pss_cons (ps_if (PW.pt (pw_or (pt_cmpR (op_inD hr.units) (pe_fldK K (pv 0)) (pe_fldK K (pv 0)) (by with_unfolding_all rfl)) (pw_or1 (pt_not (pt_val (pe_call G_keeps_all (hr.mono (by decide)) rfl T.m_keeps_all T.F_keeps_all.kp T.b_keeps_all .nil pass0 (pa_cons (pe_fldK K (pv 0)) (pa_cons (pe_meth0 (pv 1) T.cl_Rules T.mt_Rules_rules G_Rules_rules (hr.mono (by decide)) T.b_Rules_rules .nil pass0) pa_nil)))))))) (pss_one (ps_ret pe_bl)) pss_nil)
      (pss_one (ps_ret (pe_call G_makes (hr.mono (by decide)) rfl T.m_makes T.F_makes.kp T.b_makes .nil pass0 (pa_cons (pe_fldK K (pv 0)) (pa_cons (pv 2) (pa_cons (pe_fldK K (pv 0)) pa_nil)))))))), ?_⟩
    have no : ∀ H', Same H H' → lostB c ps pts S r = false → Q (.bl false) H' := fun H' s' e => by
      have z := k H' s'
      rw [e] at z
      exact z
    refine ⟨_, rfl, x, A.c_Lost, dx, _, _, rfl, hx, T.cl_Lost, T.na_Lost_table, fldL_table _ _, _, rfl, p, A.c_Rules, dp, _, _, rfl, hp, T.cl_Rules, T.na_Rules_columns, flds_columns _ _, a, c, S, rfl, hc6, hS, fun H1 s1 => ⟨_, rfl, ?_⟩⟩
    cases ht : tabB c S with
    | false =>
      refine iteT (iteT (no H1 s1 ?_))
      unfold lostB
      rw [ht, Bool.false_and]
    | true =>
      refine iteF ?_
      have gd := tabB_good ht
      refine ⟨_, rfl, x, A.c_Lost, dx, _, _, rfl, s1 _ _ hx, T.cl_Lost, T.na_Lost_row, fldL_row _ _, _, rfl, p, A.c_Rules, dp, _, _, rfl, s1 _ _ hp, T.cl_Rules, T.na_Rules_columns, flds_columns _ _, b, c, r, rfl, hc6, s1 _ _ hb, fun H2 s2 => ⟨_, rfl, ?_⟩⟩
      have s02 := s1.trans s2
      cases hrw : rowB c r with
      | false =>
        refine iteT (no H2 s02 ?_)
        unfold lostB
        rw [hrw, Bool.false_and, Bool.and_false]
      | true =>
        refine iteF ?_
        refine ⟨_, rfl, x, A.c_Lost, dx, _, _, rfl, s02 _ _ hx, T.cl_Lost, T.na_Lost_row, fldL_row _ _, _, rfl, x, A.c_Lost, dx, _, _, rfl, s02 _ _ hx, T.cl_Lost, T.na_Lost_table, fldL_table _ _, rowD r, S.map rowD, rowD_dt (s02 _ _ hb), tbl_dt (hS.same s02), lay_row' _, lay_rows _, depth_row' _, _, rfl, ?_⟩
        rw [if_neg (by decide), in_rows']
        by_cases hin : r ∈ S
        · rw [decide_eq_true hin]
          refine iteT (iteT (no H2 s02 ?_))
          unfold lostB
          rw [decide_eq_true hin]
          simp
        · rw [decide_eq_false hin]
          refine iteF ?_
          refine ⟨_, rfl, x, A.c_Lost, dx, _, _, rfl, s02 _ _ hx, T.cl_Lost, T.na_Lost_table, fldL_table _ _, _, rfl, p, dp, _, rfl, s02 _ _ hp, flds_no _ _ (by decide +kernel) (by decide +kernel), p, m, c, ps, rfl, hRu.same s02, fun f tf hf htf => ?_⟩
          have s3 : Same H2 (upd H2 f (.lst (tf.map V.ref))) := Same.new hf
          have s03 := s02.trans s3
          refine ⟨a, f, S, ps, rfl, hS.same s03, gd.1, fun y hy => by rw [(gd.2 y hy).1]; exact hc6, ⟨tf, upd_same, htf.same s3⟩, hlen, fun q hq => ⟨by have := (hps q hq).1; omega, by have := (hps q hq).2; omega⟩, fun H4 s4 => ⟨_, rfl, ?_⟩⟩
          have s04 := s03.trans s4
          cases hka : (ps.all fun p => decide (Keeps S p)) with
          | false =>
            refine iteT (no H4 s04 ?_)
            unfold lostB
            rw [hka, Bool.false_and, Bool.and_false, Bool.and_false, Bool.and_false]
          | true =>
            refine iteF ?_
            have hrl : r.length = c := by
              unfold rowB at hrw
              rw [Bool.and_eq_true] at hrw
              exact of_decide_eq_true hrw.1
            refine ⟨_, rfl, x, A.c_Lost, dx, _, _, rfl, s04 _ _ hx, T.cl_Lost, T.na_Lost_table, fldL_table _ _, _, rfl, _, rfl, x, A.c_Lost, dx, _, _, rfl, s04 _ _ hx, T.cl_Lost, T.na_Lost_row, fldL_row _ _, a, l, b, S, pts, r, rfl, hS.same s04, gd.1, fun y hy => by rw [(gd.2 y hy).1]; exact hc6, s04 _ _ hl, hpts, s04 _ _ hb, by omega, fun H5 s5 => ?_⟩
            have z := k H5 (s04.trans s5)
            unfold lostB at z
            rw [ht, hrw, decide_eq_false hin, hka] at z
            exact z
end
end K07

namespace K07
open PySem L2 TC
theorem shr64 : ∀ s, s < 64 → ∀ i, i < 6 → decide (((s / 2 ^ i) &&& 1) = 1) = s.testBit i := by decide +kernel
theorem shr_bit {s i : Nat} (hs : s < 64) (hi : i < 6) : decide (V.int (Builtin.bitAnd ((s : Int) / 2 ^ ((i : Int)).toNat) 1) = V.int 1) = s.testBit i := by
  have e : (s : Int) / 2 ^ ((i : Int)).toNat = ((s / 2 ^ i : Nat) : Int) := by rw [Int.toNat_natCast]; norm_cast
  rw [e, show Builtin.bitAnd ((s / 2 ^ i : Nat) : Int) 1 = ((s / 2 ^ i &&& 1 : Nat) : Int) from and_nat _ 1, ← shr64 s hs i hi]
  generalize s / 2 ^ i &&& 1 = z
  by_cases h : z = 1
  · subst h; rfl
  · rw [decide_eq_false h]
    refine decide_eq_false fun q => h ?_
    injection q with q
    omega
theorem cells_iff {x y : List Nat} (s : Nat) (h : x.length = y.length) : cellsN x s = cellsN y s ↔ ∀ j, j < x.length → s.testBit j = true → x.getD j 0 = y.getD j 0 := by
  unfold cellsN cellsI
  rw [← h, List.map_inj_left]
  constructor
  · intro z j h1 h2
    exact z j (List.mem_filter.mpr ⟨List.mem_range.mpr h1, h2⟩)
  · intro z j hj
    obtain ⟨h1, h2⟩ := List.mem_filter.mp hj
    exact z j (List.mem_range.mp h1) h2
def sp_like : Sp := fun vs H Q _ => ∃ (a b : Addr) (x y : List Nat) (s : Nat), vs = [.ref a, .ref b, .int (s : Nat)] ∧ H a = some (.lst (nums x)) ∧ H b = some (.lst (nums y)) ∧ x.length = y.length ∧ x.length ≤ 6 ∧ s < 64 ∧ Q (.bl (decide (cellsN x s = cellsN y s))) H
section
variable {P : Program} {w : World} {K : PySem.W.Frag} {mg : Str → Option Value} {base : Heap} {A : Adr}
theorem ok_law_like (T : Txt K mg A) : FnOk P w K mg base CX0 1 A.f_law_like A.d_law_like ["_law_one", "_law_other", "_law_some"] sp_like := by
  refine T.F_law_like.ok sc_law_like (fun vs H Q E h => ?_) (fun cdv A' outer s H vs Q E hr h => ?_)
  · obtain ⟨a, b, x, y, s, rfl, _⟩ := h; rfl
  · obtain ⟨a, b, x, y, s, rfl, ha, hb, hxy, hx6, hs, k⟩ := h
    refine ⟨_, (pss_cons (ps_for PassesOwn.never rfl (pi_range1 rfl T.z_range (pa_cons (pe_callB (call_lenK K) rfl T.z_len bt_len (pa_cons (pv 0) pa_nil)) pa_nil)) (pg_name (i := 3) sc_law_like.nd rfl (Or.inl rfl))
      (pss_one (ps_if (PW.pt (pw_and (pt_cmpR op_eq (pe_op op_and (pe_op op_shr (pv 2) (pv 3)) pe_int) pe_int (nomark _)) (pw_and1 (pt_cmpR op_ne (pe_ix (ix_listK K) (pv 0) (pv 3) (fun _ _ => rfl)) (pe_ix (ix_listK K) (pv 1) (pv 3) (fun _ _ => rfl)) (nomark _))))) (pss_one (ps_ret pe_bl)) pss_nil)))
      (pss_one (ps_ret pe_bl))), ?_⟩
    refine ⟨_, rfl, a, _, rfl, .inl (SqL.of ha), _, rfl, by rw [nums_len]; omega, by rw [nums_len]; omega, ?_⟩
    rw [nums_len, Int.toNat_natCast]
    refine for_range (lo := 0) (n := x.length) (fun i σ' H' => H' = H ∧ (∀ j, j < i → s.testBit j = true → x.getD j 0 = y.getD j 0) ∧ ∃ cv, σ' = [some (.ref a), some (.ref b), some (.int (s : Nat)), cv]) ⟨rfl, fun j hj => absurd hj (Nat.not_lt_zero _), none, rfl⟩ ?_ ?_
    · rintro i σ' H' hi ⟨rfl, i1, cv, rfl⟩
      rw [Int.zero_add]
      have h1 : (nums x)[i]? = some (.int (x.getD i 0 : Nat)) := by unfold nums; rw [List.getElem?_map, getD_at hi]; rfl
      have h2 : (nums y)[i]? = some (.int (y.getD i 0 : Nat)) := by unfold nums; rw [List.getElem?_map, getD_at (by omega)]; rfl
      refine ⟨_, rfl, _, rfl, (s : Int), (i : Int), rfl, rfl, Int.natCast_nonneg i, _, 1, rfl, rfl, rfl, _, rfl, ?_⟩
      rw [shr_bit hs (by omega)]
      have i2 : ∀ j, j < i + 1 → (j = i → s.testBit j = true → x.getD j 0 = y.getD j 0) → s.testBit j = true → x.getD j 0 = y.getD j 0 := fun j hj z ht => by
        rcases Nat.lt_or_ge j i with q | q
        · exact i1 j q ht
        · exact z (by omega) ht
      refine ite2 (fun e => ?_) (fun e => ?_)
      · refine ⟨_, rfl, _, rfl, a, _, (i : Int), _, rfl, rfl, SqL.of ha, atI_nat h1, _, rfl, _, rfl, b, _, (i : Int), _, rfl, rfl, SqL.of hb, atI_nat h2, rfl, _, rfl, ?_⟩
        refine ite2 (fun e2 => ?_) (fun e2 => ?_)
        · have hne : ¬ x.getD i 0 = y.getD i 0 := fun z => by rw [z] at e2; simp at e2
          have hk : decide (cellsN x s = cellsN y s) = false := decide_eq_false fun z => hne ((cells_iff s hxy).mp z i hi e)
          rw [hk] at k
          exact k
        · have heq : x.getD i 0 = y.getD i 0 := by
            have z : V.int ((x.getD i 0 : Nat) : Int) = V.int ((y.getD i 0 : Nat) : Int) := by simpa using e2
            injection z with z
            omega
          exact ⟨rfl, fun j hj ht => i2 j hj (fun q _ => by rw [q]; exact heq) ht, _, rfl⟩
      · exact ⟨rfl, fun j hj ht => i2 j hj (fun q ht => absurd (q ▸ ht) e) ht, _, rfl⟩
    · rintro σ' H' ⟨rfl, i1, cv, rfl⟩
      have hk : decide (cellsN x s = cellsN y s) = true := decide_eq_true ((cells_iff s hxy).mpr i1)
      rw [hk] at k
      exact k
end
/-- what stands through comes_back: the steps done lead from the sheet to S -/
structure Cbk (c : Nat) (ps : List (Nat × Nat)) (pts : List Nat) (L : List (Nat × Nat × Nat)) (S : List (List Nat)) : Prop where
  run : runS c ps L (sheetN c pts) = some S
  zp : ZP pts S
  dn : TC.Dn pts.length S
  few : L.length + 64 * tot c S ≤ 64 * tot c (sheetN c pts)
  lt : ∀ q ∈ L, q.1 < 64 ∧ q.2.1 < 64 ∧ q.2.2 < 64
theorem Cbk.shp {c : Nat} {ps : List (Nat × Nat)} {pts : List Nat} {L : List (Nat × Nat × Nat)} {S : List (List Nat)} (h : Cbk c ps pts L S) : Shp c pts.length S := Shp.run (Shp.sheet c pts) h.run
theorem cells_lk' {x y : List Nat} {s c : Nat} (hx : x.length = c) (hy : y.length = c) (hs : s < 2 ^ c) : cellsN x s = cellsN y s ↔ Lk s x y := by
  rw [cells_iff s (by rw [hx, hy]), hx]
  exact ⟨fun h j hj => h j (bit_lt hs hj) hj, fun h j _ hj => h j hj⟩
theorem tot_few {c : Nat} {pts : List Nat} (hc : c ≤ 6) (hp : pts.length ≤ 64) : 64 * tot c (sheetN c pts) ≤ 2000000 := by
  have h := tot_bound (c := c) (S := sheetN c pts) sheetN_le
  rw [sheetN_len] at h
  have h2 : pts.length * (c * pts.length) ≤ 64 * (6 * 64) := Nat.mul_le_mul hp (Nat.mul_le_mul hc hp)
  omega
theorem eqv_tables (A B : List (List Nat)) : PyData.eqv (.list (A.map rowD)) (.list (B.map rowD)) = decide (A = B) := by
  show PyData.eqvAll (A.map rowD) (B.map rowD) = _
  induction A generalizing B with
  | nil => cases B with
    | nil => rfl
    | cons b B => simp [PyData.eqvAll]
  | cons a A ih => cases B with
    | nil => simp [PyData.eqvAll]
    | cons b B =>
      show (PyData.eqv (rowD a) (rowD b) && PyData.eqvAll (A.map rowD) (B.map rowD)) = _
      rw [ih B, row_eqv']
      by_cases h1 : a = b
      · subst h1; simp
      · simp [h1]
def sp_comes_back (CB CL CR : Addr) : Sp := fun vs H Q _ => ∃ (x m l : Addr) (c : Nat) (ps : List (Nat × Nat)) (pts : List Nat), vs = [.ref x, .ref l] ∧ RulesAt CR H x m c ps ∧ Good c ps ∧ ps.length ≤ 8 ∧ H l = some (.lst (nums pts)) ∧ 1 ≤ pts.length ∧ pts.length < 64 ∧ (∀ p ∈ pts, 1 ≤ p ∧ p < 2 ^ c) ∧ pts.foldl (· ||| ·) 0 = 2 ^ c - 1 ∧
  (∀ (f d : Addr) (L : List (Nat × Nat × Nat)) (H' : Hp), H f = none → H d = none → Same H H' → BackAt CB H' f d L → backB c ps pts L = true → L.length ≤ 2000000 → (∀ q ∈ L, q.1 < 64 ∧ q.2.1 < 64 ∧ q.2.2 < 64) → Q (.ref f) H') ∧
  (∀ (f a b : Addr) (S : List (List Nat)) (H' : Hp), H f = none → H a = none → H b = none → Same H H' → LostAt CL H' f a b S (List.replicate c 0) → lostB c ps pts S (List.replicate c 0) = true → S.length ≤ 63 → Q (.ref f) H')
theorem tab_of {c : Nat} {pts : List Nat} {S : List (List Nat)} (hp : pts.length ≤ 64) (hs : Shp c pts.length S) (hd : TC.Dn pts.length S) : tabB c S = true := good_tabB ⟨by rw [hs.1]; exact hp, fun r hr => ⟨hs.2 r hr, fun n hn => by
  obtain ⟨j, hj⟩ := List.mem_iff_getElem?.mp hn
  have h := hd r hr j
  have : r.getD j 0 = n := by simp [List.getD, hj]
  omega⟩⟩
theorem row_zero (c : Nat) : rowB c (List.replicate c 0) = true := by
  unfold rowB
  rw [decide_eq_true (List.length_replicate), Bool.true_and]
  exact List.all_eq_true.mpr fun n hn => by rw [(List.mem_replicate.mp hn).2]; decide
theorem cells_zero {c p : Nat} {x : List Nat} (hx : x.length = c) (hp : p < 2 ^ c) (h : Zer p x) : cellsN (List.replicate c 0) p = cellsN x p := by
  rw [cells_lk' List.length_replicate hx hp]
  intro j hj
  rw [h j hj]
  simp [List.getD, List.getElem?_replicate]
  split <;> rfl
theorem mk_zero {c : Nat} {pts : List Nat} {S : List (List Nat)} (hp : ∀ p ∈ pts, p < 2 ^ c) (hs : Shp c pts.length S) (hz : ZP pts S) : mkB S pts (List.replicate c 0) = true := by
  refine List.all_eq_true.mpr fun p hpm => decide_eq_true ?_
  obtain ⟨i, hi⟩ := List.mem_iff_getElem?.mp hpm
  obtain ⟨x, hx, hzx⟩ := hz i p hi
  have hxm := List.mem_of_getElem? hx
  exact List.mem_map.mpr ⟨x, hxm, (cells_zero (hs.2 x hxm) (hp p hpm) hzx).symm⟩
/-- a table that B is no part of -/
def TabN (B : Addr) (H : Hp) (a : Addr) (S : List (List Nat)) : Prop := ∃ ts : List Addr, H a = some (.lst (ts.map V.ref)) ∧ Rws H ts S ∧ a ≠ B ∧ B ∉ ts
theorem TabN.at {B : Addr} {H : Hp} {a : Addr} {S : List (List Nat)} : TabN B H a S → TblAt H a S := fun ⟨ts, h, r, _⟩ => ⟨ts, h, r⟩
theorem TabN.same {B : Addr} {H H' : Hp} {a : Addr} {S : List (List Nat)} (e : Same H H') : TabN B H a S → TabN B H' a S := fun ⟨ts, h, r, n⟩ => ⟨ts, e _ _ h, r.same e, n⟩
theorem TabN.upd {B : Addr} {H : Hp} {a : Addr} {S : List (List Nat)} {o : HO} : TabN B H a S → TabN B (L2.upd H B o) a S := fun ⟨ts, h, r, n1, n2⟩ => ⟨ts, by rw [upd_ne n1]; exact h, Rws.upd r n2, n1, n2⟩
theorem TabN.new {B : Addr} {H0 H : Hp} {a : Addr} {S : List (List Nat)} {o : HO} (hB : H0 B = some o) (ha : H0 a = none) : NewRows H0 H a S → TabN B H a S := fun ⟨ts, h, r, n, _⟩ => ⟨ts, h, r, (fun z => by rw [z, hB] at ha; cases ha), (fun z => by have := (n B z).1; rw [hB] at this; cases this)⟩
theorem TabN.old {B : Addr} {H : Hp} {a : Addr} {S : List (List Nat)} (hB : H B = none) : TblAt H a S → TabN B H a S := by
  rintro ⟨ts, h, r⟩
  refine ⟨ts, h, r, (fun z => by rw [z, hB] at h; cases h), fun z => ?_⟩
  obtain ⟨j, hj⟩ := List.mem_iff_getElem?.mp z
  obtain ⟨t', r', e1, e2, e3⟩ := r.get (i := j) (v := .ref B) (by rw [List.getElem?_map, hj]; rfl)
  injection e1 with e1
  rw [← e1, hB] at e3
  cases e3
section
variable {P : Program} {w : World} {K : PySem.W.Frag} {mg : Str → Option Value} {base : Heap} {A : Adr}
theorem ok_comes_back (T : Txt K mg A) : FnOk P w K mg base CX0 7 A.f_comes_back A.d_comes_back ["rules", "parts"] (sp_comes_back A.c_Back A.c_Lost A.c_Rules) := by
  have G_need_parts := ok_need_parts (P := P) (w := w) (base := base) T
  have G_Rules_rules := ok_Rules_rules (P := P) (w := w) (base := base) T
  have G_sheet_of := ok_sheet_of (P := P) (w := w) (base := base) T
  have G_steps_by := ok_steps_by (P := P) (w := w) (base := base) T
  have G_after_step := ok_after_step (P := P) (w := w) (base := base) T
  have G_Back_init := ok_Back_init (P := P) (w := w) (base := base) T
  have G_Lost_init := ok_Lost_init (P := P) (w := w) (base := base) T
  refine T.F_comes_back.ok sc_comes_back (fun vs H Q E h => ?_) (fun cdv A' outer s H vs Q E hr h => ?_)
  · obtain ⟨x, m, l, c, ps, pts, rfl, _⟩ := h; rfl
  · obtain ⟨x, m, l, c, ps, pts, rfl, hRu, ⟨hc1, hc6, hlen, hps⟩, hp8, hl, hp1, hp63, hpts, hall, kB, kL⟩ := h
    obtain ⟨⟨dx, hx⟩, _⟩ := id hRu
    have h64 : 2 ^ c ≤ 64 := Nat.pow_le_pow_right (by decide) hc6
    have hpt2 : ∀ p ∈ pts, p < 2 ^ c := fun p hp => (hpts p hp).2
    refine ⟨_, (pss_cons (ps_expr (pe_call G_need_parts (hr.mono (by decide)) rfl T.m_need_parts T.F_need_parts.kp T.b_need_parts .nil pass0 (pa_cons (pe_fldK K (pv 0)) (pa_cons (pv 1) pa_nil))))
      (pss_cons (ps_set (i := 2) sc_comes_back.nd rfl (Or.inl rfl) (pe_meth0 (pv 0) T.cl_Rules T.mt_Rules_rules G_Rules_rules (hr.mono (by decide)) T.b_Rules_rules .nil pass0))
      (pss_cons (ps_set (i := 3) sc_comes_back.nd rfl (Or.inl rfl) (pe_call G_sheet_of (hr.mono (by decide)) rfl T.m_sheet_of T.F_sheet_of.kp T.b_sheet_of .nil pass0 (pa_cons (pe_fldK K (pv 0)) (pa_cons (pv 1) pa_nil))))
      (pss_cons (ps_set (i := 4) sc_comes_back.nd rfl (Or.inl rfl) (pe_op op_rep (pe_lst (pa_cons pe_int pa_nil)) (pe_fldK K (pv 0))))
      (pss_cons (ps_set (i := 5) sc_comes_back.nd rfl (Or.inl rfl) (pe_lst pa_nil))
      (pss_cons (ps_set (i := 6) sc_comes_back.nd rfl (Or.inl rfl) pe_non)
      (pss_cons (ps_while PassesOwn.never (PW.pt (pw_and (pt_cmpR (op_neD hr.units) (pv 3) (pv 6) (nomark _)) (pw_and1 (pt_cmpR (op_notInD hr.units) (pv 4) (pv 3) (by with_unfolding_all rfl))))) (pss_cons (ps_set (i := 6) sc_comes_back.nd rfl (Or.inl rfl) (pv 3))
      (pss_one (ps_for PassesOwn.never rfl (pi_enumK K rfl T.z_enumerate bt_enumerate (pa_cons (pv 2) pa_nil)) (pg_tupK K (n := 2) rfl (pgs_cons (pg_name (i := 7) sc_comes_back.nd rfl (Or.inl rfl)) (pgs_cons (pg_name (i := 8) sc_comes_back.nd rfl (Or.inl rfl)) pgs_nil)))
      (pss_one (ps_for PassesOwn.never rfl (pi_listK K (pe_call G_steps_by (hr.mono (by decide)) rfl T.m_steps_by T.F_steps_by.kp T.b_steps_by .nil pass0 (pa_cons (pv 3) (pa_cons (pv 7) (pa_cons (pv 8) pa_nil))))) (pg_name (i := 9) sc_comes_back.nd rfl (Or.inl rfl))
      (pss_cons (ps_set (i := 3) sc_comes_back.nd rfl (Or.inl rfl) (pe_call G_after_step (hr.mono (by decide)) rfl T.m_after_step T.F_after_step.kp T.b_after_step .nil pass0 (pa_cons (pv 3) (pa_cons (pe_ix (ix_tupK K) (pv 8) pe_int (fun _ _ => rfl)) (pa_cons (pe_ix (ix_tupK K) (pv 9) pe_int (fun _ _ => rfl)) (pa_cons (pe_ix (ix_tupK K) (pv 9) pe_int (fun _ _ => rfl)) pa_nil))))))
      (pss_one (ps_expr (pe_appendK K (pv 5) (pa_cons (pv 9) pa_nil)))))))))))
      (pss_cons (ps_if (pt_cmpR (op_inD hr.units) (pv 4) (pv 3) (by with_unfolding_all rfl)) (pss_one (ps_ret (pe_make T.mk_Back G_Back_init (hr.mono (by decide)) rfl T.m_Back T.b_Back_init .nil pass0 (pa_cons (pv 5) pa_nil)))) pss_nil)
      (pss_one (ps_ret (pe_make T.mk_Lost G_Lost_init (hr.mono (by decide)) rfl T.m_Lost T.b_Lost_init .nil pass0 (pa_cons (pv 3) (pa_cons (pv 4) pa_nil))))))))))))), ?_⟩
    refine ⟨_, rfl, x, A.c_Rules, dx, _, _, rfl, hx, T.cl_Rules, T.na_Rules_columns, flds_columns _ _, _, rfl, l, c, pts, rfl, hc6, hl, hp1, by omega, hpts, hall, ?_⟩
    refine ⟨_, rfl, x, dx, _, rfl, hx, flds_no _ _ (by decide +kernel) (by decide +kernel), x, m, c, ps, rfl, hRu, fun f tf hf htf => ?_⟩
    have s1 : Same H (upd H f (.lst (tf.map V.ref))) := Same.new hf
    have hf1 : (upd H f (.lst (tf.map V.ref))) f = some (.lst (tf.map V.ref)) := upd_same
    have htf1 := htf.same s1
    generalize upd H f (.lst (tf.map V.ref)) = H1 at s1 hf1 htf1 ⊢
    have hlp : (tf.map V.ref).length = ps.length := by rw [List.length_map]; exact htf1.len
    refine ⟨_, rfl, x, A.c_Rules, dx, _, _, rfl, s1 _ _ hx, T.cl_Rules, T.na_Rules_columns, flds_columns _ _, _, rfl, l, c, pts, rfl, s1 _ _ hl, hc6, by omega, fun p hp => by have := hpt2 p hp; omega, fun g H2 hg s2 hN => ?_⟩
    have s02 := s1.trans s2
    obtain ⟨tg, hg2, hRg, _, _⟩ := hN
    refine ⟨by show 1 ≤ sizeLine; decide, fun z hz => ?_⟩
    have sz : Same H2 (upd H2 z (.lst [.int 0])) := Same.new hz
    refine ⟨_, rfl, x, A.c_Rules, dx, _, _, rfl, sz _ _ (s02 _ _ hx), T.cl_Rules, T.na_Rules_columns, flds_columns _ _, z, (c : Int), [.int 0], rfl, rfl, upd_same, by omega, by omega, by rw [Int.toNat_natCast]; show 1 * c ≤ 2 ^ 24; omega, fun y hy => ?_⟩
    rw [rep_zero]
    have sy : Same (upd H2 z (.lst [.int 0])) (upd (upd H2 z (.lst [.int 0])) y (.lst (nums (List.replicate c 0)))) := Same.new hy
    have hy2 : (upd (upd H2 z (.lst [.int 0])) y (.lst (nums (List.replicate c 0)))) y = some (.lst (nums (List.replicate c 0))) := upd_same
    have s2y := sz.trans sy
    generalize upd (upd H2 z (.lst [.int 0])) y (.lst (nums (List.replicate c 0))) = H3 at sy hy2 s2y ⊢
    refine ⟨Nat.zero_le _, fun B hB => ?_⟩
    have sB : Same H3 (upd H3 B (.lst [])) := Same.new hB
    have s3B := s2y.trans sB
    have s0B := s02.trans s3B
    have hBH : H B = none := (s02.trans s2y).free hB
    have hyB := sB _ _ hy2
    have hBB : (upd H3 B (.lst [])) B = some (.lst ([] : List V)) := upd_same
    have hf4 := s3B _ _ (s2 _ _ hf1)
    have htf4 := (htf1.same s2).same s3B
    have hTg4 : TabN B (upd H3 B (.lst [])) g (sheetN c pts) := (TabN.old hB (TblAt.same s2y ⟨tg, hg2, hRg⟩)).same sB
    have nyB : y ≠ B := ne_of_none hy2 hB
    have nfB : f ≠ B := ne_of_none (s2y _ _ (s2 _ _ hf1)) hB
    generalize upd H3 B (.lst []) = H4 at sB s3B s0B hyB hBB hf4 htf4 hTg4 ⊢
    have hst : ∀ {H' : Hp} {gd : Addr} {S : List (List Nat)}, TblAt H' gd S → Dt H' (.ref gd) (.list (S.map rowD)) := fun h => tbl_dt h
    have dS : ∀ S : List (List Nat), (PyData.list (S.map rowD)).depth ≤ 60 := fun S => by
      show PyData.depthAll _ + 1 ≤ 60
      have := depth_rows S
      omega
    -- while
    refine while_m (fun n σ H' => ∃ (S : List (List Nat)) (L : List (Nat × Nat × Nat)) (gd : Addr) (us : List Addr) (bf : V) (o7 o8 o9 : Option V), Same H H' ∧ TabN B H' gd S ∧ H' B = some (.lst (us.map V.ref)) ∧ Trs H' us L ∧ Cbk c ps pts L S ∧ H' y = some (.lst (nums (List.replicate c 0))) ∧ H' f = some (.lst (tf.map V.ref)) ∧ Tps H' tf ps ∧
        ((bf = .non ∧ n = 2 * tot c S + 2) ∨ ∃ (bd : Addr) (S0 : List (List Nat)), bf = .ref bd ∧ TabN B H' bd S0 ∧ ((S = S0 ∧ (∀ p ∈ ps, Keeps S p) ∧ n = 2 * tot c S) ∨ (S ≠ S0 ∧ n = 2 * tot c S + 1))) ∧
        σ = [some (.ref x), some (.ref l), some (.ref f), some (.ref gd), some (.ref y), some (.ref B), some bf, o7, o8, o9])
      (2 * tot c (sheetN c pts) + 2) ⟨_, [], g, [], .non, none, none, none, s0B, hTg4, hBB, trivial, ⟨rfl, ZP.sheet hpt2, sheetN_le, by simp, fun q hq => by simp at hq⟩, hyB, hf4, htf4, .inl ⟨rfl, rfl⟩, rfl⟩ ?_ ?_
    · rintro n σ H5 ⟨S, L, gd, us, bf, o7, o8, o9, s5, hS, hBl, hU, hC, hy5, hf5, htf5, hbf, rfl⟩
      have hsh := hC.shp
      have hfew := tot_few (c := c) (pts := pts) hc6 (by omega)
      -- behind the loop
      suffices after : ((∀ p ∈ ps, Keeps S p) ∨ List.replicate c 0 ∈ S) → tSeq _ _ { nx := fun x H' => Q V.non H', rt := Q } [some (.ref x), some (.ref l), some (.ref f), some (.ref gd), some (.ref y), some (.ref B), some bf, o7, o8, o9] H5 by
        -- the test
        obtain ⟨d2, hd2, lay2, e1, e2⟩ : ∃ d2 : PyData, Dt H5 bf d2 ∧ d2.canLay0 = true ∧ (PyData.eqv (.list (S.map rowD)) d2 = true → ∀ p ∈ ps, Keeps S p) ∧ (PyData.eqv (.list (S.map rowD)) d2 = false → 2 * tot c S < n) := by
          rcases hbf with ⟨rfl, rfl⟩ | ⟨bd, S0, rfl, hbd, h⟩
          · exact ⟨.none, .non, rfl, fun z => by simp [PyData.eqv] at z, fun _ => by omega⟩
          · refine ⟨.list (S0.map rowD), hst hbd.at, lay_rows S0, fun z => ?_, fun z => ?_⟩
            · rw [eqv_tables] at z
              have z' := of_decide_eq_true z
              rcases h with ⟨_, h, _⟩ | ⟨h, _⟩
              · exact h
              · exact absurd z' h
            · rw [eqv_tables] at z
              rcases h with ⟨h, _⟩ | ⟨_, h⟩
              · rw [decide_eq_true h] at z; cases z
              · omega
        refine ⟨_, rfl, _, rfl, .list (S.map rowD), d2, hst hS.at, hd2, lay_rows S, lay2, dS S, _, rfl, ?_⟩
        rw [if_pos rfl]
        cases he : PyData.eqv (.list (S.map rowD)) d2 with
        | true => exact iteF (iteF (after (.inl (e1 he))))
        | false =>
          refine iteT ?_
          refine ⟨_, rfl, _, rfl, rowD (List.replicate c 0), S.map rowD, rowD_dt hy5, hst hS.at, lay_row' _, lay_rows _, depth_row' _, _, rfl, ?_⟩
          rw [if_pos rfl, in_rows']
          by_cases hz : List.replicate c 0 ∈ S
          · rw [decide_eq_true hz]
            exact iteF (after (.inr hz))
          rw [decide_eq_false hz]
          refine iteT ?_
          have hn := e2 he
          refine ⟨_, rfl, _, rfl, f, tf.map V.ref, rfl, hf5, ?_⟩
          refine for_enum (K := K) (a := f) (xs := tf.map V.ref) (fun i σ H' => ∃ (S1 : List (List Nat)) (L1 : List (Nat × Nat × Nat)) (g1 : Addr) (us1 : List Addr) (o7 o8 o9 : Option V), i ≤ ps.length ∧ Same H H' ∧ TabN B H' gd S ∧ TabN B H' g1 S1 ∧ H' B = some (.lst (us1.map V.ref)) ∧ Trs H' us1 L1 ∧ Cbk c ps pts L1 S1 ∧ H' y = some (.lst (nums (List.replicate c 0))) ∧ H' f = some (.lst (tf.map V.ref)) ∧ Tps H' tf ps ∧
              (tot c S1 < tot c S ∨ (S1 = S ∧ ∀ p ∈ ps.take i, Keeps S p)) ∧ σ = [some (.ref x), some (.ref l), some (.ref f), some (.ref g1), some (.ref y), some (.ref B), some (.ref gd), o7, o8, o9])
            ⟨S, L, gd, us, o7, o8, o9, Nat.zero_le _, s5, hS, hS, hBl, hU, hC, hy5, hf5, htf5, .inr ⟨rfl, fun p hp => by simp at hp⟩, rfl⟩ (fun i σ H' _ ⟨_, _, _, _, _, _, _, _, _, _, _, _, _, _, _, e, _⟩ => e) ?_ ?_
          · rintro i v σ H6 q hv ⟨S1, L1, g1, us1, o7, o8, o9, hi, s6, hS6, hS1, hB6, hU6, hC1, hy6, hf6, htf6, htot, rfl⟩ hq
            obtain ⟨t, p, rfl, hp, ht⟩ := htf6.get hv
            have hi' : i < ps.length := (List.getElem?_eq_some_iff.mp hp).1
            have hpm := List.mem_of_getElem? hp
            have hpb := hps p hpm
            have hgp : ps.getD i (0, 0) = p := by simp [List.getD, hp]
            have hsh1 := hC1.shp
            have sq : Same H6 (upd H6 q (.tup [.int (i : Nat), .ref t])) := Same.new hq
            refine ⟨q, _, rfl, SqT.of upd_same, rfl, _, _, rfl, _, _, rfl, rfl, ?_⟩
            refine ⟨_, rfl, _, rfl, _, rfl, g1, t, i, S1, p, rfl, hS1.at.same sq, by rw [hsh1.1]; omega, fun r hr => by rw [hsh1.2 r hr]; exact hc6, sq _ _ ht, by omega, by omega, fun d2 L2 H7 hd2 s7 hT2 hBy hL2 hKe => ?_⟩
            have s67 := sq.trans s7
            obtain ⟨ts2, hd7, hT7⟩ := hT2
            have hl2 : (ts2.map V.ref).length = L2.length := by rw [List.length_map]; exact hT7.len
            have nd2B : d2 ≠ B := fun z => by
              have := sq _ _ hB6
              rw [← z, hd2] at this
              cases this
            refine ⟨d2, rfl, ⟨_, SqL.of hd7⟩, for_list (K := K) (a := d2) (xs := ts2.map V.ref) (fun n σ H' => ∃ (S2 : List (List Nat)) (g2 : Addr) (us2 : List Addr) (o9 : Option V), n ≤ L2.length ∧ Same H H' ∧ TabN B H' gd S ∧ TabN B H' g2 S2 ∧ H' B = some (.lst (us2.map V.ref)) ∧ Trs H' us2 (L1 ++ L2.take n) ∧ Cbk c ps pts (L1 ++ L2.take n) S2 ∧ Lks p.1 S1 S2 ∧ ((n = 0 ∧ S2 = S1) ∨ (0 < n ∧ tot c S2 < tot c S1)) ∧ H' y = some (.lst (nums (List.replicate c 0))) ∧ H' f = some (.lst (tf.map V.ref)) ∧ Tps H' tf ps ∧ H' t = some (.tup [.int (p.1 : Nat), .int (p.2 : Nat)]) ∧ H' d2 = some (.lst (ts2.map V.ref)) ∧ Trs H' ts2 L2 ∧
                σ = [some (.ref x), some (.ref l), some (.ref f), some (.ref g2), some (.ref y), some (.ref B), some (.ref gd), some (.int (i : Nat)), some (.ref t), o9])
              ⟨S1, g1, us1, _, Nat.zero_le _, s6.trans s67, hS6.same s67, hS1.same s67, s67 _ _ hB6, by rw [List.take_zero, List.append_nil]; exact hU6.same s67, by rw [List.take_zero, List.append_nil]; exact hC1, Lks.refl _ _, .inl ⟨rfl, rfl⟩, s67 _ _ hy6, s67 _ _ hf6, htf6.same s67, s67 _ _ ht, hd7, hT7, rfl⟩ (fun n σ H' _ ⟨_, _, _, _, _, _, _, _, _, _, _, _, _, _, _, _, _, e, _⟩ => SqL.of e) ?_ ?_⟩
            · rintro k2 v2 σ H8 hv2 ⟨S2, g2, us2, o9, hk, s8, hS8, hS2, hB8, hU8, hC2, hLk, htt, hy8, hf8, htf8, ht8, hd8, hT8, rfl⟩
              obtain ⟨t2, q2, rfl, hq2, ht2⟩ := hT8.get hv2
              have hk' : k2 < L2.length := (List.getElem?_eq_some_iff.mp hq2).1
              obtain ⟨qa, qb, qc, qd, qe⟩ := hBy q2 (List.mem_of_getElem? hq2)
              have hsh2 := hC2.shp
              have ea := getD_mem qb
              have eb := getD_mem qc
              have ea2 := getD_mem (S := S2) (i := q2.2.1) (by rw [hsh2.1, ← hsh1.1]; exact qb)
              have eb2 := getD_mem (S := S2) (i := q2.2.2) (by rw [hsh2.1, ← hsh1.1]; exact qc)
              have wa := hsh1.2 _ (List.mem_of_getElem? ea)
              have wb := hsh1.2 _ (List.mem_of_getElem? eb)
              have wa2 := hsh2.2 _ (List.mem_of_getElem? ea2)
              have wb2 := hsh2.2 _ (List.mem_of_getElem? eb2)
              have hlk1 := (cells_lk' wa wb hpb.1).mp qd
              have hlk2 := hLk.two ea eb ea2 eb2 hlk1
              have hok : okS ps S2 q2 = true := by
                unfold okS
                rw [qa, hgp, decide_eq_true hi', decide_eq_true (show q2.2.1 < S2.length by rw [hsh2.1, ← hsh1.1]; exact qb), decide_eq_true (show q2.2.2 < S2.length by rw [hsh2.1, ← hsh1.1]; exact qc), decide_eq_true ((cells_lk' wa2 wb2 hpb.1).mpr hlk2)]
                rfl
              have hdo : doS c ps S2 q2 = stepS c p.2 q2.2.1 q2.2.2 S2 := by unfold doS; rw [qa, hgp]
              refine ⟨_, rfl, _, rfl, t, _, 1, _, rfl, rfl, SqT.of ht8, rfl, _, rfl, t2, _, 1, _, rfl, rfl, SqT.of ht2, rfl, _, rfl, t2, _, 2, _, rfl, rfl, SqT.of ht2, rfl, g2, c, p.2, q2.2.1, q2.2.2, S2, rfl, hS2.at, hc6, by rw [hsh2.1]; omega, hsh2.2, by rw [hsh2.1, ← hsh1.1]; exact qb, by rw [hsh2.1, ← hsh1.1]; exact qc, by omega, fun g3 H9 hg3 s9 hN9 => ?_⟩
              have hT9 := TabN.new hB8 hg3 hN9
              have hB9 := s9 _ _ hB8
              have hUl : us2.length = L1.length + k2 := by rw [hU8.len, List.length_append, List.length_take]; omega
              have hfew2 := hC2.few
              refine ⟨_, rfl, .inl ⟨rfl, _, SqL.of hB9⟩, _, rfl, B, _, _, rfl, rfl, hB9, by
                rw [List.length_map, hU8.len]
                have := hC2.few
                show _ < 2 ^ 24
                omega, ?_⟩
              have etk : L1 ++ L2.take (k2 + 1) = (L1 ++ L2.take k2) ++ [q2] := by rw [List.take_add_one, hq2, List.append_assoc]; rfl
              have hBH9 : ∀ {b : Addr} {o : HO}, H9 b = some o → b ≠ B → (upd H9 B (.lst (us2.map V.ref ++ [.ref t2]))) b = some o := fun h n => by rw [upd_ne n]; exact h
              have nB : ∀ {b : Addr} {xs : List V}, H9 b = some (.tup xs) → b ≠ B := fun h => ne_of h hB9 (by intro z; cases z)
              have hlt0 : tot c (stepS c p.2 q2.2.1 q2.2.2 S2) < tot c S1 := by
                rcases htt with ⟨rfl, rfl⟩ | ⟨_, h⟩
                · obtain ⟨j, hj, hb, hne⟩ := not_lk hpb.2 (fun z => qe ((cells_lk' wa wb hpb.2).mpr z))
                  exact tot_lt (c := c) ea eb hj hb hne
                · exact Nat.lt_of_le_of_lt (tot_le _ _ _ _ _) h
              have hnew : Cbk c ps pts (L1 ++ L2.take (k2 + 1)) (stepS c p.2 q2.2.1 q2.2.2 S2) := by
                rw [etk]
                refine ⟨?_, hC2.zp.step, hC2.dn.step, ?_, fun q hq => ?_⟩
                · rw [runS_append, hC2.run]
                  show runS c ps [q2] S2 = _
                  rw [runS_one hok, hdo]
                · have h1 := hC1.few
                  rw [List.length_append, List.length_append, List.length_take]
                  show L1.length + min k2 L2.length + 1 + _ ≤ _
                  have hl : L2.length ≤ 63 := by rw [hsh1.1] at hL2; omega
                  omega
                · rcases List.mem_append.mp hq with h | h
                  · exact hC2.lt q h
                  · rw [List.mem_singleton.mp h]
                    rw [hsh1.1] at qb qc
                    exact ⟨by omega, by omega, by omega⟩
              refine ⟨_, g3, us2 ++ [t2], _, hk', Same.up (s8.trans s9) hBH, (hS8.same s9).upd, hT9.upd, by rw [upd_same, List.map_append]; rfl, ?_, hnew, hLk.step hpb.1 ea2 eb2 hlk2, .inr ⟨Nat.succ_pos _, hlt0⟩, hBH9 (s9 _ _ hy8) nyB, hBH9 (s9 _ _ hf8) nfB, Tps.upd hB9 (htf8.same s9), hBH9 (s9 _ _ ht8) (nB (s9 _ _ ht8)), hBH9 (s9 _ _ hd8) nd2B, Trs.upd hB9 (hT8.same s9), rfl⟩
              rw [etk]
              exact Trs.upd hB9 (Trs.snoc (s9 _ _ ht2) (hU8.same s9))
            · rintro σ H8 ⟨S2, g2, us2, o9, _, s8, hS8, hS2, hB8, hU8, hC2, hLk, htt, hy8, hf8, htf8, ht8, hd8, hT8, rfl⟩
              rw [hl2, List.take_length] at hU8 hC2
              refine ⟨S2, L1 ++ L2, g2, us2, _, _, _, hi', s8, hS8, hS2, hB8, hU8, hC2, hy8, hf8, htf8, ?_, rfl⟩
              rcases htt with ⟨h0, rfl⟩ | ⟨_, h⟩
              · have hL0 : L2 = [] := List.length_eq_zero_iff.mp (by rw [← hl2]; exact h0)
                rcases htot with h | ⟨rfl, h⟩
                · exact .inl h
                · refine .inr ⟨rfl, fun r hr => ?_⟩
                  rcases (take_mem hp).mp hr with hr | rfl
                  · exact h r hr
                  · exact hKe hL0
              · rcases htot with h' | ⟨rfl, _⟩
                · exact .inl (by omega)
                · exact .inl h
          · rintro σ H6 ⟨S1, L1, g1, us1, o7, o8, o9, _, s6, hS6, hS1, hB6, hU6, hC1, hy6, hf6, htf6, htot, rfl⟩
            rw [hlp, List.take_length] at htot
            rcases htot with h | ⟨rfl, h⟩
            · exact ⟨2 * tot c S1 + 1, by omega, S1, L1, g1, us1, .ref gd, _, _, _, s6, hS1, hB6, hU6, hC1, hy6, hf6, htf6, .inr ⟨gd, S, rfl, hS6, .inr ⟨fun z => by rw [z] at h; exact Nat.lt_irrefl _ h, rfl⟩⟩, rfl⟩
            · exact ⟨2 * tot c S1, hn, S1, L1, g1, us1, .ref gd, _, _, _, s6, hS1, hB6, hU6, hC1, hy6, hf6, htf6, .inr ⟨gd, S1, rfl, hS6, .inl ⟨rfl, h, rfl⟩⟩, rfl⟩
      intro hKP
      refine ⟨_, rfl, _, rfl, rowD (List.replicate c 0), S.map rowD, rowD_dt hy5, hst hS.at, lay_row' _, lay_rows _, depth_row' _, _, rfl, ?_⟩
      rw [if_neg (by decide), in_rows']
      refine ite2 (fun e => ?_) (fun e => ?_)
      · have e' := of_decide_eq_true e
        refine ⟨_, rfl, fun q dq nq ndq neq => ?_⟩
        have s6 : Same H5 (upd (upd H5 dq (.own q)) q (.ins A.c_Back dq [])) := Same.up (Same.new ndq) nq
        refine ⟨q, dq, B, L, rfl, upd_same, ⟨us, s6 _ _ hBl, hU.same s6⟩, fun d H6 hd hBk kp => ⟨rfl, ?_⟩⟩
        have s7 : Same H5 H6 := fun b o e => kp b o (s6 b o e) (ne_of_none e nq)
        exact kB q d L H6 (s5.free nq) (s5.free (s6.free hd)) (s5.trans s7) hBk (by rw [backB_at hC.run]; exact decide_eq_true e') (by have := hC.few; omega) hC.lt
      · have e' : ¬ List.replicate c 0 ∈ S := fun z => e (decide_eq_true z)
        have hK := hKP.resolve_right e'
        refine ⟨_, rfl, _, rfl, fun q dq nq ndq neq => ?_⟩
        have s6 : Same H5 (upd (upd H5 dq (.own q)) q (.ins A.c_Lost dq [])) := Same.up (Same.new ndq) nq
        refine ⟨q, dq, gd, y, S, List.replicate c 0, rfl, upd_same, hS.at.same s6, by rw [hsh.1]; omega, s6 _ _ hy5, fun a b H6 ha hb hLo kp => ⟨rfl, ?_⟩⟩
        have s7 : Same H5 H6 := fun b o e => kp b o (s6 b o e) (ne_of_none e nq)
        refine kL q a b S H6 (s5.free nq) (s5.free (s6.free ha)) (s5.free (s6.free hb)) (s5.trans s7) hLo ?_ (by rw [hsh.1]; omega)
        unfold lostB
        rw [tab_of (by omega) hsh hC.dn, row_zero, decide_eq_false e', mk_zero hpt2 hsh hC.zp, List.all_eq_true.mpr fun p hp => decide_eq_true (hK p hp)]
        rfl
    · intro σ H Q Q' hq h
      obtain ⟨v, e, u, e', d1, d2, a1, a2, a3, a4, a5, b, eb, q⟩ := h
      refine ⟨v, e, u, e', d1, d2, a1, a2, a3, a4, a5, b, eb, ?_⟩
      cases b with
      | true =>
        rw [if_pos rfl] at q ⊢
        obtain ⟨v, e, u, e', d1, d2, a1, a2, a3, a4, a5, b, eb, q⟩ := q
        exact ⟨v, e, u, e', d1, d2, a1, a2, a3, a4, a5, b, eb, hq _ _ q⟩
      | false =>
        rw [if_neg (by decide)] at q ⊢
        exact hq _ _ q
end
end K07

namespace K07
open PySem L2 TC
def sp_cell_at (K : PySem.W.Frag) : Sp := fun vs H Q _ => ∃ (a : Addr) (ns : List Int) (k : Nat), vs = [.ref a, .int (k : Nat)] ∧ SqL K H a (ns.map V.int) ∧ ∀ x : Int, Q (.int x) H
def sp_draw : Sp := fun vs H Q _ => ∃ (x : Int) (k : Nat) (m : Nat), vs = [.int x, .int (k : Nat), .int (m : Nat)] ∧ 0 < m ∧ m < 1000 ∧ ∀ r : Nat, r < m → Q (.int (r : Nat)) H
def sp_set : Sp := fun vs H Q _ => ∃ (x : Int) (c : Nat), vs = [.int x, .int (c : Nat)] ∧ c ≤ 6 ∧ ∀ s : Nat, s < 2 ^ c → Q (.int (s : Nat)) H
def sp_pairs : Sp := fun vs H Q _ => ∃ (x : Int) (c m : Nat), vs = [.int x, .int (c : Nat), .int (m : Nat)] ∧ c ≤ 6 ∧ m ≤ 64 ∧
  ∀ (l : Addr) (ps : List (Nat × Nat)) (H' : Hp), H l = none → Same H H' → PrsAt H' l ps → ps.length ≤ m → (∀ p ∈ ps, p.1 < 2 ^ c ∧ p.2 < 2 ^ c) → Q (.ref l) H'
section
variable {P : Program} {w : World} {K : PySem.W.Frag} {mg : Str → Option Value} {base : Heap} {A : Adr}
/-! ### the law's own defs -/
theorem ok_law_cell_at (T : Txt K mg A) : FnOk P w K mg base CX0 1 A.f_law_cell_at A.d_law_cell_at ["_law_script", "_law_k"] (sp_cell_at K) := by
  refine T.F_law_cell_at.ok sc_law_cell_at (fun vs H Q E h => ?_) (fun cdv A' outer s H vs Q E hr h => ?_)
  · obtain ⟨a, ns, n, rfl, _⟩ := h; rfl
  · obtain ⟨a, ns, n, rfl, hS, k⟩ := h
    refine ⟨_, (pss_cons (ps_if (pt_cmpR op_lt (pv 1) (pe_callB (call_lenK K) rfl T.z_len bt_len (pa_cons (pv 0) pa_nil)) (nomark _)) (pss_one (ps_ret (pe_ix (ix_listK K) (pv 0) (pv 1) (fun _ _ => rfl)))) pss_nil)
      (pss_one (ps_ret pe_int))), ?_⟩
    refine ⟨_, rfl, _, rfl, a, _, rfl, .inl hS, _, _, rfl, rfl, _, rfl, ?_⟩
    refine ite2 (fun e => ?_) (fun e => ?_)
    · have e' := of_decide_eq_true e
      rw [List.length_map] at e'
      have hi : n < ns.length := by omega
      have hg : (ns.map V.int)[n]? = some (.int ns[n]) := by rw [List.getElem?_map, List.getElem?_eq_getElem hi]; rfl
      exact ⟨_, rfl, _, rfl, a, _, (n : Int), _, rfl, rfl, hS, atI_nat hg, k _⟩
    · exact k 0
theorem ok_law_draw (T : Txt K mg A) : FnOk P w K mg base CX0 1 A.f_law_draw A.d_law_draw ["_law_cell", "_law_k", "_law_many"] sp_draw := by
  refine T.F_law_draw.ok sc_law_draw (fun vs H Q E h => ?_) (fun cdv A' outer s H vs Q E hr h => ?_)
  · obtain ⟨x, n, m, rfl, _⟩ := h; rfl
  · obtain ⟨x, n, m, rfl, hm, hm2, k⟩ := h
    refine ⟨_, (pss_cons (ps_set (i := 3) sc_law_draw.nd rfl (Or.inl rfl) (pe_op op_mod (pe_op op_add (pe_op op_add (pe_op op_mul (pe_op op_mod (pv 0) pe_int) pe_int) (pe_op op_mul (pv 1) pe_int)) pe_int) pe_int))
      (pss_one (ps_ret (pe_op op_mod (pe_op op_mod (pe_op op_fdiv (pe_op op_mul (pv 3) (pv 3)) pe_int) pe_int) (pv 2))))), ?_⟩
    refine ⟨_, rfl, x, 1000000007, rfl, rfl, (by show (0 : Int) < 1000000007; decide), _, 48271, rfl, rfl, .inr ⟨by decide, by decide⟩, _, rfl, _, 69621, rfl, rfl, .inr ⟨by decide, by decide⟩, _, _, rfl, rfl, _, 7, rfl, rfl, _, 1000000007, rfl, rfl, (by show (0 : Int) < 1000000007; decide), ?_⟩
    have y0 : 0 ≤ (x % 1000000007 * 48271 + (n : Int) * 69621 + 7) % 1000000007 := Int.emod_nonneg _ (by decide)
    have y1 : (x % 1000000007 * 48271 + (n : Int) * 69621 + 7) % 1000000007 < 1000000007 := Int.emod_lt_of_pos _ (by decide)
    refine ⟨_, rfl, _, rfl, _, _, rfl, rfl, .inl ⟨by omega, by omega⟩, _, 1013, rfl, rfl, ⟨by decide, by decide⟩, _, 1000003, rfl, rfl, (by show (0 : Int) < 1000003; decide), _, rfl, _, (m : Int), rfl, rfl, (by show (0 : Int) < (m : Int); omega), ?_⟩
    generalize (x % 1000000007 * 48271 + (n : Int) * 69621 + 7) % 1000000007 = y
    show Q (V.int (y * y / 1013 % 1000003 % (m : Int))) H
    have z0 : 0 ≤ y * y / 1013 % 1000003 % (m : Int) := Int.emod_nonneg _ (by omega)
    have z1 : y * y / 1013 % 1000003 % (m : Int) < m := Int.emod_lt_of_pos _ (by omega)
    obtain ⟨r, hr'⟩ := Int.eq_ofNat_of_zero_le z0
    rw [hr'] at z1 ⊢
    exact k r (by omega)
theorem ok_law_set (T : Txt K mg A) : FnOk P w K mg base CX0 3 A.f_law_set A.d_law_set ["_law_cell", "_law_columns"] sp_set := by
  have G_law_draw := ok_law_draw (P := P) (w := w) (base := base) T
  refine T.F_law_set.ok sc_law_set (fun vs H Q E h => ?_) (fun cdv A' outer s H vs Q E hr h => ?_)
  · obtain ⟨x, c, rfl, _⟩ := h; rfl
  · obtain ⟨x, c, rfl, hc, k⟩ := h
    refine ⟨_, (pss_cons (ps_set (i := 2) sc_law_set.nd rfl (Or.inl rfl) pe_int)
      (pss_cons (ps_for PassesOwn.never rfl (pi_range1 rfl T.z_range (pa_cons (pv 1) pa_nil)) (pg_name (i := 3) sc_law_set.nd rfl (Or.inl rfl))
      (pss_one (ps_if (pt_cmpR op_eq (pe_call G_law_draw (hr.mono (by decide)) rfl T.m_law_draw T.F_law_draw.kp T.b_law_draw .nil pass0 (pa_cons (pe_op op_add (pv 0) (pe_op op_mul pe_int (pv 3))) (pa_cons pe_int (pa_cons pe_int pa_nil)))) pe_int (nomark _)) (pss_one (ps_set (i := 2) sc_law_set.nd rfl (Or.inl rfl) (pe_op op_or (pv 2) (pe_op op_shl pe_int (pv 3))))) pss_nil)))
      (pss_one (ps_ret (pv 2))))), ?_⟩
    refine ⟨_, rfl, _, rfl, by omega, by omega, for_range (lo := 0) (n := ((c : Nat) : Int).toNat) (fun i σ' H' => H' = H ∧ ∃ (s : Nat) (cv : Option V), σ' = [some (.int x), some (.int (c : Nat)), some (.int (s : Nat)), cv] ∧ s < 2 ^ c) ⟨rfl, 0, none, rfl, Nat.two_pow_pos c⟩ ?_ ?_⟩
    · rintro i σ' H' hi ⟨rfl, s, cv, rfl, hs⟩
      rw [Int.toNat_natCast] at hi
      rw [Int.zero_add]
      refine ⟨_, rfl, _, rfl, 31, (i : Int), rfl, rfl, .inl ⟨by decide, by decide⟩, _, _, rfl, rfl, _, 2, 3, rfl, by decide, by decide, fun r hr' => ⟨rfl, _, rfl, ?_⟩⟩
      refine ite2 (fun e => ?_) (fun e => ?_)
      · refine ⟨_, rfl, _, rfl, 1, (i : Int), rfl, rfl, ⟨Int.natCast_nonneg i, by omega, by decide⟩, (s : Int), _, rfl, rfl, ?_⟩
        refine ⟨rfl, s ||| 2 ^ i, some (.int (i : Nat)), ?_, Nat.or_lt_two_pow hs (Nat.pow_lt_pow_right (by decide) hi)⟩
        rw [← or_nat, ← shl_nat]; rfl
      · exact ⟨rfl, s, _, rfl, hs⟩
    · rintro σ' H' ⟨rfl, s, cv, rfl, hs⟩
      exact ⟨_, rfl, k s hs⟩
theorem ok_law_pairs (T : Txt K mg A) : FnOk P w K mg base CX0 5 A.f_law_pairs A.d_law_pairs ["_law_cell", "_law_columns", "_law_most"] sp_pairs := by
  have G_law_draw := ok_law_draw (P := P) (w := w) (base := base) T
  have G_law_set := ok_law_set (P := P) (w := w) (base := base) T
  refine T.F_law_pairs.ok sc_law_pairs (fun vs H Q E h => ?_) (fun cdv A' outer s H vs Q E hr h => ?_)
  · obtain ⟨x, c, m, rfl, _⟩ := h; rfl
  · obtain ⟨x, c, m, rfl, hc, hm, k⟩ := h
    refine ⟨_, (pss_cons (ps_set (i := 3) sc_law_pairs.nd rfl (Or.inl rfl) (pe_lst pa_nil))
      (pss_cons (ps_for PassesOwn.never rfl (pi_range1 rfl T.z_range (pa_cons (pe_call G_law_draw (hr.mono (by decide)) rfl T.m_law_draw T.F_law_draw.kp T.b_law_draw .nil pass0 (pa_cons (pv 0) (pa_cons pe_int (pa_cons (pe_op op_add (pv 2) pe_int) pa_nil)))) pa_nil)) (pg_name (i := 4) sc_law_pairs.nd rfl (Or.inl rfl))
      (pss_cons (ps_set (i := 5) sc_law_pairs.nd rfl (Or.inl rfl) (pe_call G_law_set (hr.mono (by decide)) rfl T.m_law_set T.F_law_set.kp T.b_law_set .nil pass0 (pa_cons (pe_op op_add (pe_op op_fdiv (pv 0) (pe_op op_add (pv 4) pe_int)) (pe_op op_mul pe_int (pv 4))) (pa_cons (pv 1) pa_nil))))
      (pss_cons (ps_set (i := 6) sc_law_pairs.nd rfl (Or.inl rfl) (pe_call G_law_set (hr.mono (by decide)) rfl T.m_law_set T.F_law_set.kp T.b_law_set .nil pass0 (pa_cons (pe_op op_add (pe_op op_add (pe_op op_fdiv (pv 0) (pe_op op_add (pv 4) pe_int)) (pe_op op_mul pe_int (pv 4))) pe_int) (pa_cons (pv 1) pa_nil))))
      (pss_cons (ps_if (PW.pt (pw_and (pt_cmpR op_eq (pe_call G_law_draw (hr.mono (by decide)) rfl T.m_law_draw T.F_law_draw.kp T.b_law_draw .nil pass0 (pa_cons (pe_op op_add (pv 0) (pv 4)) (pa_cons pe_int (pa_cons pe_int pa_nil)))) pe_int (nomark _)) (pw_and1 (pt_cmpR op_gt (pv 4) pe_int (nomark _))))) (pss_one (ps_set (i := 5) sc_law_pairs.nd rfl (Or.inl rfl) (pe_ix (ix_tupK K) (pe_ix (ix_listK K) (pv 3) (pe_un un_neg pe_int) (fun _ _ => rfl)) pe_int (fun _ _ => rfl)))) pss_nil)
      (pss_one (ps_expr (pe_appendK K (pv 3) (pa_cons (pe_tup (pa_cons (pv 5) (pa_cons (pv 6) pa_nil))) pa_nil))))))))
      (pss_one (ps_ret (pv 3))))), ?_⟩
    refine ⟨Nat.zero_le _, fun l hl => ?_⟩
    refine ⟨_, rfl, _, rfl, (m : Int), 1, rfl, rfl, x, 1, m + 1, rfl, by omega, by omega, fun n hn => ⟨(n : Int), rfl, by omega, by omega, ?_⟩⟩
    refine for_range (lo := 0) (n := ((n : Nat) : Int).toNat) (fun i σ' H' => ∃ (ps : List (Nat × Nat)) (kv lv rv : Option V), σ' = [some (.int x), some (.int (c : Nat)), some (.int (m : Nat)), some (.ref l), kv, lv, rv] ∧ Same H H' ∧ PrsAt H' l ps ∧ ps.length = i ∧ ∀ p ∈ ps, p.1 < 2 ^ c ∧ p.2 < 2 ^ c)
      ⟨[], none, none, none, rfl, Same.new hl, ⟨[], upd_same, trivial⟩, rfl, fun _ z => nomatch z⟩ ?_ ?_
    · rintro i σ' H' hi ⟨ps, kv, lv, rv, rfl, se, hP, hpl, hps⟩
      rw [Int.toNat_natCast] at hi
      rw [Int.zero_add]
      obtain ⟨ts, hL, htp⟩ := id hP
      have hlen := htp.len
      refine ⟨_, rfl, _, rfl, (i : Int), 3, rfl, rfl, x, _, rfl, rfl, ⟨by omega, by omega⟩, _, rfl, 977, (i : Int), rfl, rfl, .inl ⟨by decide, by decide⟩, _, _, rfl, rfl, _, rfl, _, c, rfl, hc, fun lf hlf => ?_⟩
      refine ⟨_, rfl, _, rfl, (i : Int), 7, rfl, rfl, x, _, rfl, rfl, ⟨by omega, by omega⟩, _, rfl, 977, (i : Int), rfl, rfl, .inl ⟨by decide, by decide⟩, _, _, rfl, rfl, _, 5, rfl, rfl, _, rfl, _, c, rfl, hc, fun rg hrg => ?_⟩
      -- the pair is put behind
      have tl : ∀ lf' : Nat, lf' < 2 ^ c → ∀ q, H' q = none → ∃ (ps' : List (Nat × Nat)), Same H (upd (upd H' q (.tup [.int (lf' : Nat), .int (rg : Nat)])) l (.lst (ts.map V.ref ++ [.ref q]))) ∧ PrsAt (upd (upd H' q (.tup [.int (lf' : Nat), .int (rg : Nat)])) l (.lst (ts.map V.ref ++ [.ref q]))) l ps' ∧ ps'.length = i + 1 ∧ ∀ p ∈ ps', p.1 < 2 ^ c ∧ p.2 < 2 ^ c := by
        intro lf' h1 q hq
        have nlq : l ≠ q := ne_of_none hL hq
        have hL2 : (upd H' q (.tup [.int (lf' : Nat), .int (rg : Nat)])) l = some (.lst (ts.map V.ref)) := by rw [upd_ne nlq]; exact hL
        refine ⟨ps ++ [(lf', rg)], Same.up (Same.up se (se.free hq)) hl, ⟨ts ++ [q], by rw [upd_same, List.map_append]; rfl, ?_⟩, by rw [List.length_append, hpl]; rfl, fun p hp => ?_⟩
        · exact Tps.snoc (by rw [upd_ne nlq.symm, upd_same]) ((htp.same (Same.new hq)).upd hL2)
        · rcases List.mem_append.mp hp with z | z
          · exact hps p z
          · have z' : p = (lf', rg) := by simpa using z
            subst z'
            exact ⟨h1, hrg⟩
      have hsz : (ts.map V.ref).length < sizeLine := small1000 (by rw [List.length_map]; omega)
      refine ⟨_, rfl, _, rfl, x, (i : Int), rfl, rfl, _, 4, 3, rfl, by decide, by decide, fun r hr' => ⟨rfl, _, rfl, ?_⟩⟩
      refine ite2 (fun e => ?_) (fun e => ?_)
      · refine ⟨_, rfl, (i : Int), 0, rfl, rfl, _, rfl, ?_⟩
        refine ite2 (fun e2 => ?_) (fun e2 => ?_)
        · have hi0 : 0 < i := by have := of_decide_eq_true e2; omega
          -- _law_left = _law_pairs_here[-1][1]
          obtain ⟨j, rfl⟩ : ∃ j, i = j + 1 := ⟨i - 1, by omega⟩
          have hjl : j < ps.length := by omega
          have hjt : j < ts.length := by omega
          have hgt : (ts.map V.ref)[j]? = some (.ref ts[j]) := by rw [List.getElem?_map, List.getElem?_eq_getElem hjt]; rfl
          obtain ⟨t, p, et, hp, ht⟩ := htp.get hgt
          injection et with et
          subst et
          have hat : atI (ts.map V.ref) (-1) = some (.ref ts[j]) := by
            have hll : (ts.map V.ref).length = j + 1 := by rw [List.length_map]; omega
            unfold atI ixN
            rw [hll, if_neg (by decide), if_pos (by omega)]
            show (ts.map V.ref)[((-1 : Int) + ((j + 1 : Nat) : Int)).toNat]? = _
            rw [show ((-1 : Int) + ((j + 1 : Nat) : Int)).toNat = j by omega]
            exact hgt
          refine ⟨_, rfl, 1, rfl, l, _, -1, _, rfl, rfl, SqL.of hL, hat, ts[j], _, 1, _, rfl, rfl, SqT.of ht, rfl, ?_⟩
          refine ⟨_, rfl, .inl ⟨rfl, _, SqL.of hL⟩, _, rfl, _, rfl, by show 2 ≤ sizeLine; decide, fun q hq => ⟨l, ts.map V.ref, .ref q, rfl, rfl, by rw [upd_ne (ne_of_none hL hq)]; exact hL, hsz, ?_⟩⟩
          obtain ⟨ps', a1, a2, a3, a4⟩ := tl p.2 (hps p (List.mem_of_getElem? hp)).2 q hq
          exact ⟨ps', _, _, _, rfl, a1, a2, a3, a4⟩
        · refine ⟨_, rfl, .inl ⟨rfl, _, SqL.of hL⟩, _, rfl, _, rfl, by show 2 ≤ sizeLine; decide, fun q hq => ⟨l, ts.map V.ref, .ref q, rfl, rfl, by rw [upd_ne (ne_of_none hL hq)]; exact hL, hsz, ?_⟩⟩
          obtain ⟨ps', a1, a2, a3, a4⟩ := tl lf hlf q hq
          exact ⟨ps', _, _, _, rfl, a1, a2, a3, a4⟩
      · refine iteF ?_
        refine ⟨_, rfl, .inl ⟨rfl, _, SqL.of hL⟩, _, rfl, _, rfl, by show 2 ≤ sizeLine; decide, fun q hq => ⟨l, ts.map V.ref, .ref q, rfl, rfl, by rw [upd_ne (ne_of_none hL hq)]; exact hL, hsz, ?_⟩⟩
        obtain ⟨ps', a1, a2, a3, a4⟩ := tl lf hlf q hq
        exact ⟨ps', _, _, _, rfl, a1, a2, a3, a4⟩
    · rintro σ' H' ⟨ps, kv, lv, rv, rfl, se, hP, hpl, hps⟩
      rw [Int.toNat_natCast] at hpl
      exact ⟨_, rfl, k l ps H' hl se hP (by omega) hps⟩
end
def sp_lkeeps : Sp := fun vs H Q _ => ∃ (l t : Addr) (c : Nat) (rs : List (List Nat)) (p : Nat × Nat), vs = [.ref l, .ref t] ∧ TblAt H l rs ∧ c ≤ 6 ∧ (∀ r ∈ rs, r.length = c) ∧ H t = some (.tup [.int (p.1 : Nat), .int (p.2 : Nat)]) ∧ p.1 < 64 ∧ p.2 < 64 ∧ Q (.bl (decide (Keeps rs p))) H
section
variable {P : Program} {w : World} {K : PySem.W.Frag} {mg : Str → Option Value} {base : Heap} {A : Adr}
theorem ok_law_keeps (T : Txt K mg A) : FnOk P w K mg base CX0 3 A.f_law_keeps A.d_law_keeps ["_law_table", "_law_rule"] sp_lkeeps := by
  have G_law_like := ok_law_like (P := P) (w := w) (base := base) T
  refine T.F_law_keeps.ok sc_law_keeps (fun vs H Q E h => ?_) (fun cdv A' outer s H vs Q E hr h => ?_)
  · obtain ⟨l, t, c, rs, p, rfl, _⟩ := h; rfl
  · obtain ⟨l, t, c, rs, p, rfl, ⟨ts, hl, htp⟩, hc6, hrl, ht, hp1, hp2, k⟩ := h
    refine ⟨_, (pss_cons (ps_for PassesOwn.never rfl (pi_listK K (pv 0)) (pg_name (i := 2) sc_law_keeps.nd rfl (Or.inl rfl))
      (pss_one (ps_for PassesOwn.never rfl (pi_listK K (pv 0)) (pg_name (i := 3) sc_law_keeps.nd rfl (Or.inl rfl))
      (pss_one (ps_if (PW.pt (pw_and (pt_val (pe_call G_law_like (hr.mono (by decide)) rfl T.m_law_like T.F_law_like.kp T.b_law_like .nil pass0 (pa_cons (pv 2) (pa_cons (pv 3) (pa_cons (pe_ix (ix_tupK K) (pv 1) pe_int (fun _ _ => rfl)) pa_nil))))) (pw_and1 (pt_not (pt_val (pe_call G_law_like (hr.mono (by decide)) rfl T.m_law_like T.F_law_like.kp T.b_law_like .nil pass0 (pa_cons (pv 2) (pa_cons (pv 3) (pa_cons (pe_ix (ix_tupK K) (pv 1) pe_int (fun _ _ => rfl)) pa_nil))))))))) (pss_one (ps_ret pe_bl)) pss_nil)))))
      (pss_one (ps_ret pe_bl))), ?_⟩
    have hln : (ts.map V.ref).length = rs.length := by rw [List.length_map]; exact htp.len
    refine ⟨_, rfl, l, rfl, ⟨_, SqL.of hl⟩, for_list (K := K) (a := l) (xs := ts.map V.ref) (fun i σ' H' => H' = H ∧ (∀ a ∈ rs.take i, ∀ b ∈ rs, cellsN a p.1 = cellsN b p.1 → cellsN a p.2 = cellsN b p.2) ∧ ∃ ov uv, σ' = [some (.ref l), some (.ref t), ov, uv])
      ⟨rfl, fun a ha => by simp at ha, none, none, rfl⟩ (fun i σ' H' _ ⟨e, _⟩ => by subst e; exact SqL.of hl) ?_ ?_⟩
    · rintro i x σ' H' hx ⟨rfl, i1, ov, uv, rfl⟩
      obtain ⟨ta, a, rfl, hai, harow⟩ := htp.get hx
      have ham : a ∈ rs := List.mem_of_getElem? hai
      refine ⟨_, rfl, l, rfl, ⟨_, SqL.of hl⟩, for_list (K := K) (a := l) (xs := ts.map V.ref) (fun j σ' H'' => H'' = H' ∧ (∀ b ∈ rs.take j, cellsN a p.1 = cellsN b p.1 → cellsN a p.2 = cellsN b p.2) ∧ ∃ uv, σ' = [some (.ref l), some (.ref t), some (.ref ta), uv])
        ⟨rfl, fun b hb => by simp at hb, _, rfl⟩ (fun i σ' H'' _ ⟨e, _⟩ => by subst e; exact SqL.of hl) ?_ ?_⟩
      · rintro j x σ' H'' hx2 ⟨rfl, j1, uv', rfl⟩
        obtain ⟨tb, b, rfl, hbi, hbrow⟩ := htp.get hx2
        have hbm : b ∈ rs := List.mem_of_getElem? hbi
        have hlen : a.length = b.length := by rw [hrl a ham, hrl b hbm]
        have ha6 : a.length ≤ 6 := by rw [hrl a ham]; exact hc6
        refine ⟨_, rfl, _, rfl, _, rfl, t, _, 0, _, rfl, rfl, SqT.of ht, rfl, ta, tb, a, b, p.1, rfl, harow, hbrow, hlen, ha6, hp1, _, rfl, ?_⟩
        refine ite2 (fun e => ?_) (fun e => ?_)
        · refine ⟨_, rfl, _, rfl, _, rfl, t, _, 1, _, rfl, rfl, SqT.of ht, rfl, ta, tb, a, b, p.2, rfl, harow, hbrow, hlen, ha6, hp2, _, rfl, ?_⟩
          refine ite2 (fun e2 => ?_) (fun e2 => ?_)
          · have hk : decide (Keeps rs p) = false := decide_eq_false fun z => by
              have := z a ham b hbm (of_decide_eq_true e)
              rw [decide_eq_true this] at e2
              cases e2
            rw [hk] at k
            exact k
          · refine ⟨rfl, fun b' hb' => ?_, _, rfl⟩
            rcases (take_mem hbi).mp hb' with z | rfl
            · exact j1 b' z
            · intro _
              have : decide (cellsN a p.2 = cellsN b' p.2) = true := by simpa using e2
              exact of_decide_eq_true this
        · refine ⟨rfl, fun b' hb' => ?_, _, rfl⟩
          rcases (take_mem hbi).mp hb' with z | rfl
          · exact j1 b' z
          · intro z
            exact absurd (decide_eq_true z) e
      · rintro σ' H'' ⟨rfl, j1, uv', rfl⟩
        rw [hln, List.take_length] at j1
        refine ⟨rfl, fun a' ha' => ?_, _, _, rfl⟩
        rcases (take_mem hai).mp ha' with z | rfl
        · exact i1 a' z
        · exact j1
    · rintro σ' H' ⟨rfl, i1, ov, uv, rfl⟩
      rw [hln, List.take_length] at i1
      have hk : decide (Keeps rs p) = true := decide_eq_true i1
      rw [hk] at k
      exact k
end
/-! ### the law's own sheet -/
theorem Rws.set {H : Hp} {t : Addr} {r : List Nat} : ∀ {ts : List Addr} {rs : List (List Nat)} {m : Nat}, Rws H ts rs → ts.Nodup → ts[m]? = some t → Rws (L2.upd H t (.lst (nums r))) ts (rs.set m r)
  | [], [], _, h, _, e => by simp at e
  | t' :: ts, x :: rs, 0, ⟨h, q⟩, n, e => by
    obtain rfl : t' = t := by simpa using e
    exact ⟨upd_same, Rws.upd q (List.nodup_cons.mp n).1⟩
  | t' :: ts, x :: rs, m + 1, ⟨h, q⟩, n, e => by
    have e' : ts[m]? = some t := by simpa using e
    have hne : t' ≠ t := fun z => (List.nodup_cons.mp n).1 (by rw [z]; exact List.mem_of_getElem? e')
    exact ⟨by rw [upd_ne hne]; exact h, Rws.set q (List.nodup_cons.mp n).2 e'⟩
  | [], _ :: _, _, h, _, _ => h.elim
  | _ :: _, [], _, h, _, _ => h.elim
def But (ts : List Addr) (H H' : Hp) : Prop := ∀ b o, H b = some o → b ∉ ts → H' b = some o
theorem But.refl (ts : List Addr) (H : Hp) : But ts H H := fun _ _ h _ => h
theorem But.trans {ts : List Addr} {H H' H'' : Hp} (a : But ts H H') (b : But ts H' H'') : But ts H H'' := fun q o h n => b q o (a q o h n) n
theorem But.same {ts : List Addr} {H H' : Hp} (a : Same H H') : But ts H H' := fun q o h _ => a q o h
theorem But.upd {ts : List Addr} {H H' : Hp} {t : Addr} {o : HO} (a : But ts H H') (h : t ∈ ts) : But ts H (L2.upd H' t o) := fun q u hq n => by
  rw [upd_ne (fun z => n (by rw [z]; exact h))]; exact a q u hq n
theorem But.fresh {ts : List Addr} {H0 H H' : Hp} (s : Same H0 H) (a : But ts H H') (n : ∀ t ∈ ts, H0 t = none) : Same H0 H' := fun b o h => a b o (s b o h) fun z => by rw [n b z] at h; cases h
/-- a sheet at d, its rows at ts -/
structure ShtAt (H0 H : Hp) (d : Addr) (ts : List Addr) (c : Nat) (S : List (List Nat)) : Prop where
  l : H d = some (.lst (ts.map V.ref))
  r : Rws H ts S
  n : ∀ t ∈ ts, H0 t = none ∧ t ≠ d
  u : ts.Nodup
  w : ∀ x ∈ S, x.length = c
theorem ShtAt.same {H0 H H' : Hp} {d : Addr} {ts : List Addr} {c : Nat} {S : List (List Nat)} (h : ShtAt H0 H d ts c S) (e : Same H H') : ShtAt H0 H' d ts c S := ⟨e _ _ h.l, h.r.same e, h.n, h.u, h.w⟩
theorem ShtAt.len {H0 H : Hp} {d : Addr} {ts : List Addr} {c : Nat} {S : List (List Nat)} (h : ShtAt H0 H d ts c S) : ts.length = S.length := h.r.len
theorem ShtAt.at {H0 H : Hp} {d : Addr} {ts : List Addr} {c : Nat} {S : List (List Nat)} (h : ShtAt H0 H d ts c S) {i : Nat} {x : List Nat} (e : S[i]? = some x) : ∃ t, t ∈ ts ∧ ts[i]? = some t ∧ (ts.map V.ref)[i]? = some (.ref t) ∧ H t = some (.lst (nums x)) := by
  have hi : i < ts.length := by rw [h.len]; exact (List.getElem?_eq_some_iff.mp e).1
  have e1 : ts[i]? = some ts[i] := List.getElem?_eq_getElem hi
  have e2 : (ts.map V.ref)[i]? = some (.ref ts[i]) := by rw [List.getElem?_map, e1]; rfl
  obtain ⟨t, y, a, b, q⟩ := h.r.get e2
  rw [e] at b
  cases b
  injection a with a
  exact ⟨ts[i], List.getElem_mem hi, e1, e2, by rw [a]; exact q⟩
theorem nums_get {x : List Nat} {j : Nat} (h : j < x.length) : (nums x)[j]? = some (.int (x.getD j 0 : Nat)) := by unfold nums; rw [List.getElem?_map, getD_at h]; rfl
theorem nums_set {x : List Nat} {j n : Nat} : (nums x).set j (.int (n : Nat)) = nums (x.set j n) := by unfold nums; rw [List.map_set]
theorem ixN_nat {n j : Nat} (h : j < n) : ixN n ((j : Nat) : Int) = some j := by
  unfold ixN
  rw [if_pos (Int.natCast_nonneg j), if_pos (by omega)]
  simp
theorem in_two (v a b : Nat) : inV (.int (v : Nat)) [.int (a : Nat), .int (b : Nat)] = decide (v = a ∨ v = b) := by
  show (((a : Int) == (v : Int)) || (((b : Int) == (v : Int)) || false)) = _
  by_cases h1 : v = a
  · subst h1; simp
  · by_cases h2 : v = b
    · subst h2; simp
    · have e1 : ((a : Int) == (v : Int)) = false := by rw [beq_eq_false_iff_ne]; omega
      have e2 : ((b : Int) == (v : Int)) = false := by rw [beq_eq_false_iff_ne]; omega
      rw [e1, e2, decide_eq_false (by omega)]; rfl
theorem min_nat (a b : Nat) : min ((a : Nat) : Int) ((b : Nat) : Int) = ((min a b : Nat) : Int) := by omega
theorem shr_num {s i : Nat} (hs : s < 64) (hi : i < 6) : Builtin.bitAnd ((s : Int) / 2 ^ ((i : Int)).toNat) 1 = (if s.testBit i = true then 1 else 0 : Int) := by
  have e : (s : Int) / 2 ^ ((i : Int)).toNat = ((s / 2 ^ i : Nat) : Int) := by rw [Int.toNat_natCast]; norm_cast
  rw [e, show Builtin.bitAnd ((s / 2 ^ i : Nat) : Int) 1 = ((s / 2 ^ i &&& 1 : Nat) : Int) from and_nat _ 1, ← shr64 s hs i hi]
  have : s / 2 ^ i &&& 1 < 2 := Nat.lt_of_le_of_lt Nat.and_le_right (by decide)
  generalize s / 2 ^ i &&& 1 = z at this ⊢
  have hz : z = 0 ∨ z = 1 := by omega
  rcases hz with rfl | rfl <;> rfl
def sp_lsheet : Sp := fun vs H Q _ => ∃ (l : Addr) (c : Nat) (pts : List Nat), vs = [.ref l, .int (c : Nat)] ∧ H l = some (.lst (nums pts)) ∧ c ≤ 6 ∧ pts.length ≤ 64 ∧ (∀ p ∈ pts, p < 64) ∧
  ∀ (d : Addr) (ts : List Addr) (H' : Hp), H d = none → Same H H' → ShtAt H H' d ts c (sheetN c pts) → Q (.ref d) H'
def sp_lstepped : Sp := fun vs H Q _ => ∃ (H0 : Hp) (d : Addr) (ts : List Addr) (c i k r : Nat) (S : List (List Nat)), vs = [.ref d, .int (i : Nat), .int (k : Nat), .int (r : Nat)] ∧ ShtAt H0 H d ts c S ∧ c ≤ 6 ∧ i < S.length ∧ k < S.length ∧ r < 2 ^ c ∧
  ∀ (H' : Hp), But ts H H' → ShtAt H0 H' d ts c (stepS c r i k S) → Q (.ref d) H'
section
variable {P : Program} {w : World} {K : PySem.W.Frag} {mg : Str → Option Value} {base : Heap} {A : Adr}
theorem ok_law_sheet (T : Txt K mg A) : FnOk P w K mg base CX0 1 A.f_law_sheet A.d_law_sheet ["_law_parts_here", "_law_columns"] sp_lsheet := by
  refine T.F_law_sheet.ok sc_law_sheet (fun vs H Q E h => ?_) (fun cdv A' outer s H vs Q E hr h => ?_)
  · obtain ⟨l, c, pts, rfl, _⟩ := h; rfl
  · obtain ⟨l, c, pts, rfl, hl, hc6, hlen, hpts, k⟩ := h
    refine ⟨_, (pss_cons (ps_set (i := 2) sc_law_sheet.nd rfl (Or.inl rfl) (pe_lst pa_nil))
      (pss_cons (ps_for PassesOwn.never rfl (pi_range1 rfl T.z_range (pa_cons (pe_callB (call_lenK K) rfl T.z_len bt_len (pa_cons (pv 0) pa_nil)) pa_nil)) (pg_name (i := 3) sc_law_sheet.nd rfl (Or.inr rfl))
      (pss_one (ps_expr (pe_appendK K (pv 2) (pa_cons (pe_comp ["_law_parts_here", "_law_columns", "_law_found", "_law_place"] (defScope s_law_sheet) ["_law_column", "_law_place", "_law_parts_here"] [none, some 3, some 0] ⟨rfl, by decide +kernel, by decide +kernel, by decide +kernel, by decide +kernel, by decide +kernel⟩ rfl (pi_range1 rfl T.z_range (pa_cons (pv 1) pa_nil)) (fun _ _ _ _ _ => (pg_name (i := 0) (by show List.Nodup (["_law_column", "_law_place", "_law_parts_here"] : List Str); decide +kernel) rfl (Or.inl rfl) (Or.inr rfl))) (fun _ _ _ _ _ => pts_nil) (fun _ _ _ _ _ => (pe_op op_mul (pe_op op_add (pv 1) pe_int) (pe_op op_sub pe_int (pe_op op_and (pe_op op_shr (pe_ix (ix_listK K) (pv 2) (pv 1) (fun _ _ => rfl)) (pv 0)) pe_int))))) pa_nil)))))
      (pss_one (ps_ret (pv 2))))), ?_⟩
    refine ⟨Nat.zero_le _, fun B hB => ?_⟩
    refine ⟨_, rfl, l, _, rfl, .inl (SqL.of (Same.new hB _ _ hl)), ((nums pts).length : Int), rfl, by rw [nums_len]; omega, by rw [nums_len]; omega, ?_⟩
    rw [nums_len, Int.toNat_natCast]
    refine for_range (lo := 0) (n := pts.length) (fun i σ' H' => Same H H' ∧ i ≤ pts.length ∧ (∃ ts, ShtAt H H' B ts c ((List.range i).map fun i => rowOf c (pts.getD i 0) (i + 1))) ∧ ∃ pv : Option V, σ' = [some (.ref l), some (.int (c : Nat)), some (.ref B), pv])
      ⟨Same.new hB, Nat.zero_le _, ⟨[], ⟨upd_same, trivial, fun t ht => by simp at ht, List.nodup_nil, fun x hx => by simp at hx⟩⟩, none, rfl⟩ ?_ ?_
    · rintro i σ' H1 hi ⟨s1, _, ⟨ts, hS⟩, pv, rfl⟩
      rw [Int.zero_add]
      have hts : ts.length = i := by rw [hS.len, List.length_map, List.length_range]
      refine ⟨_, rfl, .inl ⟨rfl, _, SqL.of hS.l⟩, _, rfl, (c : Int), rfl, by omega, by omega, fun D hD => ?_⟩
      rw [Int.toNat_natCast]
      have hp := hpts (pts.getD i 0) (by rw [List.getD, List.getElem?_eq_getElem hi]; exact List.getElem_mem hi)
      refine comp_range (lo := 0) (n := c) (fun j ys H' => Same H1 H' ∧ ys = nums ((List.range j).map fun j => if (pts.getD i 0).testBit j = true then 0 else i + 1)) ⟨Same.new hD, rfl⟩ ?_ ?_
      · rintro j ys H2 hj ⟨s2, rfl⟩ hDl
        rw [Int.zero_add]
        have hll : (nums ((List.range j).map fun j => if (pts.getD i 0).testBit j = true then 0 else i + 1)).length ≤ 64 := by
          rw [nums_len, List.length_map, List.length_range]; omega
        refine yes_mk ?_
        refine ⟨_, rfl, (i : Int), 1, rfl, rfl, _, rfl, _, rfl, l, _, (i : Int), _, rfl, rfl, SqL.of (s2 _ _ (s1 _ _ hl)), atI_nat (nums_get hi), _, rfl, ((pts.getD i 0 : Nat) : Int), (j : Int), rfl, rfl, Int.natCast_nonneg j, _, 1, rfl, rfl, 1, _, rfl, rfl, _, _, rfl, rfl, .inl ⟨by omega, by omega⟩, ?_⟩
        refine CE1.mk hDl (small1000 (by omega)) ⟨Same.up s2 hD, ?_⟩
        rw [List.range_succ, List.map_append, shr_num hp (by omega)]
        show _ = nums (_ ++ [if (pts.getD i 0).testBit j = true then 0 else i + 1])
        rw [nums_snoc]
        congr 2
        by_cases e : (pts.getD i 0).testBit j = true
        · rw [if_pos e, if_pos e]; simp
        · rw [if_neg e, if_neg e]; simp
      · rintro ys H2 ⟨s2, rfl⟩ hDl
        have hBl := s2 _ _ hS.l
        refine ⟨B, _, _, rfl, rfl, hBl, small1000 (by rw [List.length_map]; omega), ?_⟩
        have nDB : D ≠ B := fun z => by rw [z, hS.l] at hD; cases hD
        have hDH : H D = none := s1.free hD
        have hDts : D ∉ ts := fun z => by
          obtain ⟨q, hq⟩ := List.mem_iff_getElem?.mp z
          obtain ⟨t', r', e1, e2, e3⟩ := hS.r.get (i := q) (v := .ref D) (by rw [List.getElem?_map, hq]; rfl)
          injection e1 with e1
          rw [← e1, hD] at e3
          cases e3
        refine ⟨Same.up (s1.trans s2) hB, hi, ⟨ts ++ [D], ⟨by rw [upd_same, List.map_append]; rfl, ?_, fun t ht => ?_, ?_, fun x hx => ?_⟩⟩, _, rfl⟩
        · rw [List.range_succ, List.map_append]
          refine Rws.upd (Rws.snoc hDl (hS.r.same s2)) fun z => ?_
          rcases List.mem_append.mp z with z | z
          · exact (hS.n _ z).2 rfl
          · exact nDB (List.mem_singleton.mp z).symm
        · rcases List.mem_append.mp ht with z | z
          · exact hS.n t z
          · rw [List.mem_singleton.mp z]; exact ⟨hDH, nDB⟩
        · rw [List.nodup_append]
          exact ⟨hS.u, by simp, fun a ha b hb z => hDts (by rw [← List.mem_singleton.mp hb, ← z]; exact ha)⟩
        · rw [List.range_succ, List.map_append] at hx
          rcases List.mem_append.mp hx with z | z
          · exact hS.w x z
          · rw [List.mem_singleton.mp z]; exact rowOf_len _ _ _
    · rintro σ' H1 ⟨s1, _, ⟨ts, hS⟩, pv, rfl⟩
      exact ⟨_, rfl, k B ts H1 hB s1 hS⟩
theorem ok_law_stepped (T : Txt K mg A) : FnOk P w K mg base CX0 1 A.f_law_stepped A.d_law_stepped ["_law_sheet_here", "_law_one", "_law_other", "_law_right_here"] sp_lstepped := by
  refine T.F_law_stepped.ok sc_law_stepped (fun vs H Q E h => ?_) (fun cdv A' outer s H vs Q E hr h => ?_)
  · obtain ⟨H0, d, ts, c, i, k, r, S, rfl, _⟩ := h; rfl
  · obtain ⟨H0, d, ts, c, i, k, r, S, rfl, hS, hc6, hi, hk, hr', k1⟩ := h
    have h64 : 2 ^ c ≤ 64 := Nat.pow_le_pow_right (by decide) hc6
    refine ⟨_, (pss_cons (ps_for PassesOwn.never rfl (pi_range1 rfl T.z_range (pa_cons (pe_callB (call_lenK K) rfl T.z_len bt_len (pa_cons (pe_ix (ix_listK K) (pv 0) pe_int (fun _ _ => rfl)) pa_nil)) pa_nil)) (pg_name (i := 4) sc_law_stepped.nd rfl (Or.inl rfl))
      (pss_one (ps_if (pt_cmpR op_eq (pe_op op_and (pe_op op_shr (pv 3) (pv 4)) pe_int) pe_int (nomark _)) (pss_cons (ps_set (i := 5) sc_law_stepped.nd rfl (Or.inl rfl) (pe_lst (pa_cons (pe_ix (ix_listK K) (pe_ix (ix_listK K) (pv 0) (pv 1) (fun _ _ => rfl)) (pv 4) (fun _ _ => rfl)) (pa_cons (pe_ix (ix_listK K) (pe_ix (ix_listK K) (pv 0) (pv 2) (fun _ _ => rfl)) (pv 4) (fun _ _ => rfl)) pa_nil))))
      (pss_one (ps_for PassesOwn.never rfl (pi_listK K (pv 0)) (pg_name (i := 6) sc_law_stepped.nd rfl (Or.inl rfl))
      (pss_one (ps_if (pt_cmpR (op_inK K) (pe_ix (ix_listK K) (pv 6) (pv 4) (fun _ _ => rfl)) (pv 5) (by with_unfolding_all rfl)) (pss_one (ps_asg (pe_callB (call_minLK K rfl) rfl T.z_min bt_min (pa_cons (pv 5) pa_nil)) (pg_sub (pv 6) (pv 4) set_list))) pss_nil))))) pss_nil)))
      (pss_one (ps_ret (pv 0)))), ?_⟩
    obtain ⟨x0, hx0⟩ : ∃ x0, S[0]? = some x0 := ⟨S[0]'(by omega), List.getElem?_eq_getElem (by omega)⟩
    obtain ⟨t0, _, _, e0, h0⟩ := hS.at hx0
    have hw0 := hS.w x0 (List.mem_of_getElem? hx0)
    obtain ⟨f, hf⟩ : ∃ f, S[i]? = some f := ⟨S[i], List.getElem?_eq_getElem hi⟩
    obtain ⟨g, hg⟩ : ∃ g, S[k]? = some g := ⟨S[k], List.getElem?_eq_getElem hk⟩
    have ef := getD_of hf
    have eg := getD_of hg
    refine ⟨_, rfl, d, _, 0, _, rfl, rfl, SqL.of hS.l, (show atI (ts.map V.ref) (((0 : Nat) : Int)) = some (.ref t0) from atI_nat e0), t0, _, rfl, .inl (SqL.of h0), ((nums x0).length : Int), rfl, by rw [nums_len]; omega, by rw [nums_len]; omega, ?_⟩
    rw [nums_len, hw0, Int.toNat_natCast]
    refine for_range (lo := 0) (n := c) (fun n σ' H' => n ≤ c ∧ But ts H H' ∧ ShtAt H0 H' d ts c (stepS c (r % 2 ^ n) i k S) ∧ ∃ o4 o5 o6 : Option V, σ' = [some (.ref d), some (.int (i : Nat)), some (.int (k : Nat)), some (.int (r : Nat)), o4, o5, o6])
      ⟨Nat.zero_le _, But.refl _ _, by rw [stepS_none hS.w]; exact hS, none, none, none, rfl⟩ ?_ ?_
    · rintro n σ' H1 hn ⟨_, b1, hS1, o4, o5, o6, rfl⟩
      rw [Int.zero_add]
      refine ⟨_, rfl, _, rfl, (r : Int), (n : Int), rfl, rfl, Int.natCast_nonneg n, _, 1, rfl, rfl, rfl, _, rfl, ?_⟩
      rw [shr_bit (by omega) (by omega)]
      refine ite2 (fun e => ?_) (fun e => ?_)
      · -- both
        have at1 : ∀ {j : Nat} {x : List Nat}, S[j]? = some x → (stepS c (r % 2 ^ n) i k S)[j]? = some (stepRow c (r % 2 ^ n) f g x) := fun {j x} hx => by
          unfold stepS; rw [List.getElem?_map, hx, ef, eg]; rfl
        have at2 : ∀ {j : Nat} {x : List Nat}, S[j]? = some x → (stepS c (r % 2 ^ (n + 1)) i k S)[j]? = some (stepRow c (r % 2 ^ (n + 1)) f g x) := fun {j x} hx => by
          unfold stepS; rw [List.getElem?_map, hx, ef, eg]; rfl
        obtain ⟨ti, _, _, ei, hti⟩ := hS1.at (at1 hf)
        obtain ⟨tk, _, _, ek, htk⟩ := hS1.at (at1 hg)
        have gi := nums_get (x := stepRow c (r % 2 ^ n) f g f) (j := n) (by rw [stepRow_len]; exact hn)
        have gk := nums_get (x := stepRow c (r % 2 ^ n) f g g) (j := n) (by rw [stepRow_len]; exact hn)
        rw [stepRow_same hn] at gi gk
        refine ⟨_, rfl, _, rfl, d, _, (i : Int), _, rfl, rfl, SqL.of hS1.l, atI_nat ei, _, rfl, ti, _, (n : Int), _, rfl, rfl, SqL.of hti, atI_nat gi, _, rfl, _, rfl, d, _, (k : Int), _, rfl, rfl, SqL.of hS1.l, atI_nat ek, _, rfl, tk, _, (n : Int), _, rfl, rfl, SqL.of htk, atI_nat gk, by show 2 ≤ sizeLine; decide, fun q hq => ?_⟩
        have sq : Same H1 (upd H1 q (.lst [.int (f.getD n 0 : Nat), .int (g.getD n 0 : Nat)])) := Same.new hq
        have hS2 := hS1.same sq
        have hq2 : (upd H1 q (.lst [.int (f.getD n 0 : Nat), .int (g.getD n 0 : Nat)])) q = some (.lst [.int (f.getD n 0 : Nat), .int (g.getD n 0 : Nat)]) := upd_same
        have hqt : q ∉ ts := fun z => by
          obtain ⟨j, hj⟩ := List.mem_iff_getElem?.mp z
          obtain ⟨t', r', e1, e2, e3⟩ := hS1.r.get (i := j) (v := .ref q) (by rw [List.getElem?_map, hj]; rfl)
          injection e1 with e1
          rw [← e1, hq] at e3
          cases e3
        have b2 : But ts H (upd H1 q (.lst [.int (f.getD n 0 : Nat), .int (g.getD n 0 : Nat)])) := b1.trans (But.same sq)
        generalize upd H1 q (.lst [.int (f.getD n 0 : Nat), .int (g.getD n 0 : Nat)]) = H2 at sq hS2 hq2 b2 ⊢
        have hl1 : (stepS c (r % 2 ^ (n + 1)) i k S).length = (stepS c (r % 2 ^ n) i k S).length := by rw [stepS_len, stepS_len]
        have htl : ts.length = S.length := by rw [hS1.len, stepS_len]
        refine ⟨_, rfl, d, rfl, ⟨_, SqL.of hS2.l⟩, for_list (K := K) (a := d) (xs := ts.map V.ref) (fun m σ' H' => m ≤ S.length ∧ But ts H H' ∧ H' q = some (.lst [.int (f.getD n 0 : Nat), .int (g.getD n 0 : Nat)]) ∧ H' d = some (.lst (ts.map V.ref)) ∧ Rws H' ts ((stepS c (r % 2 ^ (n + 1)) i k S).take m ++ (stepS c (r % 2 ^ n) i k S).drop m) ∧ ∃ o6 : Option V, σ' = [some (.ref d), some (.int (i : Nat)), some (.int (k : Nat)), some (.int (r : Nat)), some (.int (n : Nat)), some (.ref q), o6])
          ⟨Nat.zero_le _, b2, hq2, hS2.l, by rw [List.take_zero, List.drop_zero, List.nil_append]; exact hS2.r, _, rfl⟩ (fun m σ' H' _ ⟨_, _, _, e, _⟩ => SqL.of e) ?_ ?_⟩
        · rintro m v σ' H3 hv ⟨hm, b3, hq3, hd3, hr3, o6', rfl⟩
          have hmt : m < ts.length := by have := (List.getElem?_eq_some_iff.mp hv).1; rwa [List.length_map] at this
          have hmS : m < S.length := by omega
          have htm : ts[m]? = some ts[m] := List.getElem?_eq_getElem hmt
          have hSm : S[m]? = some S[m] := List.getElem?_eq_getElem hmS
          obtain ⟨t, x, rfl, hx, ht⟩ := hr3.get hv
          rw [mix_at (by rw [stepS_len]; exact hm), at1 hSm] at hx
          cases hx
          have et : ts[m]? = some t := by
            rw [List.getElem?_map, htm] at hv
            have := Option.some.inj hv
            injection this with this
            rw [htm, this]
          have gx := nums_get (x := stepRow c (r % 2 ^ n) f g S[m]) (j := n) (by rw [stepRow_len]; exact hn)
          rw [stepRow_same hn] at gx
          have hnew := stepRow_next (c := c) (f := f) (g := g) (x := S[m]) e hn
          refine ⟨_, rfl, _, rfl, t, _, (n : Int), _, rfl, rfl, SqL.of ht, atI_nat gx, _, rfl, q, _, rfl, .inl (SqL.of hq3), rfl, rfl, _, rfl, ?_⟩
          show (if inV (.int (S[m].getD n 0 : Nat)) [.int (f.getD n 0 : Nat), .int (g.getD n 0 : Nat)] = true then _ else _)
          rw [in_two]
          refine ite2 (fun e2 => ?_) (fun e2 => ?_)
          · have e2' := of_decide_eq_true e2
            refine ⟨_, rfl, q, _, _, rfl, SqL.of hq3, _, rfl, _, rfl, t, _, (n : Int), n, rfl, rfl, ht, ixN_nat (by rw [nums_len, stepRow_len]; exact hn), ?_⟩
            have htq : q ≠ t := fun z => hqt (by rw [z]; exact List.mem_of_getElem? et)
            have htd : d ≠ t := fun z => (hS.n t (List.mem_of_getElem? et)).2 z.symm
            refine ⟨hmS, b3.upd (List.mem_of_getElem? et), by rw [upd_ne htq]; exact hq3, by rw [upd_ne htd]; exact hd3, ?_, _, rfl⟩
            have hlow : low (f.getD n 0) (g.getD n 0) (S[m].getD n 0) = min (f.getD n 0) (g.getD n 0) := by unfold low; rw [if_pos e2']
            rw [hlow] at hnew
            rw [min_nat, nums_set, ← hnew, ← mix_set (at2 hSm) hl1]
            exact Rws.set hr3 hS.u et
          · have e2' : ¬ (S[m].getD n 0 = f.getD n 0 ∨ S[m].getD n 0 = g.getD n 0) := fun z => e2 (decide_eq_true z)
            refine ⟨hmS, b3, hq3, hd3, ?_, _, rfl⟩
            have hlow : low (f.getD n 0) (g.getD n 0) (S[m].getD n 0) = S[m].getD n 0 := by unfold low; rw [if_neg e2']
            rw [hlow, ← stepRow_same (r := r) (f := f) (g := g) hn, set_self] at hnew
            have hm2 : ((stepS c (r % 2 ^ (n + 1)) i k S).take m ++ (stepS c (r % 2 ^ n) i k S).drop m).set m (stepRow c (r % 2 ^ (n + 1)) f g S[m]) = (stepS c (r % 2 ^ (n + 1)) i k S).take m ++ (stepS c (r % 2 ^ n) i k S).drop m := by
              refine List.ext_getElem? fun j => ?_
              rw [List.getElem?_set]
              by_cases hj : m = j
              · subst hj
                rw [if_pos rfl, mix_at (by rw [stepS_len]; exact hm), at1 hSm, if_pos (by rw [List.length_append, List.length_take, List.length_drop, stepS_len, stepS_len]; omega), hnew]
              · rw [if_neg hj]
            rw [← mix_set (at2 hSm) hl1, hm2]
            exact hr3
        · rintro σ' H3 ⟨_, b3, hq3, hd3, hr3, o6', rfl⟩
          rw [List.length_map, htl] at hr3
          have e1 : (stepS c (r % 2 ^ (n + 1)) i k S).take S.length = stepS c (r % 2 ^ (n + 1)) i k S := List.take_of_length_le (by rw [stepS_len]; exact Nat.le_refl _)
          have e2 : (stepS c (r % 2 ^ n) i k S).drop S.length = [] := List.drop_of_length_le (by rw [stepS_len]; exact Nat.le_refl _)
          rw [e1, e2, List.append_nil] at hr3
          exact ⟨hn, b3, ⟨hd3, hr3, hS.n, hS.u, stepS_row⟩, _, _, _, rfl⟩
      · have e' : r.testBit n = false := by simpa using e
        exact ⟨hn, b1, by rw [stepS_skip e']; exact hS1, _, _, _, rfl⟩
    · rintro σ' H1 ⟨_, b1, hS1, o4, o5, o6, rfl⟩
      rw [stepS_full hr'] at hS1
      exact ⟨_, rfl, k1 H1 b1 hS1⟩
end
def sp_lparts : Sp := fun vs H Q _ => ∃ (x : Int) (c : Nat), vs = [.int x, .int (c : Nat)] ∧ 1 ≤ c ∧ c ≤ 6 ∧ ∀ (l : Addr) (ps : List Nat) (H' : Hp), H l = none → Same H H' → H' l = some (.lst (nums ps)) → 1 ≤ ps.length → ps.length < 64 → (∀ p ∈ ps, 1 ≤ p ∧ p < 2 ^ c) → ps.foldl (· ||| ·) 0 = 2 ^ c - 1 → Q (.ref l) H'
theorem andn64 : ∀ a, a < 64 → ∀ b, b < 64 → Builtin.bitAnd ((a : Nat) : Int) (Builtin.bitNot ((b : Nat) : Int)) = ((a ^^^ (a &&& b) : Nat) : Int) := by decide +kernel
def lf (F : Nat) (ps : List Nat) : Nat := ps.foldl (fun a p => a ^^^ (a &&& p)) F
theorem lf_snoc {F i p : Nat} {ps : List Nat} (h : ps[i]? = some p) : lf F (ps.take (i + 1)) = lf F (ps.take i) ^^^ (lf F (ps.take i) &&& p) := by
  unfold lf
  rw [List.take_succ, h, List.foldl_append]; rfl
theorem lf_or {F : Nat} : ∀ (ps : List Nat) (a o : Nat), a ||| o = F → (∀ p ∈ ps, p ||| F = F) → ps.foldl (fun a p => a ^^^ (a &&& p)) a ||| ps.foldl (· ||| ·) o = F
  | [], a, o, h, _ => h
  | p :: ps, a, o, h, hp => by
    refine lf_or ps (a ^^^ (a &&& p)) (o ||| p) ?_ fun q hq => hp q (List.mem_cons_of_mem _ hq)
    have h2 := hp p List.mem_cons_self
    refine Nat.eq_of_testBit_eq fun i => ?_
    have e1 := congrArg (fun n => n.testBit i) h
    have e2 := congrArg (fun n => n.testBit i) h2
    simp only [Nat.testBit_or] at e1 e2
    simp only [Nat.testBit_or, Nat.testBit_xor, Nat.testBit_and]
    revert e1 e2
    cases a.testBit i <;> cases o.testBit i <;> cases p.testBit i <;> cases F.testBit i <;> simp
theorem lf_lt {F : Nat} : ∀ (ps : List Nat) (a : Nat), a ≤ F → ps.foldl (fun a p => a ^^^ (a &&& p)) a ≤ F
  | [], a, h => h
  | p :: ps, a, h => lf_lt ps _ (Nat.le_trans (by
      show a ^^^ (a &&& p) ≤ a
      have : a ^^^ (a &&& p) = a &&& (a ^^^ (a &&& p)) := by
        refine Nat.eq_of_testBit_eq fun i => ?_
        simp only [Nat.testBit_xor, Nat.testBit_and]
        cases a.testBit i <;> cases p.testBit i <;> rfl
      rw [this]
      exact Nat.and_le_left) h)
theorem or_full {p c : Nat} (h : p < 2 ^ c) : p ||| (2 ^ c - 1) = 2 ^ c - 1 := by
  refine Nat.eq_of_testBit_eq fun i => ?_
  rw [Nat.testBit_or, Nat.testBit_two_pow_sub_one]
  by_cases hi : i < c
  · simp [hi]
  · rw [bit_above h (by omega)]; simp
section
variable {P : Program} {w : World} {K : PySem.W.Frag} {mg : Str → Option Value} {base : Heap} {A : Adr}
theorem ok_law_parts (T : Txt K mg A) : FnOk P w K mg base CX0 5 A.f_law_parts A.d_law_parts ["_law_cell", "_law_columns"] sp_lparts := by
  have G_law_draw := ok_law_draw (P := P) (w := w) (base := base) T
  have G_law_set := ok_law_set (P := P) (w := w) (base := base) T
  refine T.F_law_parts.ok sc_law_parts (fun vs H Q E h => ?_) (fun cdv A' outer s H vs Q E hr h => ?_)
  · obtain ⟨x, c, rfl, _⟩ := h; rfl
  · obtain ⟨x, c, rfl, hc1, hc6, k⟩ := h
    have h64 : 2 ^ c ≤ 64 := Nat.pow_le_pow_right (by decide) hc6
    have hpos : 0 < 2 ^ c := Nat.two_pow_pos c
    refine ⟨_, (pss_cons (ps_set (i := 2) sc_law_parts.nd rfl (Or.inl rfl) (pe_lst pa_nil))
      (pss_cons (ps_if (PW.pt (pw_and (pt_cmpR op_lt (pv 1) pe_int (nomark _)) (pw_and1 (pt_cmpR op_eq (pe_call G_law_draw (hr.mono (by decide)) rfl T.m_law_draw T.F_law_draw.kp T.b_law_draw .nil pass0 (pa_cons (pv 0) (pa_cons pe_int (pa_cons pe_int pa_nil)))) pe_int (nomark _))))) (pss_one (ps_for PassesOwn.never rfl (pi_range1 rfl T.z_range (pa_cons (pv 1) pa_nil)) (pg_name (i := 3) sc_law_parts.nd rfl (Or.inr rfl))
      (pss_one (ps_expr (pe_extendK K (pv 2) (pa_cons (pe_comp ["_law_cell", "_law_columns", "_law_parts_here", "_law_one", "_law_k", "_law_left", "_law_part"] (defScope s_law_parts) ["_law_other", "_law_one"] [none, some 3] ⟨rfl, by decide +kernel, by decide +kernel, by decide +kernel, by decide +kernel, by decide +kernel⟩ rfl (pi_range1 rfl T.z_range (pa_cons (pv 3) pa_nil)) (fun _ _ _ _ _ => (pg_name (i := 0) (by show List.Nodup (["_law_other", "_law_one"] : List Str); decide +kernel) rfl (Or.inl rfl) (Or.inr rfl))) (fun _ _ _ _ _ => pts_nil) (fun _ _ _ _ _ => (pe_op op_or (pe_op op_shl pe_int (pv 1)) (pe_op op_shl pe_int (pv 0))))) pa_nil)))))) pss_nil)
      (pss_cons (ps_for PassesOwn.never rfl (pi_range1 rfl T.z_range (pa_cons (pe_call G_law_draw (hr.mono (by decide)) rfl T.m_law_draw T.F_law_draw.kp T.b_law_draw .nil pass0 (pa_cons (pv 0) (pa_cons pe_int (pa_cons pe_int pa_nil)))) pa_nil)) (pg_name (i := 4) sc_law_parts.nd rfl (Or.inl rfl))
      (pss_one (ps_expr (pe_appendK K (pv 2) (pa_cons (pe_call G_law_set (hr.mono (by decide)) rfl T.m_law_set T.F_law_set.kp T.b_law_set .nil pass0 (pa_cons (pe_op op_add (pv 0) (pe_op op_mul pe_int (pv 4))) (pa_cons (pv 1) pa_nil))) pa_nil)))))
      (pss_cons (ps_setC (i := 2) ["_law_cell", "_law_columns", "_law_parts_here", "_law_one", "_law_k", "_law_left", "_law_part"] (defScope s_law_parts) ["_law_part"] [none] ⟨rfl, by decide +kernel, by decide +kernel, by decide +kernel, by decide +kernel, by decide +kernel⟩ rfl sc_law_parts.nd rfl rfl (pi_listK K (pv 2)) (fun _ _ _ _ _ => (pg_name (i := 0) (by show List.Nodup (["_law_part"] : List Str); decide +kernel) rfl (Or.inl rfl) (Or.inr rfl))) (fun _ _ _ _ _ => pts_one (pt_cmpR op_gt (pv 0) pe_int (nomark _))) (fun _ _ _ _ _ => (pv 0)))
      (pss_cons (ps_set (i := 5) sc_law_parts.nd rfl (Or.inl rfl) (pe_op op_sub (pe_op op_shl pe_int (pv 1)) pe_int))
      (pss_cons (ps_for PassesOwn.never rfl (pi_listK K (pv 2)) (pg_name (i := 6) sc_law_parts.nd rfl (Or.inl rfl))
      (pss_one (ps_set (i := 5) sc_law_parts.nd rfl (Or.inl rfl) (pe_op op_and (pv 5) (pe_un un_inv (pv 6))))))
      (pss_cons (ps_if (PW.pt (pw_or (pt_cmpR op_gt (pv 5) pe_int (nomark _)) (pw_or1 (pt_cmpR (op_eqD hr.units) (pv 2) (pe_lst pa_nil) (nomark _))))) (pss_one (ps_expr (pe_appendK K (pv 2) (pa_cons (pe_op op_or (pv 5) (pe_op op_shl pe_int (pe_op op_mod (pv 0) (pv 1)))) pa_nil)))) pss_nil)
      (pss_one (ps_ret (pv 2)))))))))), ?_⟩
    refine ⟨Nat.zero_le _, fun B hB => ?_⟩
    -- behind the first loop, whether it was walked or not
    suffices rest : ∀ (ov : Option V) (H1 : Hp) (ps : List Nat), Same H H1 → H1 B = some (.lst (nums ps)) → ps.length ≤ 36 → (∀ p ∈ ps, p < 2 ^ c) →
        tSeq _ _ { nx := fun x H' => Q V.non H', rt := Q } [some (.int x), some (.int (c : Nat)), some (.ref B), ov, none, none, none] H1 by
      refine ⟨_, rfl, _, _, rfl, rfl, _, rfl, ?_⟩
      refine ite2 (fun e => ?_) (fun e => ?_)
      · refine ⟨_, rfl, x, 3, 6, rfl, by decide, by decide, fun d hd => ⟨rfl, _, rfl, ?_⟩⟩
        refine ite2 (fun e => ?_) (fun e => ?_)
        · refine ⟨_, rfl, (c : Int), rfl, by omega, by omega, ?_⟩
          rw [Int.toNat_natCast]
          refine for_range (lo := 0) (n := c) (fun i σ' H' => Same H H' ∧ (∃ ov, σ' = [some (.int x), some (.int (c : Nat)), some (.ref B), ov, none, none, none]) ∧ ∃ ps : List Nat, H' B = some (.lst (nums ps)) ∧ ps.length ≤ i * 6 ∧ ∀ p ∈ ps, p < 2 ^ c)
            ⟨Same.new hB, ⟨none, rfl⟩, [], upd_same, Nat.zero_le _, fun p hp => by cases hp⟩ ?_ ?_
          · rintro i σ' H1 hi ⟨s1, ⟨ov, rfl⟩, ps, hB1, hpl, hps⟩
            rw [Int.zero_add]
            refine ⟨_, rfl, .inl ⟨rfl, _, SqL.of hB1⟩, _, rfl, (i : Int), rfl, by omega, by omega, fun D hD => ?_⟩
            rw [Int.toNat_natCast]
            refine comp_range (lo := 0) (n := i) (fun k ys H' => Same H1 H' ∧ ∃ qs : List Nat, ys = nums qs ∧ qs.length = k ∧ ∀ p ∈ qs, p < 2 ^ c) ⟨Same.new hD, [], rfl, rfl, fun n hn => by cases hn⟩ ?_ ?_
            · rintro k7 ys H4 hk7 ⟨s4, qs, rfl, hql, hqs⟩ hDl
              rw [Int.zero_add]
              refine yes_mk ?_
              refine ⟨_, rfl, 1, (i : Int), rfl, rfl, ⟨Int.natCast_nonneg i, by omega, by decide⟩, _, rfl, 1, (k7 : Int), rfl, rfl, ⟨Int.natCast_nonneg k7, by omega, by decide⟩, _, _, rfl, rfl, ?_⟩
              refine CE1.mk hDl (small1000 (by rw [nums_len]; omega)) ⟨Same.up s4 hD, qs ++ [2 ^ i ||| 2 ^ k7], ?_, by rw [List.length_append, hql]; rfl, fun n hn => ?_⟩
              · rw [nums_snoc, ← or_nat, ← shl_nat, ← shl_nat]
              · rcases List.mem_append.mp hn with z | z
                · exact hqs n z
                · rw [List.mem_singleton.mp z]
                  exact Nat.or_lt_two_pow (Nat.pow_lt_pow_right (by decide) hi) (Nat.pow_lt_pow_right (by decide) (by omega))
            · rintro ys H4 ⟨s4, qs, rfl, hql, hqs⟩ hDl
              refine ⟨B, D, _, _, rfl, rfl, s4 _ _ hB1, hDl, by rw [nums_len, nums_len, sizeLine_eq]; omega, ?_⟩
              refine ⟨Same.up (s1.trans s4) hB, ⟨_, rfl⟩, ps ++ qs, by rw [upd_same]; unfold nums; rw [List.map_append], by rw [List.length_append]; omega, fun p hp => ?_⟩
              rcases List.mem_append.mp hp with z | z
              · exact hps p z
              · exact hqs p z
          · rintro σ' H1 ⟨s1, ⟨ov, rfl⟩, ps, hB1, hpl, hps⟩
            exact rest ov H1 ps s1 hB1 (by omega) hps
        · exact rest none _ [] (Same.new hB) upd_same (Nat.zero_le _) fun p hp => by cases hp
      · refine iteF ?_
        exact rest none _ [] (Same.new hB) upd_same (Nat.zero_le _) fun p hp => by cases hp
    intro ov H1 ps s1 hB1 hpl hps
    refine ⟨_, rfl, x, 1, 4, rfl, by decide, by decide, fun nr hnr => ⟨(nr : Int), rfl, by omega, by omega, ?_⟩⟩
    rw [Int.toNat_natCast]
    refine for_range (lo := 0) (n := nr) (fun i σ' H' => Same H H' ∧ (∃ kv, σ' = [some (.int x), some (.int (c : Nat)), some (.ref B), ov, kv, none, none]) ∧ ∃ ps : List Nat, H' B = some (.lst (nums ps)) ∧ ps.length ≤ 36 + i ∧ ∀ p ∈ ps, p < 2 ^ c)
      ⟨s1, ⟨none, rfl⟩, ps, hB1, hpl, hps⟩ ?_ ?_
    · rintro i σ' H2 hi ⟨s2, ⟨kv, rfl⟩, ps2, hB2, hpl2, hps2⟩
      rw [Int.zero_add]
      refine ⟨_, rfl, .inl ⟨rfl, _, SqL.of hB2⟩, _, rfl, _, rfl, 977, (i : Int), rfl, rfl, .inl ⟨by decide, by decide⟩, _, _, rfl, rfl, _, rfl, _, c, rfl, hc6, fun s hs => ⟨B, nums ps2, .int (s : Nat), rfl, rfl, hB2, small1000 (by rw [nums_len]; omega), ?_⟩⟩
      refine ⟨Same.up s2 hB, ⟨_, rfl⟩, ps2 ++ [s], by rw [upd_same, nums_snoc], by rw [List.length_append]; show ps2.length + 1 ≤ _; omega, fun p hp => ?_⟩
      rcases List.mem_append.mp hp with z | z
      · exact hps2 p z
      · rw [List.mem_singleton.mp z]; exact hs
    rintro σ' H2 ⟨s2, ⟨kv, rfl⟩, ps2, hB2, hpl2, hps2⟩
    refine ⟨_, rfl, B, rfl, ⟨_, SqL.of hB2⟩, fun D hD => comp_list (xs := nums ps2) (fun i ys H' => Same H2 H' ∧ i ≤ ps2.length ∧ ys = nums ((ps2.take i).filter fun p => decide (0 < p))) ⟨Same.new hD, Nat.zero_le _, rfl⟩ (fun i ys H' _ ⟨e, _⟩ => SqL.of (e _ _ hB2)) ?_ ?_⟩
    · rintro i v ys H' hx ⟨se, hi, rfl⟩ hDl
      obtain ⟨n, hn, rfl⟩ := nums_at hx
      have hi' : i < ps2.length := (List.getElem?_eq_some_iff.mp hn).1
      have et : (ps2.take (i + 1)).filter (fun p => decide (0 < p)) = (ps2.take i).filter (fun p => decide (0 < p)) ++ (if 0 < n then [n] else []) := by
        rw [List.take_succ, hn, List.filter_append]
        congr 1
        by_cases e : 0 < n
        · simp [e]
        · simp [e]
      have hll : ((ps2.take i).filter fun p => decide (0 < p)).length ≤ 64 := Nat.le_trans (List.length_filter_le _ _) (by rw [List.length_take]; omega)
      refine ⟨_, rfl, (n : Int), 0, rfl, rfl, _, rfl, ?_⟩
      refine ite2 (fun e => ?_) (fun e => ?_)
      · have e' : 0 < n := by have := of_decide_eq_true e; omega
        refine ⟨_, rfl, CE1.mk hDl (small1000 (by rw [nums_len]; omega)) ⟨Same.up se hD, hi', ?_⟩⟩
        rw [et, if_pos e', nums_snoc]
      · have e' : ¬ 0 < n := fun z => e (decide_eq_true (by omega))
        refine CN.mk hDl ⟨se, hi', ?_⟩
        rw [et, if_neg e', List.append_nil]
    rintro ys H3 ⟨s3, _, rfl⟩ hD3
    rw [nums_len, List.take_length] at hD3
    have hqs : ∀ p ∈ ps2.filter (fun p => decide (0 < p)), 1 ≤ p ∧ p < 2 ^ c := fun p hp => by
      obtain ⟨a, b⟩ := List.mem_filter.mp hp
      have := of_decide_eq_true b
      exact ⟨by omega, hps2 p a⟩
    have hql : (ps2.filter fun p => decide (0 < p)).length ≤ 40 := Nat.le_trans (List.length_filter_le _ _) (by omega)
    generalize ps2.filter (fun p => decide (0 < p)) = qs at hD3 hqs hql
    have s03 : Same H H3 := s2.trans s3
    have hDn : H D = none := s2.free hD
    have hor := lf_or qs (2 ^ c - 1) 0 (by simp) fun p hp => or_full (hqs p hp).2
    have hlt := lf_lt qs (2 ^ c - 1) (Nat.le_refl _)
    refine ⟨_, rfl, 1, (c : Int), rfl, rfl, ⟨Int.natCast_nonneg c, by omega, by decide⟩, _, 1, rfl, rfl, ?_⟩
    have e0 : (1 : Int) * 2 ^ ((c : Int)).toNat - 1 = ((lf (2 ^ c - 1) [] : Nat) : Int) := by rw [shl_nat, full_castN]; rfl
    refine ⟨_, rfl, D, rfl, ⟨_, SqL.of hD3⟩, for_list (K := K) (a := D) (xs := nums qs) (fun i σ' H' => H' = H3 ∧ ∃ pv, σ' = [some (.int x), some (.int (c : Nat)), some (.ref D), ov, kv, some (.int (lf (2 ^ c - 1) (qs.take i) : Nat)), pv])
      ⟨rfl, none, by
        show [_, _, _, _, _, some (V.int ((1 : Int) * 2 ^ ((c : Int)).toNat - 1)), none] = _
        rw [e0]; rfl⟩ (fun i σ' H' _ ⟨e, _⟩ => by subst e; exact SqL.of hD3) ?_ ?_⟩
    · rintro i v σ' H' hx ⟨rfl, pv, rfl⟩
      obtain ⟨p, hpi, rfl⟩ := nums_at hx
      have hpb := (hqs p (List.mem_of_getElem? hpi)).2
      have hlb : lf (2 ^ c - 1) (qs.take i) ≤ 2 ^ c - 1 := lf_lt _ _ (Nat.le_refl _)
      refine ⟨_, rfl, _, rfl, (p : Int), rfl, _, _, rfl, rfl, rfl, some (.int (p : Nat)), ?_⟩
      rw [lf_snoc hpi, ← andn64 _ (by omega) _ (by omega)]; rfl
    · rintro σ' H' ⟨rfl, pv, rfl⟩
      rw [nums_len, List.take_length]
      have hlf : lf (2 ^ c - 1) qs ≤ 2 ^ c - 1 := hlt
      have hlo : lf (2 ^ c - 1) qs ||| qs.foldl (· ||| ·) 0 = 2 ^ c - 1 := hor
      generalize lf (2 ^ c - 1) qs = L at hlf hlo ⊢
      suffices app : ∀ H4, Same H' H4 → tDrop _ { nx := _, rt := Q } [some (.int x), some (.int (c : Nat)), some (.ref D), ov, kv, some (.int (L : Nat)), pv] H4 by
        refine ⟨_, rfl, _, 0, rfl, rfl, _, rfl, ?_⟩
        refine ite2 (fun e => ?_) (fun e => ?_)
        · exact iteT (app H' (Same.refl _))
        · have hL0 : L = 0 := by
            have : ¬ (0 : Int) < (L : Int) := fun z => e (decide_eq_true z)
            omega
          refine ⟨_, rfl, Nat.zero_le _, fun E hE => ⟨.list (qs.map fun n => PyData.int (n : Nat)), .list [], .lst (Same.new hE _ _ hD3) (nums_dt qs), .lst upd_same .nil, lay_nums qs, rfl, ?_, _, rfl, ?_⟩⟩
          · show PyData.depthAll _ + 1 ≤ 60
            have := depth_nums qs
            omega
          · have ee : PyData.eqv (.list (qs.map fun n => PyData.int (n : Nat))) (.list []) = decide (qs = []) := eqv_numsD qs []
            rw [ee]
            refine ite2 (fun e2 => ?_) (fun e2 => ?_)
            · exact app _ (Same.new hE)
            · have hne : ¬ qs = [] := fun z => by rw [decide_eq_true z] at e2; exact e2 rfl
              have h1 : 1 ≤ qs.length := Nat.one_le_iff_ne_zero.mpr fun z => hne (List.eq_nil_of_length_eq_zero z)
              rw [hL0, Nat.zero_or] at hlo
              exact ⟨_, rfl, k D qs _ hDn (s03.trans (Same.new hE)) (Same.new hE _ _ hD3) h1 (by omega) hqs hlo⟩
      intro H4 s4
      obtain ⟨r, hr⟩ := Int.eq_ofNat_of_zero_le (Int.emod_nonneg x (show ((c : Nat) : Int) ≠ 0 by omega))
      have hrc : r < c := by have := Int.emod_lt_of_pos x (show (0 : Int) < ((c : Nat) : Int) by omega); omega
      have hr2 : 2 ^ r < 2 ^ c := Nat.pow_lt_pow_right (by decide) hrc
      refine ⟨_, rfl, .inl ⟨rfl, _, SqL.of (s4 _ _ hD3)⟩, _, rfl, _, rfl, _, rfl, x, (c : Int), rfl, rfl, by show (0 : Int) < (c : Int); omega, 1, (r : Int), rfl, by show V.int (x % (c : Int)) = _; rw [hr], ⟨Int.natCast_nonneg r, by omega, by decide⟩, _, _, rfl, rfl, D, nums qs, .int (L ||| 2 ^ r : Nat), rfl, ?_, s4 _ _ hD3, small1000 (by rw [nums_len]; omega), ?_⟩
      · rw [← or_nat, ← shl_nat]
      · have hp2 : 1 ≤ L ||| 2 ^ r ∧ L ||| 2 ^ r < 2 ^ c := ⟨Nat.le_trans (Nat.one_le_two_pow) Nat.right_le_or, Nat.or_lt_two_pow (by omega) hr2⟩
        refine ⟨_, rfl, k D (qs ++ [L ||| 2 ^ r]) _ hDn (Same.up (s03.trans s4) hDn) (by rw [upd_same, nums_snoc]) (by rw [List.length_append]; show 1 ≤ qs.length + 1; omega) (by rw [List.length_append]; show qs.length + 1 < 64; omega) (fun p hp => ?_) ?_⟩
        · rcases List.mem_append.mp hp with z | z
          · exact hqs p z
          · rw [List.mem_singleton.mp z]; exact hp2
        · rw [List.foldl_append]
          show qs.foldl (· ||| ·) 0 ||| (L ||| 2 ^ r) = 2 ^ c - 1
          rw [← Nat.or_assoc, Nat.or_comm (qs.foldl (· ||| ·) 0) L, hlo, Nat.or_comm]
          exact or_full hr2
end
end K07

namespace K07
open PySem L2 TC
theorem tbl_notin {H : Hp} {a : Addr} {ts : List Addr} {S : List (List Nat)} (h : H a = some (.lst (ts.map V.ref))) (r : Rws H ts S) : a ∉ ts := fun z => by
  obtain ⟨j, hj⟩ := List.mem_iff_getElem?.mp z
  obtain ⟨t', r', e1, e2, e3⟩ := r.get (i := j) (v := .ref a) (by rw [List.getElem?_map, hj]; rfl)
  injection e1 with e1
  rw [← e1, h] at e3
  injection e3 with e3
  injection e3 with e3
  cases ts with
  | nil => simp at z
  | cons t ts => cases r' with
    | nil => simp [nums] at e3
    | cons n r' => simp [nums] at e3
theorem ltB_trip {q : Nat × Nat × Nat} (h : q.1 < 64 ∧ q.2.1 < 64 ∧ q.2.2 < 64) : ltB 64 [q.1, q.2.1, q.2.2] = true := by
  unfold ltB
  simp [h.1, h.2.1, h.2.2]
def sp_lback : Sp := fun vs H Q _ => ∃ (l pl d : Addr) (c : Nat) (ps : List (Nat × Nat)) (pts : List Nat) (L : List (Nat × Nat × Nat)), vs = [.ref l, .int (c : Nat), .ref pl, .ref d] ∧ PrsAt H l ps ∧ Good c ps ∧ H pl = some (.lst (nums pts)) ∧ pts.length ≤ 64 ∧ (∀ p ∈ pts, p < 64) ∧ TrsAt H d L ∧ (∀ q ∈ L, q.1 < 64 ∧ q.2.1 < 64 ∧ q.2.2 < 64) ∧ backB c ps pts L = true ∧
  ∀ H', Same H H' → Q (.bl true) H'
def sp_llost : Sp := fun vs H Q _ => ∃ (l pl a b : Addr) (c : Nat) (ps : List (Nat × Nat)) (pts : List Nat) (S : List (List Nat)) (r : List Nat), vs = [.ref l, .int (c : Nat), .ref pl, .ref a, .ref b] ∧ PrsAt H l ps ∧ Good c ps ∧ H pl = some (.lst (nums pts)) ∧ pts.length ≤ 64 ∧ (∀ p ∈ pts, p < 64) ∧ TblAt H a S ∧ H b = some (.lst (nums r)) ∧ lostB c ps pts S r = true ∧
  ∀ H', Same H H' → Q (.bl true) H'
section
variable {P : Program} {w : World} {K : PySem.W.Frag} {mg : Str → Option Value} {base : Heap} {A : Adr}
theorem ok_law_back (T : Txt K mg A) : FnOk P w K mg base CX0 3 A.f_law_back A.d_law_back ["_law_pairs_here", "_law_columns", "_law_parts_here", "_law_steps"] sp_lback := by
  have G_law_sheet := ok_law_sheet (P := P) (w := w) (base := base) T
  have G_law_like := ok_law_like (P := P) (w := w) (base := base) T
  have G_law_stepped := ok_law_stepped (P := P) (w := w) (base := base) T
  have G_law_numbers := ok_law_numbers (P := P) (w := w) (base := base) T
  refine T.F_law_back.ok sc_law_back (fun vs H Q E h => ?_) (fun cdv A' outer s H vs Q E hr h => ?_)
  · obtain ⟨l, pl, d, c, ps, pts, L, rfl, _⟩ := h; rfl
  · obtain ⟨l, pl, d, c, ps, pts, L, rfl, ⟨tl, hl, htl⟩, ⟨hc1, hc6, hlen, hps⟩, hpl, hpn, hpts, ⟨tL, hd, hT⟩, hlt, hback, k⟩ := h
    have h64 : 2 ^ c ≤ 64 := Nat.pow_le_pow_right (by decide) hc6
    have hlL : (tL.map V.ref).length = L.length := by rw [List.length_map]; exact hT.len
    have hlp : (tl.map V.ref).length = ps.length := by rw [List.length_map]; exact htl.len
    refine ⟨_, (pss_cons (ps_set (i := 4) sc_law_back.nd rfl (Or.inl rfl) (pe_call G_law_sheet (hr.mono (by decide)) rfl T.m_law_sheet T.F_law_sheet.kp T.b_law_sheet .nil pass0 (pa_cons (pv 2) (pa_cons (pv 1) pa_nil))))
      (pss_cons (ps_if (pt_not (pt_val (pe_callB (call_isinstK K) rfl T.z_isinstance bt_isinstance (pa_cons (pv 3) (pa_cons (pe_bltn (v := .ty "list") rfl T.z_list bt_list rfl) pa_nil))))) (pss_one (ps_ret pe_bl)) pss_nil)
      (pss_cons (ps_for PassesOwn.never rfl (pi_listK K (pv 3)) (pg_name (i := 5) sc_law_back.nd rfl (Or.inl rfl))
      (pss_cons (ps_if (PW.pt (pw_or (pt_not (pt_val (pe_callB (call_isinstK K) rfl T.z_isinstance bt_isinstance (pa_cons (pv 5) (pa_cons (pe_bltn (v := .ty "tuple") rfl T.z_tuple bt_tuple rfl) pa_nil))))) (pw_or (pt_cmpR op_ne (pe_callB (call_lenK K) rfl T.z_len bt_len (pa_cons (pv 5) pa_nil)) pe_int (nomark _)) (pw_or1 (pt_not (pt_val (pe_call G_law_numbers (hr.mono (by decide)) rfl T.m_law_numbers T.F_law_numbers.kp T.b_law_numbers .nil pass0 (pa_cons (pe_callTy (call_listK K) rfl T.z_list bt_list (pa_cons (pv 5) pa_nil)) (pa_cons pe_int pa_nil))))))))) (pss_one (ps_ret pe_bl)) pss_nil)
      (pss_cons (ps_asg (pv 5) (pg_tupK K (n := 3) rfl (pgs_cons (pg_name (i := 6) sc_law_back.nd rfl (Or.inl rfl)) (pgs_cons (pg_name (i := 7) sc_law_back.nd rfl (Or.inl rfl)) (pgs_cons (pg_name (i := 8) sc_law_back.nd rfl (Or.inl rfl)) pgs_nil)))))
      (pss_cons (ps_if (PW.pt (pw_or (pt_cmpR op_ge (pv 6) (pe_callB (call_lenK K) rfl T.z_len bt_len (pa_cons (pv 0) pa_nil)) (nomark _)) (pw_or (pt_cmpR op_ge (pv 7) (pe_callB (call_lenK K) rfl T.z_len bt_len (pa_cons (pv 4) pa_nil)) (nomark _)) (pw_or1 (pt_cmpR op_ge (pv 8) (pe_callB (call_lenK K) rfl T.z_len bt_len (pa_cons (pv 4) pa_nil)) (nomark _)))))) (pss_one (ps_ret pe_bl)) pss_nil)
      (pss_cons (ps_if (pt_not (pt_val (pe_call G_law_like (hr.mono (by decide)) rfl T.m_law_like T.F_law_like.kp T.b_law_like .nil pass0 (pa_cons (pe_ix (ix_listK K) (pv 4) (pv 7) (fun _ _ => rfl)) (pa_cons (pe_ix (ix_listK K) (pv 4) (pv 8) (fun _ _ => rfl)) (pa_cons (pe_ix (ix_tupK K) (pe_ix (ix_listK K) (pv 0) (pv 6) (fun _ _ => rfl)) pe_int (fun _ _ => rfl)) pa_nil)))))) (pss_one (ps_ret pe_bl)) pss_nil)
      (pss_one (ps_set (i := 4) sc_law_back.nd rfl (Or.inl rfl) (pe_call G_law_stepped (hr.mono (by decide)) rfl T.m_law_stepped T.F_law_stepped.kp T.b_law_stepped .nil pass0 (pa_cons (pv 4) (pa_cons (pv 7) (pa_cons (pv 8) (pa_cons (pe_ix (ix_tupK K) (pe_ix (ix_listK K) (pv 0) (pv 6) (fun _ _ => rfl)) pe_int (fun _ _ => rfl)) pa_nil))))))))))))
      (pss_one (ps_ret (pe_cmpR (op_inD hr.units) (pe_comp ["_law_pairs_here", "_law_columns", "_law_parts_here", "_law_steps", "_law_sheet_here", "_law_step", "_law_place", "_law_one", "_law_other"] (defScope s_law_back) ["_law_column"] [none] ⟨rfl, by decide +kernel, by decide +kernel, by decide +kernel, by decide +kernel, by decide +kernel⟩ rfl (pi_range1 rfl T.z_range (pa_cons (pv 1) pa_nil)) (fun _ _ _ _ _ => (pg_name (i := 0) (by show List.Nodup (["_law_column"] : List Str); decide +kernel) rfl (Or.inl rfl) (Or.inr rfl))) (fun _ _ _ _ _ => pts_nil) (fun _ _ _ _ _ => pe_int)) (pv 4) (by with_unfolding_all rfl))))))), ?_⟩
    refine ⟨_, rfl, _, rfl, pl, c, pts, rfl, hpl, hc6, hpn, hpts, fun g ts H1 hg s1 hS1 => ?_⟩
    have fr : ∀ {H' H'' : Hp}, Same H H' → But ts H' H'' → Same H H'' := fun s' b => But.fresh s' b fun t ht => (hS1.n t ht).1
    have hd1 := s1 _ _ hd
    refine ⟨_, rfl, _, _, _, true, rfl, .lst hd1, kit_list_list, true, rfl, iteF ?_⟩
    have hrunL : runS c ps L (sheetN c pts) ≠ none := fun z => by rw [backB_no z] at hback; cases hback
    refine ⟨_, rfl, d, rfl, ⟨_, SqL.of hd1⟩, for_list (K := K) (a := d) (xs := tL.map V.ref) (fun i σ' H' => ∃ S : List (List Nat), Same H H' ∧ ShtAt H H' g ts c S ∧ runS c ps (L.take i) (sheetN c pts) = some S ∧ ∃ o5 o6 o7 o8 : Option V, σ' = [some (.ref l), some (.int (c : Nat)), some (.ref pl), some (.ref d), some (.ref g), o5, o6, o7, o8])
      ⟨_, s1, hS1, rfl, none, none, none, none, rfl⟩ (fun i σ' H' _ ⟨_, e, _⟩ => SqL.of (e _ _ hd)) ?_ ?_⟩
    · rintro i v σ' H2 hv ⟨S, s2, hS2, hrun, o5, o6, o7, o8, rfl⟩
      obtain ⟨t, q, rfl, hq, ht⟩ := (hT.same s2).get hv
      have hqm := List.mem_of_getElem? hq
      have hsh := Shp.run (Shp.sheet c pts) hrun
      have hrt := runS_take (c := c) (ps := ps) (S := sheetN c pts) hq
      rw [hrun] at hrt
      have hrt' : runS c ps (L.take (i + 1)) (sheetN c pts) = runS c ps [q] S := hrt
      have hok : okS ps S q = true := by
        cases e : okS ps S q with
        | true => rfl
        | false => exact absurd (runS_no (i := i + 1) (by rw [hrt']; show (if okS ps S q = true then _ else none) = none; rw [e]; exact if_neg (by decide))) hrunL
      have hok' := hok
      unfold okS at hok'
      rw [Bool.and_eq_true, Bool.and_eq_true, Bool.and_eq_true] at hok'
      obtain ⟨b1, b2, b3, b4⟩ := hok'
      have b1 := of_decide_eq_true b1
      have b2 := of_decide_eq_true b2
      have b3 := of_decide_eq_true b3
      refine ⟨_, rfl, _, _, _, true, rfl, .tup ht, kit_tuple_tuple, true, rfl, iteF ⟨_, rfl, t, _, rfl, .inr (SqT.of ht), rfl, _, rfl, iteF ?_⟩⟩
      refine ⟨_, rfl, t, trip q, rfl, .inr (SqT.of ht), fun e he => ?_⟩
      have s3 : Same H2 (upd H2 e (.lst (trip q))) := Same.new he
      refine ⟨e, [q.1, q.2.1, q.2.2], 64, rfl, upd_same, by show 3 ≤ 900; decide, fun H4 s4 => ⟨_, rfl, ?_⟩⟩
      rw [ltB_trip (hlt q hqm)]
      refine iteF ?_
      have s24 := s3.trans s4
      have s04 := s2.trans s24
      have hS4 := hS2.same s24
      have ht4 := s24 _ _ ht
      refine ⟨_, rfl, t, _, rfl, SqT.of ht4, rfl, _, _, rfl, _, _, rfl, _, _, rfl, rfl, ?_⟩
      have hl4 := s04 _ _ hl
      have htl4 := htl.same s04
      refine ⟨_, rfl, _, rfl, l, _, rfl, .inl (SqL.of hl4), (q.1 : Int), _, rfl, rfl, _, rfl, ?_⟩
      refine ite2 (fun e => absurd (of_decide_eq_true e) (by rw [hlp]; omega)) (fun _ => ?_)
      refine ⟨_, rfl, _, rfl, g, _, rfl, .inl (SqL.of hS4.l), (q.2.1 : Int), _, rfl, rfl, _, rfl, ?_⟩
      refine ite2 (fun e => absurd (of_decide_eq_true e) (by rw [List.length_map, hS4.len]; omega)) (fun _ => ?_)
      refine ⟨_, rfl, _, rfl, g, _, rfl, .inl (SqL.of hS4.l), (q.2.2 : Int), _, rfl, rfl, _, rfl, ?_⟩
      refine ite2 (fun e => absurd (of_decide_eq_true e) (by rw [List.length_map, hS4.len]; omega)) (fun _ => ?_)
      have hpt : (tl.map V.ref)[q.1]? = some (.ref (tl[q.1]'(by rw [List.length_map] at hlp; omega))) := by rw [List.getElem?_map, List.getElem?_eq_getElem (by rw [List.length_map] at hlp; omega)]; rfl
      obtain ⟨tp, p, ep, hp, htp⟩ := htl4.get hpt
      rw [ep] at hpt
      have hgp : ps.getD q.1 (0, 0) = p := by simp [List.getD, hp]
      have hpb := hps p (List.mem_of_getElem? hp)
      obtain ⟨t1, _, _, e1, h1'⟩ := hS4.at (getD_mem b2)
      obtain ⟨t2, _, _, e2, h2'⟩ := hS4.at (getD_mem b3)
      have w1 := hsh.2 _ (List.mem_of_getElem? (getD_mem b2))
      have w2 := hsh.2 _ (List.mem_of_getElem? (getD_mem b3))
      refine ⟨_, rfl, _, rfl, g, _, (q.2.1 : Int), _, rfl, rfl, SqL.of hS4.l, atI_nat e1, _, rfl, _, rfl, g, _, (q.2.2 : Int), _, rfl, rfl, SqL.of hS4.l, atI_nat e2, _, rfl, _, rfl, l, _, (q.1 : Int), _, rfl, rfl, SqL.of hl4, atI_nat hpt, tp, _, 0, _, rfl, rfl, SqT.of htp, rfl, t1, t2, S.getD q.2.1 [], S.getD q.2.2 [], p.1, rfl, h1', h2', by rw [w1, w2], by rw [w1]; exact hc6, by omega, _, rfl, ?_⟩
      have b4' := of_decide_eq_true b4
      rw [hgp] at b4'
      rw [decide_eq_true b4']
      refine iteF ?_
      refine ⟨_, rfl, _, rfl, _, rfl, _, rfl, _, rfl, l, _, (q.1 : Int), _, rfl, rfl, SqL.of hl4, atI_nat hpt, tp, _, 1, _, rfl, rfl, SqT.of htp, rfl, H, g, ts, c, q.2.1, q.2.2, p.2, S, rfl, hS4, hc6, b2, b3, hpb.2, fun H5 b5 hS5 => ?_⟩
      refine ⟨_, fr s04 b5, hS5, ?_, _, _, _, _, rfl⟩
      rw [hrt', runS_one hok]
      unfold doS
      rw [hgp]
    · rintro σ' H2 ⟨S, s2, hS2, hrun, o5, o6, o7, o8, rfl⟩
      rw [hlL, List.take_length] at hrun
      refine ⟨_, rfl, (c : Int), rfl, by omega, by omega, fun D hD => ?_⟩
      rw [Int.toNat_natCast]
      refine comp_range (lo := 0) (n := c) (fun j ys H' => Same H2 H' ∧ ys = nums (List.replicate j 0)) ⟨Same.new hD, rfl⟩ ?_ ?_
      · rintro j ys H3 hj ⟨s3, rfl⟩ hDl
        refine yes_mk ?_
        refine CE1.mk hDl (small1000 (by rw [nums_len, List.length_replicate]; omega)) ⟨Same.up s3 hD, ?_⟩
        rw [List.replicate_succ', nums_snoc]; rfl
      · rintro ys H3 ⟨s3, rfl⟩ hDl
        have hS3 := hS2.same s3
        refine ⟨_, rfl, rowD (List.replicate c 0), S.map rowD, rowD_dt hDl, tbl_dt ⟨ts, hS3.l, hS3.r⟩, lay_row' _, lay_rows _, depth_row' _, ?_⟩
        rw [if_neg (by decide), in_rows']
        rw [backB_at hrun] at hback
        rw [hback]
        exact k H3 (s2.trans s3)
theorem ok_law_lost (T : Txt K mg A) : FnOk P w K mg base CX0 5 A.f_law_lost A.d_law_lost ["_law_pairs_here", "_law_columns", "_law_parts_here", "_law_table", "_law_row"] sp_llost := by
  have G_law_like := ok_law_like (P := P) (w := w) (base := base) T
  have G_law_keeps := ok_law_keeps (P := P) (w := w) (base := base) T
  have G_law_numbers := ok_law_numbers (P := P) (w := w) (base := base) T
  refine T.F_law_lost.ok sc_law_lost (fun vs H Q E h => ?_) (fun cdv A' outer s H vs Q E hr h => ?_)
  · obtain ⟨l, pl, a, b, c, ps, pts, S, r, rfl, _⟩ := h; rfl
  · obtain ⟨l, pl, a, b, c, ps, pts, S, r, rfl, ⟨tl, hl, htl⟩, ⟨hc1, hc6, hlen, hps⟩, hpl, hpn, hpts, ⟨ts, ha, hR⟩, hb, hlost, k⟩ := h
    have h64 : 2 ^ c ≤ 64 := Nat.pow_le_pow_right (by decide) hc6
    have hlS : (ts.map V.ref).length = S.length := by rw [List.length_map]; exact hR.len
    have hlp : (tl.map V.ref).length = ps.length := by rw [List.length_map]; exact htl.len
    unfold lostB at hlost
    rw [Bool.and_eq_true, Bool.and_eq_true, Bool.and_eq_true, Bool.and_eq_true] at hlost
    obtain ⟨b1, b2, b3, b4, b5⟩ := hlost
    have gd := tabB_good b1
    have hin : ¬ r ∈ S := by simpa using b3
    have hrow := b2
    unfold rowB at hrow
    rw [Bool.and_eq_true] at hrow
    have hrl := of_decide_eq_true hrow.1
    refine ⟨_, (pss_cons (ps_if (PW.pt (pw_or (pt_not (pt_val (pe_call G_law_numbers (hr.mono (by decide)) rfl T.m_law_numbers T.F_law_numbers.kp T.b_law_numbers .nil pass0 (pa_cons (pv 4) (pa_cons pe_int pa_nil))))) (pw_or (pt_cmpR op_ne (pe_callB (call_lenK K) rfl T.z_len bt_len (pa_cons (pv 4) pa_nil)) (pv 1) (nomark _)) (pw_or1 (pt_not (pt_val (pe_callB (call_isinstK K) rfl T.z_isinstance bt_isinstance (pa_cons (pv 3) (pa_cons (pe_bltn (v := .ty "list") rfl T.z_list bt_list rfl) pa_nil))))))))) (pss_one (ps_ret pe_bl)) pss_nil)
      (pss_cons (ps_if (pt_not (pt_val (pe_callB (call_allK K rfl) rfl T.z_all bt_all (pa_cons (pe_comp ["_law_pairs_here", "_law_columns", "_law_parts_here", "_law_table", "_law_row"] (defScope s_law_lost) ["_law_one", "_law_columns"] [none, some 1] ⟨rfl, by decide +kernel, by decide +kernel, by decide +kernel, by decide +kernel, by decide +kernel⟩ rfl (pi_listK K (pv 3)) (fun _ _ _ _ _ => (pg_name (i := 0) (by show List.Nodup (["_law_one", "_law_columns"] : List Str); decide +kernel) rfl (Or.inl rfl) (Or.inr rfl))) (fun _ _ _ _ _ => pts_nil) (fun _ _ _ _ _ => (pe_and (pe_call G_law_numbers (hr.mono (by decide)) rfl T.m_law_numbers T.F_law_numbers.kp T.b_law_numbers .nil pass0 (pa_cons (pv 0) (pa_cons pe_int pa_nil))) (pe_one (pe_cmpR op_eq (pe_callB (call_lenK K) rfl T.z_len bt_len (pa_cons (pv 0) pa_nil)) (pv 1) (nomark _)))))) pa_nil)))) (pss_one (ps_ret pe_bl)) pss_nil)
      (pss_cons (ps_if (PW.pt (pw_or (pt_cmpR (op_inD hr.units) (pv 4) (pv 3) (by with_unfolding_all rfl)) (pw_or1 (pt_not (pt_val (pe_callB (call_allK K rfl) rfl T.z_all bt_all (pa_cons (pe_comp ["_law_pairs_here", "_law_columns", "_law_parts_here", "_law_table", "_law_row"] (defScope s_law_lost) ["_law_rule", "_law_table"] [none, some 3] ⟨rfl, by decide +kernel, by decide +kernel, by decide +kernel, by decide +kernel, by decide +kernel⟩ rfl (pi_listK K (pv 0)) (fun _ _ _ _ _ => (pg_name (i := 0) (by show List.Nodup (["_law_rule", "_law_table"] : List Str); decide +kernel) rfl (Or.inl rfl) (Or.inr rfl))) (fun _ _ _ _ _ => pts_nil) (fun _ _ _ _ _ => (pe_call G_law_keeps (hr.mono (by decide)) rfl T.m_law_keeps T.F_law_keeps.kp T.b_law_keeps .nil pass0 (pa_cons (pv 1) (pa_cons (pv 0) pa_nil))))) pa_nil))))))) (pss_one (ps_ret pe_bl)) pss_nil)
      (pss_one (ps_ret (pe_callB (call_allK K rfl) rfl T.z_all bt_all (pa_cons (pe_comp ["_law_pairs_here", "_law_columns", "_law_parts_here", "_law_table", "_law_row"] (defScope s_law_lost) ["_law_part", "_law_table", "_law_row"] [none, some 3, some 4] ⟨rfl, by decide +kernel, by decide +kernel, by decide +kernel, by decide +kernel, by decide +kernel⟩ rfl (pi_listK K (pv 2)) (fun _ _ _ _ _ => (pg_name (i := 0) (by show List.Nodup (["_law_part", "_law_table", "_law_row"] : List Str); decide +kernel) rfl (Or.inr rfl) (Or.inl rfl))) (fun _ _ _ _ _ => pts_nil) (fun _ _ _ _ _ => (pe_callB (call_anyK K rfl) rfl T.z_any bt_any (pa_cons (pe_comp ["_law_part", "_law_table", "_law_row"] (relabelS csc_22 (defScope s_law_lost)) ["_law_one", "_law_row", "_law_part"] [none, some 2, some 0] ⟨rfl, by decide +kernel, by decide +kernel, by decide +kernel, by decide +kernel, by decide +kernel⟩ rfl (pi_listK K (pv 1)) (fun _ _ _ _ _ => (pg_name (i := 0) (by show List.Nodup (["_law_one", "_law_row", "_law_part"] : List Str); decide +kernel) rfl (Or.inl rfl) (Or.inr rfl))) (fun _ _ _ _ _ => pts_nil) (fun _ _ _ _ _ => (pe_call G_law_like (hr.mono (by decide)) rfl T.m_law_like T.F_law_like.kp T.b_law_like .nil pass0 (pa_cons (pv 1) (pa_cons (pv 0) (pa_cons (pv 2) pa_nil)))))) pa_nil)))) pa_nil))))))), ?_⟩
    refine ⟨_, rfl, b, r, 100, rfl, hb, by omega, fun H1 s1 => ⟨_, rfl, ?_⟩⟩
    have e100 : ltB 100 r = true := List.all_eq_true.mpr fun n hn => decide_eq_true (by have := of_decide_eq_true (List.all_eq_true.mp hrow.2 n hn); omega)
    rw [e100]
    refine iteF ⟨_, rfl, b, _, rfl, .inl (SqL.of (s1 _ _ hb)), _, rfl, rfl, _, rfl, ?_⟩
    rw [nums_len, hrl]
    refine ite2 (fun e => absurd e (by simp)) (fun _ => ?_)
    have ha1 := s1 _ _ ha
    refine ⟨_, rfl, _, _, _, true, rfl, .lst ha1, kit_list_list, true, rfl, iteF ?_⟩
    -- rows of numbers
    refine ⟨_, rfl, a, rfl, ⟨_, SqL.of ha1⟩, fun D hD => comp_list (xs := ts.map V.ref) (fun i ys H' => Same H1 H' ∧ ys = List.replicate i (.bl true) ∧ i ≤ S.length) ⟨Same.new hD, rfl, Nat.zero_le _⟩ (fun i ys H' _ ⟨e, _⟩ => SqL.of (e _ _ ha1)) ?_ ?_⟩
    · rintro i v ys H' hx ⟨se, rfl, hi⟩ hDl
      obtain ⟨t, y, rfl, hy, ht⟩ := ((hR.same s1).same se).get hx
      have hi' : i < S.length := (List.getElem?_eq_some_iff.mp hy).1
      have hym := List.mem_of_getElem? hy
      have hyl := (gd.2 y hym).1
      have e1 : ltB 100 y = true := List.all_eq_true.mpr fun n hn => decide_eq_true (by have := (gd.2 y hym).2 n hn; omega)
      refine yes_mk ?_
      refine ⟨_, rfl, t, y, 100, rfl, ht, by omega, fun H7 s7 => ⟨_, rfl, ?_⟩⟩
      rw [e1]
      refine iteT ⟨_, rfl, t, _, rfl, .inl (SqL.of (s7 _ _ ht)), _, rfl, rfl, ?_⟩
      have e2 : decide (V.int ((nums y).length : Int) = V.int (c : Nat)) = true := decide_eq_true (by rw [nums_len, hyl])
      rw [e2]
      refine CE1.mk (s7 _ _ hDl) (small1000 (by rw [List.length_replicate]; have := gd.1; omega)) ⟨Same.up (se.trans s7) hD, ?_, hi'⟩
      rw [List.replicate_succ']
    rintro ys H2 ⟨s2, rfl, _⟩ hDl
    refine ⟨D, List.replicate _ true, rfl, SqL.of (by rw [List.map_replicate]; exact hDl), _, rfl, ?_⟩
    have e2 : (List.replicate (ts.map V.ref).length true).all id = true := by simp
    rw [e2]
    refine iteF ?_
    have s02 := s1.trans s2
    refine ⟨_, rfl, _, rfl, rowD r, S.map rowD, rowD_dt (s02 _ _ hb), tbl_dt ⟨ts, s02 _ _ ha, hR.same s02⟩, lay_row' _, lay_rows _, depth_row' _, _, rfl, ?_⟩
    rw [if_neg (by decide), in_rows', decide_eq_false hin]
    refine iteF ?_
    -- it keeps all
    have hl2 := s02 _ _ hl
    refine ⟨_, rfl, l, rfl, ⟨_, SqL.of hl2⟩, fun D2 hD2 => comp_list (xs := tl.map V.ref) (fun i ys H' => Same H2 H' ∧ ys = List.replicate i (.bl true) ∧ i ≤ ps.length) ⟨Same.new hD2, rfl, Nat.zero_le _⟩ (fun i ys H' _ ⟨e, _⟩ => SqL.of (e _ _ hl2)) ?_ ?_⟩
    · rintro i v ys H' hx ⟨se, rfl, hi⟩ hDl2
      have s0 := s02.trans se
      obtain ⟨t, p, rfl, hp, ht⟩ := (htl.same s0).get hx
      have hi' : i < ps.length := (List.getElem?_eq_some_iff.mp hp).1
      have hpm := List.mem_of_getElem? hp
      have hpb := hps p hpm
      refine yes_mk ?_
      refine ⟨_, rfl, _, rfl, a, t, c, S, p, rfl, ⟨ts, s0 _ _ ha, hR.same s0⟩, hc6, fun y hy => (gd.2 y hy).1, ht, by omega, by omega, ?_⟩
      rw [List.all_eq_true.mp b4 p hpm]
      refine CE1.mk hDl2 (small1000 (by rw [List.length_replicate]; omega)) ⟨Same.up se hD2, ?_, hi'⟩
      rw [List.replicate_succ']
    rintro ys H3 ⟨s3, rfl, _⟩ hDl2
    refine ⟨D2, List.replicate _ true, rfl, SqL.of (by rw [List.map_replicate]; exact hDl2), _, rfl, ?_⟩
    have e3 : (List.replicate (tl.map V.ref).length true).all id = true := by simp
    rw [e3]
    refine iteF ?_
    have s03 := s02.trans s3
    -- each part
    have hpl3 := s03 _ _ hpl
    refine ⟨_, rfl, pl, rfl, ⟨_, SqL.of hpl3⟩, fun D3 hD3 => comp_list (xs := nums pts) (fun i ys H' => Same H3 H' ∧ ys = List.replicate i (.bl true) ∧ i ≤ pts.length) ⟨Same.new hD3, rfl, Nat.zero_le _⟩ (fun i ys H' _ ⟨e, _⟩ => SqL.of (e _ _ hpl3)) ?_ ?_⟩
    · rintro i v ys H' hx ⟨se, rfl, hi⟩ hDl3
      obtain ⟨p, hp, rfl⟩ := nums_at hx
      have hpm := List.mem_of_getElem? hp
      have s0 := s03.trans se
      have ha4 := s0 _ _ ha
      refine yes_mk ?_
      refine ⟨_, rfl, a, rfl, ⟨_, SqL.of ha4⟩, fun D4 hD4 => comp_list (xs := ts.map V.ref) (fun j ys H'' => Same H' H'' ∧ ys = bls ((S.take j).map fun y => decide (cellsN r p = cellsN y p)) ∧ j ≤ S.length) ⟨Same.new hD4, rfl, Nat.zero_le _⟩ (fun j ys H'' _ ⟨e, _⟩ => SqL.of (e _ _ ha4)) ?_ ?_⟩
      · rintro j v ys H5 hv ⟨s5, rfl, hj⟩ hDl4
        have s05 := s0.trans s5
        obtain ⟨t, y, rfl, hy, ht⟩ := (hR.same s05).get hv
        have hj' : j < S.length := (List.getElem?_eq_some_iff.mp hy).1
        have hyl := (gd.2 y (List.mem_of_getElem? hy)).1
        refine yes_mk ?_
        refine ⟨_, rfl, _, rfl, _, rfl, b, t, r, y, p, rfl, s05 _ _ hb, ht, by rw [hrl, hyl], by omega, hpts p hpm, ?_⟩
        refine CE1.mk hDl4 (small1000 (by rw [bls_len, List.length_map, List.length_take]; have := gd.1; omega)) ⟨Same.up s5 hD4, ?_, hj'⟩
        rw [map_take _ hy, bls_snoc]
      · rintro ys H5 ⟨s5, rfl, _⟩ hDl4
        rw [hlS, List.take_length] at hDl4
        have hany : ((S.map fun y => decide (cellsN r p = cellsN y p)).any id) = true := by
          have := of_decide_eq_true (List.all_eq_true.mp b5 p hpm)
          obtain ⟨y, hy, e⟩ := List.mem_map.mp this
          exact List.any_eq_true.mpr ⟨true, List.mem_map.mpr ⟨y, hy, decide_eq_true e.symm⟩, rfl⟩
        refine ⟨D4, _, rfl, SqL.of hDl4, ?_⟩
        rw [hany]
        refine CE1.mk (s5 _ _ hDl3) (small1000 (by rw [List.length_replicate]; omega)) ⟨Same.up (se.trans s5) hD3, ?_, ?_⟩
        · rw [List.replicate_succ']
        · exact (List.getElem?_eq_some_iff.mp hp).1
    · rintro ys H4 ⟨s4, rfl, _⟩ hDl3
      refine ⟨D3, List.replicate _ true, rfl, SqL.of (by rw [List.map_replicate]; exact hDl3), ?_⟩
      have e4 : (List.replicate (nums pts).length true).all id = true := by simp
      rw [e4]
      exact k H4 (s03.trans s4)
end
end K07

namespace K07
open PySem L2 TC
def sp_lright (CB CL : Addr) : Sp := fun vs H Q _ => ∃ (l pl x : Addr) (c : Nat) (ps : List (Nat × Nat)) (pts : List Nat), vs = [.ref l, .int (c : Nat), .ref pl, .ref x] ∧ PrsAt H l ps ∧ Good c ps ∧ H pl = some (.lst (nums pts)) ∧ pts.length ≤ 64 ∧ (∀ p ∈ pts, p < 64) ∧
  ((∃ (d : Addr) (L : List (Nat × Nat × Nat)), BackAt CB H x d L ∧ backB c ps pts L = true ∧ ∀ q ∈ L, q.1 < 64 ∧ q.2.1 < 64 ∧ q.2.2 < 64) ∨ (∃ (a b : Addr) (S : List (List Nat)) (r : List Nat), LostAt CL H x a b S r ∧ lostB c ps pts S r = true)) ∧ ∀ H', Same H H' → Q (.bl true) H'
def sp_law (K : PySem.W.Frag) : Sp := fun vs H Q _ => ∃ (a : Addr) (ns : List Int), vs = [.ref a] ∧ SqL K H a (ns.map V.int) ∧ ns.length ≤ 63 ∧ ∀ H', Q (.bl true) H'
theorem lost_in {c : Nat} {ps : List (Nat × Nat)} {pts r : List Nat} {S : List (List Nat)} : lostB c ps pts (S ++ [r]) r = false := by
  unfold lostB
  rw [decide_eq_true (show r ∈ S ++ [r] by simp)]
  simp
section
variable {P : Program} {w : World} {K : PySem.W.Frag} {mg : Str → Option Value} {base : Heap} {A : Adr}
theorem ok_law_right (T : Txt K mg A) : FnOk P w K mg base CX0 7 A.f_law_right A.d_law_right ["_law_pairs_here", "_law_columns", "_law_parts_here", "_law_found"] (sp_lright A.c_Back A.c_Lost) := by
  have G_law_back := ok_law_back (P := P) (w := w) (base := base) T
  have G_law_lost := ok_law_lost (P := P) (w := w) (base := base) T
  refine T.F_law_right.ok sc_law_right (fun vs H Q E h => ?_) (fun cdv A' outer s H vs Q E hr h => ?_)
  · obtain ⟨l, pl, x, c, ps, pts, rfl, _⟩ := h; rfl
  · obtain ⟨l, pl, x, c, ps, pts, rfl, hP, hG, hpl, hpn, hpts, hx, k⟩ := h
    refine ⟨_, (pss_cons (ps_if (PW.pt (pw_or (pt_not (pt_val (pe_callB (call_isinstCK K) rfl T.z_isinstance bt_isinstance (pa_cons (pv 3) (pa_cons (pe_glob (v := .ref A.c_Answer) rfl T.m_Answer rfl) pa_nil))))) (pw_or1 (pt_cmpR op_eq (pe_callB (call_isinstCK K) rfl T.z_isinstance bt_isinstance (pa_cons (pv 3) (pa_cons (pe_glob (v := .ref A.c_Back) rfl T.m_Back rfl) pa_nil))) (pe_callB (call_isinstCK K) rfl T.z_isinstance bt_isinstance (pa_cons (pv 3) (pa_cons (pe_glob (v := .ref A.c_Lost) rfl T.m_Lost rfl) pa_nil))) (nomark _))))) (pss_one (ps_ret pe_bl)) pss_nil)
      (pss_cons (ps_set (i := 4) sc_law_right.nd rfl (Or.inl rfl) (pe_lst (pa_cons (pe_callB (call_isinstCK K) rfl T.z_isinstance bt_isinstance (pa_cons (pv 3) (pa_cons (pe_glob (v := .ref A.c_Steps) rfl T.m_Steps rfl) pa_nil))) (pa_cons (pe_callB (call_isinstCK K) rfl T.z_isinstance bt_isinstance (pa_cons (pv 3) (pa_cons (pe_glob (v := .ref A.c_Rows) rfl T.m_Rows rfl) pa_nil))) (pa_cons (pe_callB (call_isinstCK K) rfl T.z_isinstance bt_isinstance (pa_cons (pv 3) (pa_cons (pe_glob (v := .ref A.c_Alike) rfl T.m_Alike rfl) pa_nil))) (pa_cons (pe_callB (call_isinstCK K) rfl T.z_isinstance bt_isinstance (pa_cons (pv 3) (pa_cons (pe_glob (v := .ref A.c_Apart) rfl T.m_Apart rfl) pa_nil))) pa_nil))))))
      (pss_cons (ps_if (pt_val (pe_callB (call_anyK K rfl) rfl T.z_any bt_any (pa_cons (pv 4) pa_nil))) (pss_one (ps_ret pe_bl)) pss_nil)
      (pss_cons (ps_if (pt_val (pe_callB (call_isinstCK K) rfl T.z_isinstance bt_isinstance (pa_cons (pv 3) (pa_cons (pe_glob (v := .ref A.c_Back) rfl T.m_Back rfl) pa_nil)))) (pss_one (ps_ret (pe_call G_law_back (hr.mono (by decide)) rfl T.m_law_back T.F_law_back.kp T.b_law_back .nil pass0 (pa_cons (pv 0) (pa_cons (pv 1) (pa_cons (pv 2) (pa_cons (pe_fldK K (pv 3)) pa_nil))))))) pss_nil)
      (pss_one (ps_ret (pe_call G_law_lost (hr.mono (by decide)) rfl T.m_law_lost T.F_law_lost.kp T.b_law_lost .nil pass0 (pa_cons (pv 0) (pa_cons (pv 1) (pa_cons (pv 2) (pa_cons (pe_fldK K (pv 3)) (pa_cons (pe_fldK K (pv 3)) pa_nil)))))))))))), ?_⟩
    rcases hx with ⟨d, L, ⟨⟨dx, hx⟩, hT⟩, hbk, hlt⟩ | ⟨a, b, S, r, ⟨⟨dx, hx⟩, hS, hb⟩, hlo⟩
    · have ty : ∀ H', Same H H' → TyOf K H' (.ref x) (.ref A.c_Back) := fun H' s' => T.ty_Back.ty T.cl_Back (s' _ _ hx)
      have t0 := ty H (Same.refl _)
      refine ⟨_, rfl, _, _, _, true, rfl, t0, T.ki_Back_Answer, true, rfl, iteF ?_⟩
      refine ⟨_, rfl, _, _, _, true, rfl, t0, T.ki_Back_Back, _, rfl, _, _, _, false, rfl, t0, T.ki_Back_Lost, rfl, false, rfl, iteF ?_⟩
      refine ⟨_, rfl, _, _, _, false, rfl, t0, T.ki_Back_Steps, _, rfl, _, _, _, false, rfl, t0, T.ki_Back_Rows, _, rfl, _, _, _, false, rfl, t0, T.ki_Back_Alike, _, rfl, _, _, _, false, rfl, t0, T.ki_Back_Apart, by show 4 ≤ sizeLine; decide, fun q hq => ?_⟩
      have sq : Same H (upd H q (.lst [.bl false, .bl false, .bl false, .bl false])) := Same.new hq
      refine ⟨_, rfl, q, [false, false, false, false], rfl, SqL.of upd_same, _, rfl, iteF ?_⟩
      refine ⟨_, rfl, _, _, _, true, rfl, ty _ sq, T.ki_Back_Back, true, rfl, iteT ?_⟩
      exact ⟨_, rfl, _, rfl, _, rfl, _, rfl, x, A.c_Back, dx, _, _, rfl, sq _ _ hx, T.cl_Back, T.na_Back_steps, fldB_steps _, l, pl, d, c, ps, pts, L, rfl, hP.same sq, hG, sq _ _ hpl, hpn, hpts, hT.same sq, hlt, hbk, fun H' s' => k H' (sq.trans s')⟩
    · have ty : ∀ H', Same H H' → TyOf K H' (.ref x) (.ref A.c_Lost) := fun H' s' => T.ty_Lost.ty T.cl_Lost (s' _ _ hx)
      have t0 := ty H (Same.refl _)
      refine ⟨_, rfl, _, _, _, true, rfl, t0, T.ki_Lost_Answer, true, rfl, iteF ?_⟩
      refine ⟨_, rfl, _, _, _, false, rfl, t0, T.ki_Lost_Back, _, rfl, _, _, _, true, rfl, t0, T.ki_Lost_Lost, rfl, false, rfl, iteF ?_⟩
      refine ⟨_, rfl, _, _, _, false, rfl, t0, T.ki_Lost_Steps, _, rfl, _, _, _, false, rfl, t0, T.ki_Lost_Rows, _, rfl, _, _, _, false, rfl, t0, T.ki_Lost_Alike, _, rfl, _, _, _, false, rfl, t0, T.ki_Lost_Apart, by show 4 ≤ sizeLine; decide, fun q hq => ?_⟩
      have sq : Same H (upd H q (.lst [.bl false, .bl false, .bl false, .bl false])) := Same.new hq
      refine ⟨_, rfl, q, [false, false, false, false], rfl, SqL.of upd_same, _, rfl, iteF ?_⟩
      refine ⟨_, rfl, _, _, _, false, rfl, ty _ sq, T.ki_Lost_Back, false, rfl, iteF ?_⟩
      exact ⟨_, rfl, _, rfl, _, rfl, _, rfl, x, A.c_Lost, dx, _, _, rfl, sq _ _ hx, T.cl_Lost, T.na_Lost_table, fldL_table _ _, _, rfl, x, A.c_Lost, dx, _, _, rfl, sq _ _ hx, T.cl_Lost, T.na_Lost_row, fldL_row _ _, l, pl, a, b, c, ps, pts, S, r, rfl, hP.same sq, hG, sq _ _ hpl, hpn, hpts, hS.same sq, sq _ _ hb, hlo, fun H' s' => k H' (sq.trans s')⟩
/-- what stands through the law -/
structure Main (K : PySem.W.Frag) (C : Addr) (a l x m : Addr) (ns : List Int) (c : Nat) (ps : List (Nat × Nat)) (H : Hp) : Prop where
  sc : SqL K H a (ns.map V.int)
  pr : PrsAt H l ps
  ru : RulesAt C H x m c ps
theorem Main.same {K : PySem.W.Frag} {C a l x m : Addr} {ns : List Int} {c : Nat} {ps : List (Nat × Nat)} {H H' : Hp} (M : Main K C a l x m ns c ps H) (e : Same H H') : Main K C a l x m ns c ps H' := ⟨e.seq M.sc, M.pr.same e, M.ru.same e⟩
theorem ok_law (T : Txt K mg A) : FnOk P w K mg base CX0 12 A.f_law A.d_law ["_law_script"] (sp_law K) := by
  have G_law_cell_at := ok_law_cell_at (P := P) (w := w) (base := base) T
  have G_law_pairs := ok_law_pairs (P := P) (w := w) (base := base) T
  have G_law_parts := ok_law_parts (P := P) (w := w) (base := base) T
  have G_law_right := ok_law_right (P := P) (w := w) (base := base) T
  have G_Rules_init := ok_Rules_init (P := P) (w := w) (base := base) T
  have G_Rules_rules := ok_Rules_rules (P := P) (w := w) (base := base) T
  have G_comes_back := ok_comes_back (P := P) (w := w) (base := base) T
  have G_Back_shows := ok_Back_shows (P := P) (w := w) (base := base) T
  have G_Lost_shows := ok_Lost_shows (P := P) (w := w) (base := base) T
  refine T.F_law.ok sc_law (fun vs H Q E h => ?_) (fun cdv A' outer s H vs Q E hr h => ?_)
  · obtain ⟨a, ns, rfl, _⟩ := h; rfl
  · obtain ⟨a, ns, rfl, hS, hlen, k⟩ := h
    refine ⟨_, (pss_cons (ps_set (i := 1) sc_law.nd rfl (Or.inl rfl) (pe_ix (ix_tupK K) (pe_tup (pa_cons pe_int (pa_cons pe_int (pa_cons pe_int (pa_cons pe_int (pa_cons pe_int (pa_cons pe_int (pa_cons pe_int (pa_cons pe_int pa_nil))))))))) (pe_op op_mod (pe_call G_law_cell_at (hr.mono (by decide)) rfl T.m_law_cell_at T.F_law_cell_at.kp T.b_law_cell_at .nil pass0 (pa_cons (pv 0) (pa_cons pe_int pa_nil))) pe_int) (fun _ _ => rfl)))
      (pss_cons (ps_set (i := 2) sc_law.nd rfl (Or.inl rfl) (pe_call G_law_pairs (hr.mono (by decide)) rfl T.m_law_pairs T.F_law_pairs.kp T.b_law_pairs .nil pass0 (pa_cons (pe_call G_law_cell_at (hr.mono (by decide)) rfl T.m_law_cell_at T.F_law_cell_at.kp T.b_law_cell_at .nil pass0 (pa_cons (pv 0) (pa_cons pe_int pa_nil))) (pa_cons (pv 1) (pa_cons pe_int pa_nil)))))
      (pss_cons (ps_set (i := 3) sc_law.nd rfl (Or.inl rfl) (pe_make T.mk_Rules G_Rules_init (hr.mono (by decide)) rfl T.m_Rules T.b_Rules_init .nil pass0 (pa_cons (pv 1) (pa_cons (pv 2) pa_nil))))
      (pss_cons (ps_for PassesOwn.never rfl (pi_range1 rfl T.z_range (pa_cons pe_int pa_nil)) (pg_name (i := 4) sc_law.nd rfl (Or.inl rfl))
      (pss_cons (ps_set (i := 5) sc_law.nd rfl (Or.inl rfl) (pe_call G_law_parts (hr.mono (by decide)) rfl T.m_law_parts T.F_law_parts.kp T.b_law_parts .nil pass0 (pa_cons (pe_op op_add (pe_call G_law_cell_at (hr.mono (by decide)) rfl T.m_law_cell_at T.F_law_cell_at.kp T.b_law_cell_at .nil pass0 (pa_cons (pv 0) (pa_cons (pe_op op_add pe_int (pv 4)) pa_nil))) (pe_op op_mul pe_int (pv 4))) (pa_cons (pv 1) pa_nil))))
      (pss_cons (ps_set (i := 6) sc_law.nd rfl (Or.inl rfl) (pe_callTy (call_listK K) rfl T.z_list bt_list (pa_cons (pv 5) pa_nil)))
      (pss_one (ps_for PassesOwn.never rfl (pi_range1 rfl T.z_range (pa_cons pe_int pa_nil)) (pg_name (i := 7) sc_law.nd rfl (Or.inl rfl))
      (pss_cons (ps_set (i := 8) sc_law.nd rfl (Or.inl rfl) (pe_call G_comes_back (hr.mono (by decide)) rfl T.m_comes_back T.F_comes_back.kp T.b_comes_back .nil pass0 (pa_cons (pv 3) (pa_cons (pv 6) pa_nil))))
      (pss_cons (ps_if (PW.pt (pw_or (pt_not (pt_val (pe_call G_law_right (hr.mono (by decide)) rfl T.m_law_right T.F_law_right.kp T.b_law_right .nil pass0 (pa_cons (pv 2) (pa_cons (pv 1) (pa_cons (pv 5) (pa_cons (pv 8) pa_nil))))))) (pw_or1 (pt_cmpR (op_neD hr.units) (pv 6) (pv 5) (nomark _))))) (pss_one (ps_ret pe_bl)) pss_nil)
      (pss_cons (ps_if (pt_cmpR op_isntB (pe_either (pe_meth (pv 8) T.cl_Back T.mt_Back_shows G_Back_shows (hr.mono (by decide)) T.b_Back_shows .nil pass0 (pa_cons (pv 3) (pa_cons (pv 5) pa_nil))) (pe_meth (pv 8) T.cl_Lost T.mt_Lost_shows G_Lost_shows (hr.mono (by decide)) T.b_Lost_shows .nil pass0 (pa_cons (pv 3) (pa_cons (pv 5) pa_nil)))) pe_bl (nomark _)) (pss_one (ps_ret pe_bl)) pss_nil)
      (pss_cons (ps_if (pt_val (pe_callB (call_isinstCK K) rfl T.z_isinstance bt_isinstance (pa_cons (pv 8) (pa_cons (pe_glob (v := .ref A.c_Back) rfl T.m_Back rfl) pa_nil)))) (pss_one (ps_expr (pe_appendK K (pe_fldK K (pv 8)) (pa_cons (pe_tup (pa_cons (pe_callB (call_lenK K) rfl T.z_len bt_len (pa_cons (pv 2) pa_nil)) (pa_cons pe_int (pa_cons pe_int pa_nil)))) pa_nil)))) (pss_one (ps_expr (pe_appendK K (pe_fldK K (pv 8)) (pa_cons (pe_callTy (call_listK K) rfl T.z_list bt_list (pa_cons (pe_fldK K (pv 8)) pa_nil)) pa_nil)))))
      (pss_one (ps_if (pt_cmpR op_isntB (pe_either (pe_meth (pv 8) T.cl_Back T.mt_Back_shows G_Back_shows (hr.mono (by decide)) T.b_Back_shows .nil pass0 (pa_cons (pv 3) (pa_cons (pv 5) pa_nil))) (pe_meth (pv 8) T.cl_Lost T.mt_Lost_shows G_Lost_shows (hr.mono (by decide)) T.b_Lost_shows .nil pass0 (pa_cons (pv 3) (pa_cons (pv 5) pa_nil)))) pe_bl (nomark _)) (pss_one (ps_ret pe_bl)) pss_nil)))))))))))
      (pss_one (ps_ret (pe_cmpR (op_eqD hr.units) (pe_meth0 (pv 3) T.cl_Rules T.mt_Rules_rules G_Rules_rules (hr.mono (by decide)) T.b_Rules_rules .nil pass0) (pv 2) (nomark _)))))))), ?_⟩
    -- the columns
    refine ⟨by show 8 ≤ sizeLine; decide, fun tp htp0 => ⟨_, rfl, a, ns, 0, rfl, (Same.new htp0).seq hS, fun x0 => ⟨x0, 8, rfl, rfl, (by show (0 : Int) < 8; decide), ?_⟩⟩⟩
    obtain ⟨c, hc1, hc6, ec⟩ := menu x0
    refine ⟨tp, _, _, _, rfl, rfl, SqT.of upd_same, ec, ?_⟩
    have hS1 : SqL K (upd H tp (.tup [V.int 3, V.int 4, V.int 2, V.int 5, V.int 3, V.int 4, V.int 1, V.int 6])) a (ns.map V.int) := (Same.new htp0).seq hS
    generalize (upd H tp (.tup [V.int 3, V.int 4, V.int 2, V.int 5, V.int 3, V.int 4, V.int 1, V.int 6])) = H1 at hS1 ⊢
    have h64 : 2 ^ c ≤ 64 := Nat.pow_le_pow_right (by decide) hc6
    refine ⟨_, rfl, a, ns, 1, rfl, hS1, fun x1 => ⟨_, rfl, x1, c, 8, rfl, hc6, by decide, fun l ps H2 hl s2 hP hp8 hps => ?_⟩⟩
    have hG : Good c ps := ⟨hc1, hc6, by omega, hps⟩
    -- Rules
    refine ⟨_, rfl, _, rfl, fun x dx nx ndx nex => ?_⟩
    have s3 : Same H2 (upd (upd H2 dx (.own x)) x (.ins A.c_Rules dx [])) := Same.up (Same.new ndx) nx
    refine ⟨x, dx, l, c, ps, rfl, upd_same, hP.same s3, hG, fun m H4 hm hR kp => ⟨rfl, ?_⟩⟩
    have s4 : Same H2 H4 := fun b o e => kp b o (s3 b o e) (ne_of_none e nx)
    have M4 : Main K A.c_Rules a l x m ns c ps H4 := ⟨(s2.trans s4).seq hS1, hP.same s4, hR⟩
    -- twice
    refine ⟨2, rfl, by decide, by decide, for_range (lo := 0) (n := 2) (fun i σ' H' => Main K A.c_Rules a l x m ns c ps H' ∧ ∃ o4 o5 o6 o7 o8 : Option V, σ' = [some (.ref a), some (.int (c : Nat)), some (.ref l), some (.ref x), o4, o5, o6, o7, o8]) ⟨M4, none, none, none, none, none, rfl⟩ ?_ ?_⟩
    · rintro i σ' H5 hi ⟨M, o4, o5, o6, o7, o8, rfl⟩
      rw [Int.zero_add]
      refine ⟨_, rfl, _, rfl, 2, (i : Int), rfl, rfl, a, ns, 2 + i, rfl, M.sc, fun x2 => ⟨_, rfl, 977, (i : Int), rfl, rfl, .inl ⟨by decide, by decide⟩, x2, _, rfl, rfl, _, rfl, _, c, rfl, hc1, hc6, fun pl pts H6 hpl6 s6 hpl hpl1 hpl63 hpts hall => ?_⟩⟩
      have M6 := M.same s6
      have hpt64 : ∀ p ∈ pts, p < 64 := fun p hp => by have := (hpts p hp).2; omega
      refine ⟨_, rfl, pl, nums pts, rfl, .inl (SqL.of hpl), fun hd hhd => ?_⟩
      have s7 : Same H6 (upd H6 hd (.lst (nums pts))) := Same.new hhd
      have M7 := M6.same s7
      have hpl7 := s7 _ _ hpl
      have hhd7 : (upd H6 hd (.lst (nums pts))) hd = some (.lst (nums pts)) := upd_same
      generalize upd H6 hd (.lst (nums pts)) = H7 at s7 M7 hpl7 hhd7 ⊢
      refine ⟨2, rfl, by decide, by decide, for_range (lo := 0) (n := 2) (fun j σ' H' => Main K A.c_Rules a l x m ns c ps H' ∧ H' pl = some (.lst (nums pts)) ∧ H' hd = some (.lst (nums pts)) ∧ ∃ o7 o8 : Option V, σ' = [some (.ref a), some (.int (c : Nat)), some (.ref l), some (.ref x), some (.int (i : Nat)), some (.ref pl), some (.ref hd), o7, o8]) ⟨M7, hpl7, hhd7, o7, o8, rfl⟩ ?_ ?_⟩
      · rintro j σ' H8 hj ⟨M8, hpl8, hhd8, o7, o8, rfl⟩
        have dP : (PyData.list (pts.map fun n => PyData.int (n : Nat))).depth ≤ 60 := depth_row' pts
        refine ⟨_, rfl, _, rfl, x, m, hd, c, ps, pts, rfl, M8.ru, hG, hp8, hhd8, hpl1, hpl63, hpts, hall, fun f d L H9 hf hd' s9 hBk hbk hLl hlt => ?_, fun f ta rb S H9 hf ha hb s9 hLo hlo hSl => ?_⟩
        · have M9 := M8.same s9
          refine ⟨_, rfl, _, rfl, _, rfl, _, rfl, l, pl, f, c, ps, pts, rfl, M9.pr, hG, s9 _ _ hpl8, by omega, hpt64, .inl ⟨d, L, hBk, hbk, hlt⟩, fun H10 s10 => ⟨_, rfl, iteF ?_⟩⟩
          have s910 := s9.trans s10
          refine ⟨_, rfl, _, rfl, rowD pts, rowD pts, rowD_dt (s910 _ _ hhd8), rowD_dt (s910 _ _ hpl8), lay_row' _, lay_row' _, depth_row' _, _, rfl, ?_⟩
          rw [if_pos rfl, row_eqv', decide_eq_true rfl]
          refine iteF ?_
          obtain ⟨⟨df, hf10⟩, hT10⟩ := hBk.same s10
          have M10 := M8.same s910
          refine .inl ⟨_, rfl, f, df, _, rfl, hf10, fldB_no _ (by decide +kernel), _, rfl, _, rfl, f, d, x, m, pl, c, ps, pts, L, rfl, ⟨⟨df, hf10⟩, hT10⟩, M10.ru, hG, s910 _ _ hpl8, by omega, hpt64, fun H11 s11 => ⟨_, true, rfl, rfl, _, rfl, ?_⟩⟩
          rw [hbk]
          refine iteF ?_
          have s811 := s910.trans s11
          have M11 := M8.same s811
          have hf11 := s11 _ _ hf10
          obtain ⟨tL, hd11, hT11⟩ := hT10.same s11
          refine ⟨_, rfl, _, _, _, true, rfl, T.ty_Back.ty T.cl_Back hf11, T.ki_Back_Back, true, rfl, iteT ?_⟩
          obtain ⟨tl, hl11, htl⟩ := id M11.pr
          have hln : (tl.map V.ref).length = ps.length := by rw [List.length_map]; exact htl.len
          refine ⟨_, rfl, f, A.c_Back, df, _, _, rfl, hf11, T.cl_Back, T.na_Back_steps, fldB_steps _, .inl ⟨rfl, _, SqL.of hd11⟩, _, rfl, l, _, rfl, .inl (SqL.of hl11), by show 3 ≤ sizeLine; decide, fun t ht => ?_⟩
          rw [hln]
          have s12 : Same H11 (upd H11 t (.tup (trip (ps.length, 0, 0)))) := Same.new ht
          have hd12 := s12 _ _ hd11
          refine ⟨d, _, _, rfl, rfl, hd12, by rw [List.length_map, hT11.len]; show _ < 2 ^ 24; omega, ?_⟩
          have s13 : Same H8 (upd (upd H11 t (.tup (trip (ps.length, 0, 0)))) d (.lst (tL.map V.ref ++ [.ref t]))) := Same.up (s811.trans s12) hd'
          have M13 := M8.same s13
          have nfd : f ≠ d := ne_of (s12 _ _ hf11) hd12 (by intro z; cases z)
          have hBk13 : BackAt A.c_Back (upd (upd H11 t (.tup (trip (ps.length, 0, 0)))) d (.lst (tL.map V.ref ++ [.ref t]))) f d (L ++ [(ps.length, 0, 0)]) := ⟨⟨df, by rw [upd_ne nfd]; exact s12 _ _ hf11⟩, ⟨tL ++ [t], by rw [upd_same, List.map_append]; rfl, Trs.upd hd12 (Trs.snoc upd_same (hT11.same s12))⟩⟩
          obtain ⟨⟨df', hf13⟩, _⟩ := id hBk13
          refine .inl ⟨_, rfl, f, df', _, rfl, hf13, fldB_no _ (by decide +kernel), _, rfl, _, rfl, f, d, x, m, pl, c, ps, pts, _, rfl, hBk13, M13.ru, hG, s13 _ _ hpl8, by omega, hpt64, fun H14 s14 => ⟨_, false, rfl, rfl, _, rfl, ?_⟩⟩
          rw [backB_out]
          have s814 := s13.trans s14
          exact iteF ⟨M8.same s814, s814 _ _ hpl8, s814 _ _ hhd8, _, _, rfl⟩
        · have M9 := M8.same s9
          refine ⟨_, rfl, _, rfl, _, rfl, _, rfl, l, pl, f, c, ps, pts, rfl, M9.pr, hG, s9 _ _ hpl8, by omega, hpt64, .inr ⟨ta, rb, S, _, hLo, hlo⟩, fun H10 s10 => ⟨_, rfl, iteF ?_⟩⟩
          have s910 := s9.trans s10
          refine ⟨_, rfl, _, rfl, rowD pts, rowD pts, rowD_dt (s910 _ _ hhd8), rowD_dt (s910 _ _ hpl8), lay_row' _, lay_row' _, depth_row' _, _, rfl, ?_⟩
          rw [if_pos rfl, row_eqv', decide_eq_true rfl]
          refine iteF ?_
          obtain ⟨⟨df, hf10⟩, hS10, hb10⟩ := hLo.same s10
          have M10 := M8.same s910
          refine .inr ⟨_, rfl, f, df, _, rfl, hf10, fldL_no _ _ (by decide +kernel) (by decide +kernel), _, rfl, _, rfl, f, ta, rb, x, m, pl, c, ps, pts, S, _, rfl, ⟨⟨df, hf10⟩, hS10, hb10⟩, M10.ru, hG, s910 _ _ hpl8, hpt64, fun H11 s11 => ⟨_, true, rfl, rfl, _, rfl, ?_⟩⟩
          rw [hlo]
          refine iteF ?_
          have s811 := s910.trans s11
          have hf11 := s11 _ _ hf10
          obtain ⟨ts, ha11, hR11⟩ := hS10.same s11
          have hb11 := s11 _ _ hb10
          refine ⟨_, rfl, _, _, _, false, rfl, T.ty_Lost.ty T.cl_Lost hf11, T.ki_Lost_Back, false, rfl, iteF ?_⟩
          refine ⟨_, rfl, f, A.c_Lost, df, _, _, rfl, hf11, T.cl_Lost, T.na_Lost_table, fldL_table _ _, .inl ⟨rfl, _, SqL.of ha11⟩, _, rfl, f, A.c_Lost, df, _, _, rfl, hf11, T.cl_Lost, T.na_Lost_row, fldL_row _ _, rb, _, rfl, .inl (SqL.of hb11), fun e he => ?_⟩
          have s12 : Same H11 (upd H11 e (.lst (nums (List.replicate c 0)))) := Same.new he
          have ha12 := s12 _ _ ha11
          refine ⟨ta, _, _, rfl, rfl, ha12, small1000 (by rw [List.length_map, hR11.len]; omega), ?_⟩
          have s13 : Same H8 (upd (upd H11 e (.lst (nums (List.replicate c 0)))) ta (.lst (ts.map V.ref ++ [.ref e]))) := Same.up (s811.trans s12) ha
          have M13 := M8.same s13
          have nfa : f ≠ ta := ne_of (s12 _ _ hf11) ha12 (by intro z; cases z)
          have nba : rb ≠ ta := fun z => by
            rw [← z, hb11] at ha11
            injection ha11 with ha11
            injection ha11 with ha11
            cases ts with
            | nil => cases c with
              | zero => omega
              | succ c => simp [nums, List.replicate_succ] at ha11
            | cons t ts => cases c with
              | zero => omega
              | succ c => simp [nums, List.replicate_succ] at ha11
          have nea : ta ≠ e := ne_of_none ha11 he
          have hLo13 : LostAt A.c_Lost (upd (upd H11 e (.lst (nums (List.replicate c 0)))) ta (.lst (ts.map V.ref ++ [.ref e]))) f ta rb (S ++ [List.replicate c 0]) (List.replicate c 0) := ⟨⟨df, by rw [upd_ne nfa]; exact s12 _ _ hf11⟩, ⟨ts ++ [e], by rw [upd_same, List.map_append]; rfl, Rws.upd (Rws.snoc upd_same (hR11.same s12)) fun z => by
            rcases List.mem_append.mp z with z | z
            · exact tbl_notin ha11 hR11 z
            · exact nea (List.mem_singleton.mp z)⟩, by rw [upd_ne nba]; exact s12 _ _ hb11⟩
          generalize upd (upd H11 e (.lst (nums (List.replicate c 0)))) ta (.lst (ts.map V.ref ++ [.ref e])) = H13 at s13 M13 hLo13 ⊢
          obtain ⟨⟨df', hf13⟩, _⟩ := id hLo13
          refine .inr ⟨_, rfl, f, df', _, rfl, hf13, fldL_no _ _ (by decide +kernel) (by decide +kernel), _, rfl, _, rfl, f, ta, rb, x, m, pl, c, ps, pts, _, _, rfl, hLo13, M13.ru, hG, s13 _ _ hpl8, hpt64, fun H14 s14 => ⟨_, false, rfl, rfl, _, rfl, ?_⟩⟩
          rw [lost_in]
          have s814 := s13.trans s14
          exact iteF ⟨M8.same s814, s814 _ _ hpl8, s814 _ _ hhd8, _, _, rfl⟩
      · rintro σ' H8 ⟨M8, _, _, o7, o8, rfl⟩
        exact ⟨M8, _, _, _, _, _, rfl⟩
    rintro σ' H5 ⟨M, o4, o5, o6, o7, o8, rfl⟩
    obtain ⟨⟨dx5, hx5⟩, _⟩ := id M.ru
    refine ⟨_, rfl, x, dx5, _, rfl, hx5, flds_no _ _ (by decide +kernel) (by decide +kernel), x, m, c, ps, rfl, M.ru, fun f tf hf htf => ?_⟩
    have s8 : Same H5 (upd H5 f (.lst (tf.map V.ref))) := Same.new hf
    have dP : (PyData.list (ps.map pairD)).depth ≤ 60 := by
      show PyData.depthAll (ps.map pairD) + 1 ≤ 60
      have := depth_pairs ps
      omega
    refine ⟨_, rfl, .list (ps.map pairD), .list (ps.map pairD), prs_dt ⟨tf, upd_same, htf.same s8⟩, prs_dt (M.pr.same s8), lay_pairs ps, lay_pairs ps, dP, ?_⟩
    have eP : (if false = true then !PyData.eqv (.list (ps.map pairD)) (.list (ps.map pairD)) else PyData.eqv (.list (ps.map pairD)) (.list (ps.map pairD))) = true := by
      rw [if_neg (by decide)]
      exact eqv_pairs ps
    rw [eP]
    exact k _
end
end K07

namespace K07
open PySem L2 TC
theorem all_mk {l : PySem.W.OpenLaw} {w : World} {K : PySem.W.Frag} {h : Heap} {mg : Str → Option Value} {fa C_Back C_Lost C_Rules f_is_number f_is_list f_is_count f_all_columns f_is_set f_is_rule f_are_rules f_is_row f_is_table f_are_parts f_need_parts f_cells f_keeps f_keeps_all f_makes f_row_of f_sheet_of f_lowered f_after_step f_Back_init f_Back_shows f_Lost_init f_Lost_shows f_is_place f_is_step f_Rules_init f_Rules_rules f_comes_back f_steps_by f_law_cell_at f_law_draw f_law_set f_law_pairs f_law_like f_law_keeps f_law_numbers f_law_parts f_law_sheet f_law_stepped f_law_back f_law_lost f_law_right f_law C_Steps C_Rows C_Alike C_Apart C_Answer : Addr} (X : K.In h) (G : h.Ns mainGlobals mg) (hfa : mg "law" = some (.ref fa))
    (aC_Back : PySem.W.nsIn K mainGlobals "Back" = some (some (.ref C_Back)))
    (aC_Lost : PySem.W.nsIn K mainGlobals "Lost" = some (some (.ref C_Lost)))
    (aC_Rules : PySem.W.nsIn K mainGlobals "Rules" = some (some (.ref C_Rules)))
    (a_is_number : PySem.W.nsIn K mainGlobals "is_number" = some (some (.ref f_is_number)))
    {od_is_number an_is_number : Option Addr} {sl_is_number : Array (Option Value)} {oc_is_number kV_is_number dc_is_number pm_is_number cd_is_number ct_is_number : Value}
    (l_is_number : K.lookup f_is_number = some ⟨oc_is_number, od_is_number, .func (PySem.W.fnOf "is_number" "is_number" (defArgs s_is_number) (defBody s_is_number) (defScope s_is_number) .none kV_is_number dc_is_number pm_is_number an_is_number cd_is_number ct_is_number), sl_is_number⟩)
    (c_is_number : PySem.W.codeIn K cd_is_number "is_number" = true)
    (k_is_number : PySem.W.keepIn K (.ref f_is_number) = true)
    (a_is_list : PySem.W.nsIn K mainGlobals "is_list" = some (some (.ref f_is_list)))
    {od_is_list an_is_list : Option Addr} {sl_is_list : Array (Option Value)} {oc_is_list kV_is_list dc_is_list pm_is_list cd_is_list ct_is_list : Value}
    (l_is_list : K.lookup f_is_list = some ⟨oc_is_list, od_is_list, .func (PySem.W.fnOf "is_list" "is_list" (defArgs s_is_list) (defBody s_is_list) (defScope s_is_list) .none kV_is_list dc_is_list pm_is_list an_is_list cd_is_list ct_is_list), sl_is_list⟩)
    (c_is_list : PySem.W.codeIn K cd_is_list "is_list" = true)
    (k_is_list : PySem.W.keepIn K (.ref f_is_list) = true)
    (a_is_count : PySem.W.nsIn K mainGlobals "is_count" = some (some (.ref f_is_count)))
    {od_is_count an_is_count : Option Addr} {sl_is_count : Array (Option Value)} {oc_is_count kV_is_count dc_is_count pm_is_count cd_is_count ct_is_count : Value}
    (l_is_count : K.lookup f_is_count = some ⟨oc_is_count, od_is_count, .func (PySem.W.fnOf "is_count" "is_count" (defArgs s_is_count) (defBody s_is_count) (defScope s_is_count) .none kV_is_count dc_is_count pm_is_count an_is_count cd_is_count ct_is_count), sl_is_count⟩)
    (c_is_count : PySem.W.codeIn K cd_is_count "is_count" = true)
    (k_is_count : PySem.W.keepIn K (.ref f_is_count) = true)
    (a_all_columns : PySem.W.nsIn K mainGlobals "all_columns" = some (some (.ref f_all_columns)))
    {od_all_columns an_all_columns : Option Addr} {sl_all_columns : Array (Option Value)} {oc_all_columns kV_all_columns dc_all_columns pm_all_columns cd_all_columns ct_all_columns : Value}
    (l_all_columns : K.lookup f_all_columns = some ⟨oc_all_columns, od_all_columns, .func (PySem.W.fnOf "all_columns" "all_columns" (defArgs s_all_columns) (defBody s_all_columns) (defScope s_all_columns) .none kV_all_columns dc_all_columns pm_all_columns an_all_columns cd_all_columns ct_all_columns), sl_all_columns⟩)
    (c_all_columns : PySem.W.codeIn K cd_all_columns "all_columns" = true)
    (k_all_columns : PySem.W.keepIn K (.ref f_all_columns) = true)
    (a_is_set : PySem.W.nsIn K mainGlobals "is_set" = some (some (.ref f_is_set)))
    {od_is_set an_is_set : Option Addr} {sl_is_set : Array (Option Value)} {oc_is_set kV_is_set dc_is_set pm_is_set cd_is_set ct_is_set : Value}
    (l_is_set : K.lookup f_is_set = some ⟨oc_is_set, od_is_set, .func (PySem.W.fnOf "is_set" "is_set" (defArgs s_is_set) (defBody s_is_set) (defScope s_is_set) .none kV_is_set dc_is_set pm_is_set an_is_set cd_is_set ct_is_set), sl_is_set⟩)
    (c_is_set : PySem.W.codeIn K cd_is_set "is_set" = true)
    (k_is_set : PySem.W.keepIn K (.ref f_is_set) = true)
    (a_is_rule : PySem.W.nsIn K mainGlobals "is_rule" = some (some (.ref f_is_rule)))
    {od_is_rule an_is_rule : Option Addr} {sl_is_rule : Array (Option Value)} {oc_is_rule kV_is_rule dc_is_rule pm_is_rule cd_is_rule ct_is_rule : Value}
    (l_is_rule : K.lookup f_is_rule = some ⟨oc_is_rule, od_is_rule, .func (PySem.W.fnOf "is_rule" "is_rule" (defArgs s_is_rule) (defBody s_is_rule) (defScope s_is_rule) .none kV_is_rule dc_is_rule pm_is_rule an_is_rule cd_is_rule ct_is_rule), sl_is_rule⟩)
    (c_is_rule : PySem.W.codeIn K cd_is_rule "is_rule" = true)
    (k_is_rule : PySem.W.keepIn K (.ref f_is_rule) = true)
    (a_are_rules : PySem.W.nsIn K mainGlobals "are_rules" = some (some (.ref f_are_rules)))
    {od_are_rules an_are_rules : Option Addr} {sl_are_rules : Array (Option Value)} {oc_are_rules kV_are_rules dc_are_rules pm_are_rules cd_are_rules ct_are_rules : Value}
    (l_are_rules : K.lookup f_are_rules = some ⟨oc_are_rules, od_are_rules, .func (PySem.W.fnOf "are_rules" "are_rules" (defArgs s_are_rules) (defBody s_are_rules) (defScope s_are_rules) .none kV_are_rules dc_are_rules pm_are_rules an_are_rules cd_are_rules ct_are_rules), sl_are_rules⟩)
    (c_are_rules : PySem.W.codeIn K cd_are_rules "are_rules" = true)
    (k_are_rules : PySem.W.keepIn K (.ref f_are_rules) = true)
    (a_is_row : PySem.W.nsIn K mainGlobals "is_row" = some (some (.ref f_is_row)))
    {od_is_row an_is_row : Option Addr} {sl_is_row : Array (Option Value)} {oc_is_row kV_is_row dc_is_row pm_is_row cd_is_row ct_is_row : Value}
    (l_is_row : K.lookup f_is_row = some ⟨oc_is_row, od_is_row, .func (PySem.W.fnOf "is_row" "is_row" (defArgs s_is_row) (defBody s_is_row) (defScope s_is_row) .none kV_is_row dc_is_row pm_is_row an_is_row cd_is_row ct_is_row), sl_is_row⟩)
    (c_is_row : PySem.W.codeIn K cd_is_row "is_row" = true)
    (k_is_row : PySem.W.keepIn K (.ref f_is_row) = true)
    (a_is_table : PySem.W.nsIn K mainGlobals "is_table" = some (some (.ref f_is_table)))
    {od_is_table an_is_table : Option Addr} {sl_is_table : Array (Option Value)} {oc_is_table kV_is_table dc_is_table pm_is_table cd_is_table ct_is_table : Value}
    (l_is_table : K.lookup f_is_table = some ⟨oc_is_table, od_is_table, .func (PySem.W.fnOf "is_table" "is_table" (defArgs s_is_table) (defBody s_is_table) (defScope s_is_table) .none kV_is_table dc_is_table pm_is_table an_is_table cd_is_table ct_is_table), sl_is_table⟩)
    (c_is_table : PySem.W.codeIn K cd_is_table "is_table" = true)
    (k_is_table : PySem.W.keepIn K (.ref f_is_table) = true)
    (a_are_parts : PySem.W.nsIn K mainGlobals "are_parts" = some (some (.ref f_are_parts)))
    {od_are_parts an_are_parts : Option Addr} {sl_are_parts : Array (Option Value)} {oc_are_parts kV_are_parts dc_are_parts pm_are_parts cd_are_parts ct_are_parts : Value}
    (l_are_parts : K.lookup f_are_parts = some ⟨oc_are_parts, od_are_parts, .func (PySem.W.fnOf "are_parts" "are_parts" (defArgs s_are_parts) (defBody s_are_parts) (defScope s_are_parts) .none kV_are_parts dc_are_parts pm_are_parts an_are_parts cd_are_parts ct_are_parts), sl_are_parts⟩)
    (c_are_parts : PySem.W.codeIn K cd_are_parts "are_parts" = true)
    (k_are_parts : PySem.W.keepIn K (.ref f_are_parts) = true)
    (a_need_parts : PySem.W.nsIn K mainGlobals "need_parts" = some (some (.ref f_need_parts)))
    {od_need_parts an_need_parts : Option Addr} {sl_need_parts : Array (Option Value)} {oc_need_parts kV_need_parts dc_need_parts pm_need_parts cd_need_parts ct_need_parts : Value}
    (l_need_parts : K.lookup f_need_parts = some ⟨oc_need_parts, od_need_parts, .func (PySem.W.fnOf "need_parts" "need_parts" (defArgs s_need_parts) (defBody s_need_parts) (defScope s_need_parts) .none kV_need_parts dc_need_parts pm_need_parts an_need_parts cd_need_parts ct_need_parts), sl_need_parts⟩)
    (c_need_parts : PySem.W.codeIn K cd_need_parts "need_parts" = true)
    (k_need_parts : PySem.W.keepIn K (.ref f_need_parts) = true)
    (a_cells : PySem.W.nsIn K mainGlobals "cells" = some (some (.ref f_cells)))
    {od_cells an_cells : Option Addr} {sl_cells : Array (Option Value)} {oc_cells kV_cells dc_cells pm_cells cd_cells ct_cells : Value}
    (l_cells : K.lookup f_cells = some ⟨oc_cells, od_cells, .func (PySem.W.fnOf "cells" "cells" (defArgs s_cells) (defBody s_cells) (defScope s_cells) .none kV_cells dc_cells pm_cells an_cells cd_cells ct_cells), sl_cells⟩)
    (c_cells : PySem.W.codeIn K cd_cells "cells" = true)
    (k_cells : PySem.W.keepIn K (.ref f_cells) = true)
    (a_keeps : PySem.W.nsIn K mainGlobals "keeps" = some (some (.ref f_keeps)))
    {od_keeps an_keeps : Option Addr} {sl_keeps : Array (Option Value)} {oc_keeps kV_keeps dc_keeps pm_keeps cd_keeps ct_keeps : Value}
    (l_keeps : K.lookup f_keeps = some ⟨oc_keeps, od_keeps, .func (PySem.W.fnOf "keeps" "keeps" (defArgs s_keeps) (defBody s_keeps) (defScope s_keeps) .none kV_keeps dc_keeps pm_keeps an_keeps cd_keeps ct_keeps), sl_keeps⟩)
    (c_keeps : PySem.W.codeIn K cd_keeps "keeps" = true)
    (k_keeps : PySem.W.keepIn K (.ref f_keeps) = true)
    (a_keeps_all : PySem.W.nsIn K mainGlobals "keeps_all" = some (some (.ref f_keeps_all)))
    {od_keeps_all an_keeps_all : Option Addr} {sl_keeps_all : Array (Option Value)} {oc_keeps_all kV_keeps_all dc_keeps_all pm_keeps_all cd_keeps_all ct_keeps_all : Value}
    (l_keeps_all : K.lookup f_keeps_all = some ⟨oc_keeps_all, od_keeps_all, .func (PySem.W.fnOf "keeps_all" "keeps_all" (defArgs s_keeps_all) (defBody s_keeps_all) (defScope s_keeps_all) .none kV_keeps_all dc_keeps_all pm_keeps_all an_keeps_all cd_keeps_all ct_keeps_all), sl_keeps_all⟩)
    (c_keeps_all : PySem.W.codeIn K cd_keeps_all "keeps_all" = true)
    (k_keeps_all : PySem.W.keepIn K (.ref f_keeps_all) = true)
    (a_makes : PySem.W.nsIn K mainGlobals "makes" = some (some (.ref f_makes)))
    {od_makes an_makes : Option Addr} {sl_makes : Array (Option Value)} {oc_makes kV_makes dc_makes pm_makes cd_makes ct_makes : Value}
    (l_makes : K.lookup f_makes = some ⟨oc_makes, od_makes, .func (PySem.W.fnOf "makes" "makes" (defArgs s_makes) (defBody s_makes) (defScope s_makes) .none kV_makes dc_makes pm_makes an_makes cd_makes ct_makes), sl_makes⟩)
    (c_makes : PySem.W.codeIn K cd_makes "makes" = true)
    (k_makes : PySem.W.keepIn K (.ref f_makes) = true)
    (a_row_of : PySem.W.nsIn K mainGlobals "row_of" = some (some (.ref f_row_of)))
    {od_row_of an_row_of : Option Addr} {sl_row_of : Array (Option Value)} {oc_row_of kV_row_of dc_row_of pm_row_of cd_row_of ct_row_of : Value}
    (l_row_of : K.lookup f_row_of = some ⟨oc_row_of, od_row_of, .func (PySem.W.fnOf "row_of" "row_of" (defArgs s_row_of) (defBody s_row_of) (defScope s_row_of) .none kV_row_of dc_row_of pm_row_of an_row_of cd_row_of ct_row_of), sl_row_of⟩)
    (c_row_of : PySem.W.codeIn K cd_row_of "row_of" = true)
    (k_row_of : PySem.W.keepIn K (.ref f_row_of) = true)
    (a_sheet_of : PySem.W.nsIn K mainGlobals "sheet_of" = some (some (.ref f_sheet_of)))
    {od_sheet_of an_sheet_of : Option Addr} {sl_sheet_of : Array (Option Value)} {oc_sheet_of kV_sheet_of dc_sheet_of pm_sheet_of cd_sheet_of ct_sheet_of : Value}
    (l_sheet_of : K.lookup f_sheet_of = some ⟨oc_sheet_of, od_sheet_of, .func (PySem.W.fnOf "sheet_of" "sheet_of" (defArgs s_sheet_of) (defBody s_sheet_of) (defScope s_sheet_of) .none kV_sheet_of dc_sheet_of pm_sheet_of an_sheet_of cd_sheet_of ct_sheet_of), sl_sheet_of⟩)
    (c_sheet_of : PySem.W.codeIn K cd_sheet_of "sheet_of" = true)
    (k_sheet_of : PySem.W.keepIn K (.ref f_sheet_of) = true)
    (a_lowered : PySem.W.nsIn K mainGlobals "lowered" = some (some (.ref f_lowered)))
    {od_lowered an_lowered : Option Addr} {sl_lowered : Array (Option Value)} {oc_lowered kV_lowered dc_lowered pm_lowered cd_lowered ct_lowered : Value}
    (l_lowered : K.lookup f_lowered = some ⟨oc_lowered, od_lowered, .func (PySem.W.fnOf "lowered" "lowered" (defArgs s_lowered) (defBody s_lowered) (defScope s_lowered) .none kV_lowered dc_lowered pm_lowered an_lowered cd_lowered ct_lowered), sl_lowered⟩)
    (c_lowered : PySem.W.codeIn K cd_lowered "lowered" = true)
    (k_lowered : PySem.W.keepIn K (.ref f_lowered) = true)
    (a_after_step : PySem.W.nsIn K mainGlobals "after_step" = some (some (.ref f_after_step)))
    {od_after_step an_after_step : Option Addr} {sl_after_step : Array (Option Value)} {oc_after_step kV_after_step dc_after_step pm_after_step cd_after_step ct_after_step : Value}
    (l_after_step : K.lookup f_after_step = some ⟨oc_after_step, od_after_step, .func (PySem.W.fnOf "after_step" "after_step" (defArgs s_after_step) (defBody s_after_step) (defScope s_after_step) .none kV_after_step dc_after_step pm_after_step an_after_step cd_after_step ct_after_step), sl_after_step⟩)
    (c_after_step : PySem.W.codeIn K cd_after_step "after_step" = true)
    (k_after_step : PySem.W.keepIn K (.ref f_after_step) = true)
    (a_Back_init : PySem.W.findIn K (.ref C_Back) "__init__" = some (some (.ref f_Back_init)))
    (i_Back_init : PySem.W.isFn K (.ref f_Back_init) = true)
    {od_Back_init an_Back_init : Option Addr} {sl_Back_init : Array (Option Value)} {oc_Back_init kV_Back_init dc_Back_init pm_Back_init cd_Back_init ct_Back_init : Value}
    (l_Back_init : K.lookup f_Back_init = some ⟨oc_Back_init, od_Back_init, .func (PySem.W.fnOf "__init__" "Back.__init__" (defArgs s_Back_init) (defBody s_Back_init) (defScope s_Back_init) .none kV_Back_init dc_Back_init pm_Back_init an_Back_init cd_Back_init ct_Back_init), sl_Back_init⟩)
    (c_Back_init : PySem.W.codeIn K cd_Back_init "Back.__init__" = true)
    (k_Back_init : PySem.W.keepIn K (.ref f_Back_init) = true)
    (a_Back_shows : PySem.W.findIn K (.ref C_Back) "shows" = some (some (.ref f_Back_shows)))
    (i_Back_shows : PySem.W.isFn K (.ref f_Back_shows) = true)
    {od_Back_shows an_Back_shows : Option Addr} {sl_Back_shows : Array (Option Value)} {oc_Back_shows kV_Back_shows dc_Back_shows pm_Back_shows cd_Back_shows ct_Back_shows : Value}
    (l_Back_shows : K.lookup f_Back_shows = some ⟨oc_Back_shows, od_Back_shows, .func (PySem.W.fnOf "shows" "Back.shows" (defArgs s_Back_shows) (defBody s_Back_shows) (defScope s_Back_shows) .none kV_Back_shows dc_Back_shows pm_Back_shows an_Back_shows cd_Back_shows ct_Back_shows), sl_Back_shows⟩)
    (c_Back_shows : PySem.W.codeIn K cd_Back_shows "Back.shows" = true)
    (k_Back_shows : PySem.W.keepIn K (.ref f_Back_shows) = true)
    (a_Lost_init : PySem.W.findIn K (.ref C_Lost) "__init__" = some (some (.ref f_Lost_init)))
    (i_Lost_init : PySem.W.isFn K (.ref f_Lost_init) = true)
    {od_Lost_init an_Lost_init : Option Addr} {sl_Lost_init : Array (Option Value)} {oc_Lost_init kV_Lost_init dc_Lost_init pm_Lost_init cd_Lost_init ct_Lost_init : Value}
    (l_Lost_init : K.lookup f_Lost_init = some ⟨oc_Lost_init, od_Lost_init, .func (PySem.W.fnOf "__init__" "Lost.__init__" (defArgs s_Lost_init) (defBody s_Lost_init) (defScope s_Lost_init) .none kV_Lost_init dc_Lost_init pm_Lost_init an_Lost_init cd_Lost_init ct_Lost_init), sl_Lost_init⟩)
    (c_Lost_init : PySem.W.codeIn K cd_Lost_init "Lost.__init__" = true)
    (k_Lost_init : PySem.W.keepIn K (.ref f_Lost_init) = true)
    (a_Lost_shows : PySem.W.findIn K (.ref C_Lost) "shows" = some (some (.ref f_Lost_shows)))
    (i_Lost_shows : PySem.W.isFn K (.ref f_Lost_shows) = true)
    {od_Lost_shows an_Lost_shows : Option Addr} {sl_Lost_shows : Array (Option Value)} {oc_Lost_shows kV_Lost_shows dc_Lost_shows pm_Lost_shows cd_Lost_shows ct_Lost_shows : Value}
    (l_Lost_shows : K.lookup f_Lost_shows = some ⟨oc_Lost_shows, od_Lost_shows, .func (PySem.W.fnOf "shows" "Lost.shows" (defArgs s_Lost_shows) (defBody s_Lost_shows) (defScope s_Lost_shows) .none kV_Lost_shows dc_Lost_shows pm_Lost_shows an_Lost_shows cd_Lost_shows ct_Lost_shows), sl_Lost_shows⟩)
    (c_Lost_shows : PySem.W.codeIn K cd_Lost_shows "Lost.shows" = true)
    (k_Lost_shows : PySem.W.keepIn K (.ref f_Lost_shows) = true)
    (a_is_place : PySem.W.nsIn K mainGlobals "is_place" = some (some (.ref f_is_place)))
    {od_is_place an_is_place : Option Addr} {sl_is_place : Array (Option Value)} {oc_is_place kV_is_place dc_is_place pm_is_place cd_is_place ct_is_place : Value}
    (l_is_place : K.lookup f_is_place = some ⟨oc_is_place, od_is_place, .func (PySem.W.fnOf "is_place" "is_place" (defArgs s_is_place) (defBody s_is_place) (defScope s_is_place) .none kV_is_place dc_is_place pm_is_place an_is_place cd_is_place ct_is_place), sl_is_place⟩)
    (c_is_place : PySem.W.codeIn K cd_is_place "is_place" = true)
    (k_is_place : PySem.W.keepIn K (.ref f_is_place) = true)
    (a_is_step : PySem.W.nsIn K mainGlobals "is_step" = some (some (.ref f_is_step)))
    {od_is_step an_is_step : Option Addr} {sl_is_step : Array (Option Value)} {oc_is_step kV_is_step dc_is_step pm_is_step cd_is_step ct_is_step : Value}
    (l_is_step : K.lookup f_is_step = some ⟨oc_is_step, od_is_step, .func (PySem.W.fnOf "is_step" "is_step" (defArgs s_is_step) (defBody s_is_step) (defScope s_is_step) .none kV_is_step dc_is_step pm_is_step an_is_step cd_is_step ct_is_step), sl_is_step⟩)
    (c_is_step : PySem.W.codeIn K cd_is_step "is_step" = true)
    (k_is_step : PySem.W.keepIn K (.ref f_is_step) = true)
    (a_Rules_init : PySem.W.findIn K (.ref C_Rules) "__init__" = some (some (.ref f_Rules_init)))
    (i_Rules_init : PySem.W.isFn K (.ref f_Rules_init) = true)
    {od_Rules_init an_Rules_init : Option Addr} {sl_Rules_init : Array (Option Value)} {oc_Rules_init kV_Rules_init dc_Rules_init pm_Rules_init cd_Rules_init ct_Rules_init : Value}
    (l_Rules_init : K.lookup f_Rules_init = some ⟨oc_Rules_init, od_Rules_init, .func (PySem.W.fnOf "__init__" "Rules.__init__" (defArgs s_Rules_init) (defBody s_Rules_init) (defScope s_Rules_init) .none kV_Rules_init dc_Rules_init pm_Rules_init an_Rules_init cd_Rules_init ct_Rules_init), sl_Rules_init⟩)
    (c_Rules_init : PySem.W.codeIn K cd_Rules_init "Rules.__init__" = true)
    (k_Rules_init : PySem.W.keepIn K (.ref f_Rules_init) = true)
    (a_Rules_rules : PySem.W.findIn K (.ref C_Rules) "rules" = some (some (.ref f_Rules_rules)))
    (i_Rules_rules : PySem.W.isFn K (.ref f_Rules_rules) = true)
    {od_Rules_rules an_Rules_rules : Option Addr} {sl_Rules_rules : Array (Option Value)} {oc_Rules_rules kV_Rules_rules dc_Rules_rules pm_Rules_rules cd_Rules_rules ct_Rules_rules : Value}
    (l_Rules_rules : K.lookup f_Rules_rules = some ⟨oc_Rules_rules, od_Rules_rules, .func (PySem.W.fnOf "rules" "Rules.rules" (defArgs s_Rules_rules) (defBody s_Rules_rules) (defScope s_Rules_rules) .none kV_Rules_rules dc_Rules_rules pm_Rules_rules an_Rules_rules cd_Rules_rules ct_Rules_rules), sl_Rules_rules⟩)
    (c_Rules_rules : PySem.W.codeIn K cd_Rules_rules "Rules.rules" = true)
    (k_Rules_rules : PySem.W.keepIn K (.ref f_Rules_rules) = true)
    (a_comes_back : PySem.W.nsIn K mainGlobals "comes_back" = some (some (.ref f_comes_back)))
    {od_comes_back an_comes_back : Option Addr} {sl_comes_back : Array (Option Value)} {oc_comes_back kV_comes_back dc_comes_back pm_comes_back cd_comes_back ct_comes_back : Value}
    (l_comes_back : K.lookup f_comes_back = some ⟨oc_comes_back, od_comes_back, .func (PySem.W.fnOf "comes_back" "comes_back" (defArgs s_comes_back) (defBody s_comes_back) (defScope s_comes_back) .none kV_comes_back dc_comes_back pm_comes_back an_comes_back cd_comes_back ct_comes_back), sl_comes_back⟩)
    (c_comes_back : PySem.W.codeIn K cd_comes_back "comes_back" = true)
    (k_comes_back : PySem.W.keepIn K (.ref f_comes_back) = true)
    (a_steps_by : PySem.W.nsIn K mainGlobals "steps_by" = some (some (.ref f_steps_by)))
    {od_steps_by an_steps_by : Option Addr} {sl_steps_by : Array (Option Value)} {oc_steps_by kV_steps_by dc_steps_by pm_steps_by cd_steps_by ct_steps_by : Value}
    (l_steps_by : K.lookup f_steps_by = some ⟨oc_steps_by, od_steps_by, .func (PySem.W.fnOf "steps_by" "steps_by" (defArgs s_steps_by) (defBody s_steps_by) (defScope s_steps_by) .none kV_steps_by dc_steps_by pm_steps_by an_steps_by cd_steps_by ct_steps_by), sl_steps_by⟩)
    (c_steps_by : PySem.W.codeIn K cd_steps_by "steps_by" = true)
    (k_steps_by : PySem.W.keepIn K (.ref f_steps_by) = true)
    (a_law_cell_at : PySem.W.nsIn K mainGlobals "_law_cell_at" = some (some (.ref f_law_cell_at)))
    {od_law_cell_at an_law_cell_at : Option Addr} {sl_law_cell_at : Array (Option Value)} {oc_law_cell_at kV_law_cell_at dc_law_cell_at pm_law_cell_at cd_law_cell_at ct_law_cell_at : Value}
    (l_law_cell_at : K.lookup f_law_cell_at = some ⟨oc_law_cell_at, od_law_cell_at, .func (PySem.W.fnOf "_law_cell_at" "_law_cell_at" (defArgs s_law_cell_at) (defBody s_law_cell_at) (defScope s_law_cell_at) .none kV_law_cell_at dc_law_cell_at pm_law_cell_at an_law_cell_at cd_law_cell_at ct_law_cell_at), sl_law_cell_at⟩)
    (c_law_cell_at : PySem.W.codeIn K cd_law_cell_at "_law_cell_at" = true)
    (k_law_cell_at : PySem.W.keepIn K (.ref f_law_cell_at) = true)
    (a_law_draw : PySem.W.nsIn K mainGlobals "_law_draw" = some (some (.ref f_law_draw)))
    {od_law_draw an_law_draw : Option Addr} {sl_law_draw : Array (Option Value)} {oc_law_draw kV_law_draw dc_law_draw pm_law_draw cd_law_draw ct_law_draw : Value}
    (l_law_draw : K.lookup f_law_draw = some ⟨oc_law_draw, od_law_draw, .func (PySem.W.fnOf "_law_draw" "_law_draw" (defArgs s_law_draw) (defBody s_law_draw) (defScope s_law_draw) .none kV_law_draw dc_law_draw pm_law_draw an_law_draw cd_law_draw ct_law_draw), sl_law_draw⟩)
    (c_law_draw : PySem.W.codeIn K cd_law_draw "_law_draw" = true)
    (k_law_draw : PySem.W.keepIn K (.ref f_law_draw) = true)
    (a_law_set : PySem.W.nsIn K mainGlobals "_law_set" = some (some (.ref f_law_set)))
    {od_law_set an_law_set : Option Addr} {sl_law_set : Array (Option Value)} {oc_law_set kV_law_set dc_law_set pm_law_set cd_law_set ct_law_set : Value}
    (l_law_set : K.lookup f_law_set = some ⟨oc_law_set, od_law_set, .func (PySem.W.fnOf "_law_set" "_law_set" (defArgs s_law_set) (defBody s_law_set) (defScope s_law_set) .none kV_law_set dc_law_set pm_law_set an_law_set cd_law_set ct_law_set), sl_law_set⟩)
    (c_law_set : PySem.W.codeIn K cd_law_set "_law_set" = true)
    (k_law_set : PySem.W.keepIn K (.ref f_law_set) = true)
    (a_law_pairs : PySem.W.nsIn K mainGlobals "_law_pairs" = some (some (.ref f_law_pairs)))
    {od_law_pairs an_law_pairs : Option Addr} {sl_law_pairs : Array (Option Value)} {oc_law_pairs kV_law_pairs dc_law_pairs pm_law_pairs cd_law_pairs ct_law_pairs : Value}
    (l_law_pairs : K.lookup f_law_pairs = some ⟨oc_law_pairs, od_law_pairs, .func (PySem.W.fnOf "_law_pairs" "_law_pairs" (defArgs s_law_pairs) (defBody s_law_pairs) (defScope s_law_pairs) .none kV_law_pairs dc_law_pairs pm_law_pairs an_law_pairs cd_law_pairs ct_law_pairs), sl_law_pairs⟩)
    (c_law_pairs : PySem.W.codeIn K cd_law_pairs "_law_pairs" = true)
    (k_law_pairs : PySem.W.keepIn K (.ref f_law_pairs) = true)
    (a_law_like : PySem.W.nsIn K mainGlobals "_law_like" = some (some (.ref f_law_like)))
    {od_law_like an_law_like : Option Addr} {sl_law_like : Array (Option Value)} {oc_law_like kV_law_like dc_law_like pm_law_like cd_law_like ct_law_like : Value}
    (l_law_like : K.lookup f_law_like = some ⟨oc_law_like, od_law_like, .func (PySem.W.fnOf "_law_like" "_law_like" (defArgs s_law_like) (defBody s_law_like) (defScope s_law_like) .none kV_law_like dc_law_like pm_law_like an_law_like cd_law_like ct_law_like), sl_law_like⟩)
    (c_law_like : PySem.W.codeIn K cd_law_like "_law_like" = true)
    (k_law_like : PySem.W.keepIn K (.ref f_law_like) = true)
    (a_law_keeps : PySem.W.nsIn K mainGlobals "_law_keeps" = some (some (.ref f_law_keeps)))
    {od_law_keeps an_law_keeps : Option Addr} {sl_law_keeps : Array (Option Value)} {oc_law_keeps kV_law_keeps dc_law_keeps pm_law_keeps cd_law_keeps ct_law_keeps : Value}
    (l_law_keeps : K.lookup f_law_keeps = some ⟨oc_law_keeps, od_law_keeps, .func (PySem.W.fnOf "_law_keeps" "_law_keeps" (defArgs s_law_keeps) (defBody s_law_keeps) (defScope s_law_keeps) .none kV_law_keeps dc_law_keeps pm_law_keeps an_law_keeps cd_law_keeps ct_law_keeps), sl_law_keeps⟩)
    (c_law_keeps : PySem.W.codeIn K cd_law_keeps "_law_keeps" = true)
    (k_law_keeps : PySem.W.keepIn K (.ref f_law_keeps) = true)
    (a_law_numbers : PySem.W.nsIn K mainGlobals "_law_numbers" = some (some (.ref f_law_numbers)))
    {od_law_numbers an_law_numbers : Option Addr} {sl_law_numbers : Array (Option Value)} {oc_law_numbers kV_law_numbers dc_law_numbers pm_law_numbers cd_law_numbers ct_law_numbers : Value}
    (l_law_numbers : K.lookup f_law_numbers = some ⟨oc_law_numbers, od_law_numbers, .func (PySem.W.fnOf "_law_numbers" "_law_numbers" (defArgs s_law_numbers) (defBody s_law_numbers) (defScope s_law_numbers) .none kV_law_numbers dc_law_numbers pm_law_numbers an_law_numbers cd_law_numbers ct_law_numbers), sl_law_numbers⟩)
    (c_law_numbers : PySem.W.codeIn K cd_law_numbers "_law_numbers" = true)
    (k_law_numbers : PySem.W.keepIn K (.ref f_law_numbers) = true)
    (a_law_parts : PySem.W.nsIn K mainGlobals "_law_parts" = some (some (.ref f_law_parts)))
    {od_law_parts an_law_parts : Option Addr} {sl_law_parts : Array (Option Value)} {oc_law_parts kV_law_parts dc_law_parts pm_law_parts cd_law_parts ct_law_parts : Value}
    (l_law_parts : K.lookup f_law_parts = some ⟨oc_law_parts, od_law_parts, .func (PySem.W.fnOf "_law_parts" "_law_parts" (defArgs s_law_parts) (defBody s_law_parts) (defScope s_law_parts) .none kV_law_parts dc_law_parts pm_law_parts an_law_parts cd_law_parts ct_law_parts), sl_law_parts⟩)
    (c_law_parts : PySem.W.codeIn K cd_law_parts "_law_parts" = true)
    (k_law_parts : PySem.W.keepIn K (.ref f_law_parts) = true)
    (a_law_sheet : PySem.W.nsIn K mainGlobals "_law_sheet" = some (some (.ref f_law_sheet)))
    {od_law_sheet an_law_sheet : Option Addr} {sl_law_sheet : Array (Option Value)} {oc_law_sheet kV_law_sheet dc_law_sheet pm_law_sheet cd_law_sheet ct_law_sheet : Value}
    (l_law_sheet : K.lookup f_law_sheet = some ⟨oc_law_sheet, od_law_sheet, .func (PySem.W.fnOf "_law_sheet" "_law_sheet" (defArgs s_law_sheet) (defBody s_law_sheet) (defScope s_law_sheet) .none kV_law_sheet dc_law_sheet pm_law_sheet an_law_sheet cd_law_sheet ct_law_sheet), sl_law_sheet⟩)
    (c_law_sheet : PySem.W.codeIn K cd_law_sheet "_law_sheet" = true)
    (k_law_sheet : PySem.W.keepIn K (.ref f_law_sheet) = true)
    (a_law_stepped : PySem.W.nsIn K mainGlobals "_law_stepped" = some (some (.ref f_law_stepped)))
    {od_law_stepped an_law_stepped : Option Addr} {sl_law_stepped : Array (Option Value)} {oc_law_stepped kV_law_stepped dc_law_stepped pm_law_stepped cd_law_stepped ct_law_stepped : Value}
    (l_law_stepped : K.lookup f_law_stepped = some ⟨oc_law_stepped, od_law_stepped, .func (PySem.W.fnOf "_law_stepped" "_law_stepped" (defArgs s_law_stepped) (defBody s_law_stepped) (defScope s_law_stepped) .none kV_law_stepped dc_law_stepped pm_law_stepped an_law_stepped cd_law_stepped ct_law_stepped), sl_law_stepped⟩)
    (c_law_stepped : PySem.W.codeIn K cd_law_stepped "_law_stepped" = true)
    (k_law_stepped : PySem.W.keepIn K (.ref f_law_stepped) = true)
    (a_law_back : PySem.W.nsIn K mainGlobals "_law_back" = some (some (.ref f_law_back)))
    {od_law_back an_law_back : Option Addr} {sl_law_back : Array (Option Value)} {oc_law_back kV_law_back dc_law_back pm_law_back cd_law_back ct_law_back : Value}
    (l_law_back : K.lookup f_law_back = some ⟨oc_law_back, od_law_back, .func (PySem.W.fnOf "_law_back" "_law_back" (defArgs s_law_back) (defBody s_law_back) (defScope s_law_back) .none kV_law_back dc_law_back pm_law_back an_law_back cd_law_back ct_law_back), sl_law_back⟩)
    (c_law_back : PySem.W.codeIn K cd_law_back "_law_back" = true)
    (k_law_back : PySem.W.keepIn K (.ref f_law_back) = true)
    (a_law_lost : PySem.W.nsIn K mainGlobals "_law_lost" = some (some (.ref f_law_lost)))
    {od_law_lost an_law_lost : Option Addr} {sl_law_lost : Array (Option Value)} {oc_law_lost kV_law_lost dc_law_lost pm_law_lost cd_law_lost ct_law_lost : Value}
    (l_law_lost : K.lookup f_law_lost = some ⟨oc_law_lost, od_law_lost, .func (PySem.W.fnOf "_law_lost" "_law_lost" (defArgs s_law_lost) (defBody s_law_lost) (defScope s_law_lost) .none kV_law_lost dc_law_lost pm_law_lost an_law_lost cd_law_lost ct_law_lost), sl_law_lost⟩)
    (c_law_lost : PySem.W.codeIn K cd_law_lost "_law_lost" = true)
    (k_law_lost : PySem.W.keepIn K (.ref f_law_lost) = true)
    (a_law_right : PySem.W.nsIn K mainGlobals "_law_right" = some (some (.ref f_law_right)))
    {od_law_right an_law_right : Option Addr} {sl_law_right : Array (Option Value)} {oc_law_right kV_law_right dc_law_right pm_law_right cd_law_right ct_law_right : Value}
    (l_law_right : K.lookup f_law_right = some ⟨oc_law_right, od_law_right, .func (PySem.W.fnOf "_law_right" "_law_right" (defArgs s_law_right) (defBody s_law_right) (defScope s_law_right) .none kV_law_right dc_law_right pm_law_right an_law_right cd_law_right ct_law_right), sl_law_right⟩)
    (c_law_right : PySem.W.codeIn K cd_law_right "_law_right" = true)
    (k_law_right : PySem.W.keepIn K (.ref f_law_right) = true)
    (a_law : PySem.W.nsIn K mainGlobals "law" = some (some (.ref f_law)))
    {od_law an_law : Option Addr} {sl_law : Array (Option Value)} {oc_law kV_law dc_law pm_law cd_law ct_law : Value}
    (l_law : K.lookup f_law = some ⟨oc_law, od_law, .func (PySem.W.fnOf "law" "law" (defArgs s_law) (defBody s_law) (defScope s_law) .none kV_law dc_law pm_law an_law cd_law ct_law), sl_law⟩)
    (c_law : PySem.W.codeIn K cd_law "law" = true)
    (k_law : PySem.W.keepIn K (.ref f_law) = true)
    (pg_Back : PySem.W.plainGet K C_Back Str.empty = true)
    (hd_Back : PySem.W.hasDictIn K C_Back = true)
    (po_Back : PySem.W.plainOver K C_Back = true)
    (sa_Back : PySem.W.findIn K (.ref C_Back) "__setattr__" = some (some (.builtin "object.__setattr__")))
    (mk_Back : PySem.W.makesIn K C_Back = true)
    (kc_Back : PySem.W.keepIn K (.ref C_Back) = true)
    (na_Back_steps : PySem.W.findIn K (.ref C_Back) "steps" = some none)
    (pg_Lost : PySem.W.plainGet K C_Lost Str.empty = true)
    (hd_Lost : PySem.W.hasDictIn K C_Lost = true)
    (po_Lost : PySem.W.plainOver K C_Lost = true)
    (sa_Lost : PySem.W.findIn K (.ref C_Lost) "__setattr__" = some (some (.builtin "object.__setattr__")))
    (mk_Lost : PySem.W.makesIn K C_Lost = true)
    (kc_Lost : PySem.W.keepIn K (.ref C_Lost) = true)
    (na_Lost_table : PySem.W.findIn K (.ref C_Lost) "table" = some none)
    (na_Lost_row : PySem.W.findIn K (.ref C_Lost) "row" = some none)
    (pg_Rules : PySem.W.plainGet K C_Rules Str.empty = true)
    (hd_Rules : PySem.W.hasDictIn K C_Rules = true)
    (po_Rules : PySem.W.plainOver K C_Rules = true)
    (sa_Rules : PySem.W.findIn K (.ref C_Rules) "__setattr__" = some (some (.builtin "object.__setattr__")))
    (mk_Rules : PySem.W.makesIn K C_Rules = true)
    (kc_Rules : PySem.W.keepIn K (.ref C_Rules) = true)
    (na_Rules_columns : PySem.W.findIn K (.ref C_Rules) "columns" = some none)
    (na_Rules_pairs : PySem.W.findIn K (.ref C_Rules) "pairs" = some none)
    (aC_Steps : PySem.W.nsIn K mainGlobals "Steps" = some (some (.ref C_Steps)))
    (aC_Rows : PySem.W.nsIn K mainGlobals "Rows" = some (some (.ref C_Rows)))
    (aC_Alike : PySem.W.nsIn K mainGlobals "Alike" = some (some (.ref C_Alike)))
    (aC_Apart : PySem.W.nsIn K mainGlobals "Apart" = some (some (.ref C_Apart)))
    (aC_Answer : PySem.W.nsIn K mainGlobals "Answer" = some (some (.ref C_Answer)))
    (t1_Back : PySem.W.findIn K (.ref C_Back) "__class__" = some (some (.builtin "object.__class__")))
    (t2_Back : PySem.W.specialIn K (.builtin "object.__class__") "__get__" = some (some (.builtin "getset_descriptor.__get__")))
    (t3_Back : PySem.W.takesIn K (.builtin "object.__class__") = some true)
    (t4_Back : PySem.W.mroIn K C_Back (.type "object") = some true)
    (ki_Back_Back : PySem.W.kitOne K (.ref C_Back) (.ref C_Back) = some true)
    (ki_Back_Steps : PySem.W.kitOne K (.ref C_Back) (.ref C_Steps) = some false)
    (ki_Back_Rows : PySem.W.kitOne K (.ref C_Back) (.ref C_Rows) = some false)
    (ki_Back_Alike : PySem.W.kitOne K (.ref C_Back) (.ref C_Alike) = some false)
    (ki_Back_Apart : PySem.W.kitOne K (.ref C_Back) (.ref C_Apart) = some false)
    (ki_Back_Answer : PySem.W.kitOne K (.ref C_Back) (.ref C_Answer) = some true)
    (ki_Back_Lost : PySem.W.kitOne K (.ref C_Back) (.ref C_Lost) = some false)
    (t1_Lost : PySem.W.findIn K (.ref C_Lost) "__class__" = some (some (.builtin "object.__class__")))
    (t2_Lost : PySem.W.specialIn K (.builtin "object.__class__") "__get__" = some (some (.builtin "getset_descriptor.__get__")))
    (t3_Lost : PySem.W.takesIn K (.builtin "object.__class__") = some true)
    (t4_Lost : PySem.W.mroIn K C_Lost (.type "object") = some true)
    (ki_Lost_Back : PySem.W.kitOne K (.ref C_Lost) (.ref C_Back) = some false)
    (ki_Lost_Steps : PySem.W.kitOne K (.ref C_Lost) (.ref C_Steps) = some false)
    (ki_Lost_Rows : PySem.W.kitOne K (.ref C_Lost) (.ref C_Rows) = some false)
    (ki_Lost_Alike : PySem.W.kitOne K (.ref C_Lost) (.ref C_Alike) = some false)
    (ki_Lost_Apart : PySem.W.kitOne K (.ref C_Lost) (.ref C_Apart) = some false)
    (ki_Lost_Answer : PySem.W.kitOne K (.ref C_Lost) (.ref C_Answer) = some true)
    (ki_Lost_Lost : PySem.W.kitOne K (.ref C_Lost) (.ref C_Lost) = some true)
    (z_all : PySem.W.nsIn K mainGlobals "all" = some none)
    (z_any : PySem.W.nsIn K mainGlobals "any" = some none)
    (z_bool : PySem.W.nsIn K mainGlobals "bool" = some none)
    (z_enumerate : PySem.W.nsIn K mainGlobals "enumerate" = some none)
    (z_int : PySem.W.nsIn K mainGlobals "int" = some none)
    (z_isinstance : PySem.W.nsIn K mainGlobals "isinstance" = some none)
    (z_len : PySem.W.nsIn K mainGlobals "len" = some none)
    (z_list : PySem.W.nsIn K mainGlobals "list" = some none)
    (z_min : PySem.W.nsIn K mainGlobals "min" = some none)
    (z_range : PySem.W.nsIn K mainGlobals "range" = some none)
    (z_tuple : PySem.W.nsIn K mainGlobals "tuple" = some none)
    {t_MOST_COLUMNS : Tok} (g_MOST_COLUMNS : PySem.W.nsIn K mainGlobals "MOST_COLUMNS" = some (some (.int 6 t_MOST_COLUMNS)))
    {t_MOST_RULES : Tok} (g_MOST_RULES : PySem.W.nsIn K mainGlobals "MOST_RULES" = some (some (.int 64 t_MOST_RULES)))
    {t_MOST_ROWS : Tok} (g_MOST_ROWS : PySem.W.nsIn K mainGlobals "MOST_ROWS" = some (some (.int 64 t_MOST_ROWS)))
    {t_MOST_NUMBER : Tok} (g_MOST_NUMBER : PySem.W.nsIn K mainGlobals "MOST_NUMBER" = some (some (.int 99 t_MOST_NUMBER)))
    {t_MOST_PARTS : Tok} (g_MOST_PARTS : PySem.W.nsIn K mainGlobals "MOST_PARTS" = some (some (.int 64 t_MOST_PARTS)))
    : ∃ fd : FuncData, (∀ (s : Shared) (v : Value), BindsTo s fd ⟨[v], []⟩ [("_law_script", v)]) ∧ ∀ base : Heap, K.In base → base.Ns mainGlobals mg → FnOk l.prog w K mg base CX0 12 fa fd ["_law_script"] (sp_law K) := by
  have e := hfa.symm.trans (PySem.W.mg_of X G a_law)
  cases e
  have T : Txt K mg ⟨f_is_number, (PySem.W.fnOf "is_number" "is_number" (defArgs s_is_number) (defBody s_is_number) (defScope s_is_number) .none kV_is_number dc_is_number pm_is_number an_is_number cd_is_number ct_is_number), f_is_list, (PySem.W.fnOf "is_list" "is_list" (defArgs s_is_list) (defBody s_is_list) (defScope s_is_list) .none kV_is_list dc_is_list pm_is_list an_is_list cd_is_list ct_is_list), f_is_count, (PySem.W.fnOf "is_count" "is_count" (defArgs s_is_count) (defBody s_is_count) (defScope s_is_count) .none kV_is_count dc_is_count pm_is_count an_is_count cd_is_count ct_is_count), f_all_columns, (PySem.W.fnOf "all_columns" "all_columns" (defArgs s_all_columns) (defBody s_all_columns) (defScope s_all_columns) .none kV_all_columns dc_all_columns pm_all_columns an_all_columns cd_all_columns ct_all_columns), f_is_set, (PySem.W.fnOf "is_set" "is_set" (defArgs s_is_set) (defBody s_is_set) (defScope s_is_set) .none kV_is_set dc_is_set pm_is_set an_is_set cd_is_set ct_is_set), f_is_rule, (PySem.W.fnOf "is_rule" "is_rule" (defArgs s_is_rule) (defBody s_is_rule) (defScope s_is_rule) .none kV_is_rule dc_is_rule pm_is_rule an_is_rule cd_is_rule ct_is_rule), f_are_rules, (PySem.W.fnOf "are_rules" "are_rules" (defArgs s_are_rules) (defBody s_are_rules) (defScope s_are_rules) .none kV_are_rules dc_are_rules pm_are_rules an_are_rules cd_are_rules ct_are_rules), f_is_row, (PySem.W.fnOf "is_row" "is_row" (defArgs s_is_row) (defBody s_is_row) (defScope s_is_row) .none kV_is_row dc_is_row pm_is_row an_is_row cd_is_row ct_is_row), f_is_table, (PySem.W.fnOf "is_table" "is_table" (defArgs s_is_table) (defBody s_is_table) (defScope s_is_table) .none kV_is_table dc_is_table pm_is_table an_is_table cd_is_table ct_is_table), f_are_parts, (PySem.W.fnOf "are_parts" "are_parts" (defArgs s_are_parts) (defBody s_are_parts) (defScope s_are_parts) .none kV_are_parts dc_are_parts pm_are_parts an_are_parts cd_are_parts ct_are_parts), f_need_parts, (PySem.W.fnOf "need_parts" "need_parts" (defArgs s_need_parts) (defBody s_need_parts) (defScope s_need_parts) .none kV_need_parts dc_need_parts pm_need_parts an_need_parts cd_need_parts ct_need_parts), f_cells, (PySem.W.fnOf "cells" "cells" (defArgs s_cells) (defBody s_cells) (defScope s_cells) .none kV_cells dc_cells pm_cells an_cells cd_cells ct_cells), f_keeps, (PySem.W.fnOf "keeps" "keeps" (defArgs s_keeps) (defBody s_keeps) (defScope s_keeps) .none kV_keeps dc_keeps pm_keeps an_keeps cd_keeps ct_keeps), f_keeps_all, (PySem.W.fnOf "keeps_all" "keeps_all" (defArgs s_keeps_all) (defBody s_keeps_all) (defScope s_keeps_all) .none kV_keeps_all dc_keeps_all pm_keeps_all an_keeps_all cd_keeps_all ct_keeps_all), f_makes, (PySem.W.fnOf "makes" "makes" (defArgs s_makes) (defBody s_makes) (defScope s_makes) .none kV_makes dc_makes pm_makes an_makes cd_makes ct_makes), f_row_of, (PySem.W.fnOf "row_of" "row_of" (defArgs s_row_of) (defBody s_row_of) (defScope s_row_of) .none kV_row_of dc_row_of pm_row_of an_row_of cd_row_of ct_row_of), f_sheet_of, (PySem.W.fnOf "sheet_of" "sheet_of" (defArgs s_sheet_of) (defBody s_sheet_of) (defScope s_sheet_of) .none kV_sheet_of dc_sheet_of pm_sheet_of an_sheet_of cd_sheet_of ct_sheet_of), f_lowered, (PySem.W.fnOf "lowered" "lowered" (defArgs s_lowered) (defBody s_lowered) (defScope s_lowered) .none kV_lowered dc_lowered pm_lowered an_lowered cd_lowered ct_lowered), f_after_step, (PySem.W.fnOf "after_step" "after_step" (defArgs s_after_step) (defBody s_after_step) (defScope s_after_step) .none kV_after_step dc_after_step pm_after_step an_after_step cd_after_step ct_after_step), f_Back_init, (PySem.W.fnOf "__init__" "Back.__init__" (defArgs s_Back_init) (defBody s_Back_init) (defScope s_Back_init) .none kV_Back_init dc_Back_init pm_Back_init an_Back_init cd_Back_init ct_Back_init), f_Back_shows, (PySem.W.fnOf "shows" "Back.shows" (defArgs s_Back_shows) (defBody s_Back_shows) (defScope s_Back_shows) .none kV_Back_shows dc_Back_shows pm_Back_shows an_Back_shows cd_Back_shows ct_Back_shows), f_Lost_init, (PySem.W.fnOf "__init__" "Lost.__init__" (defArgs s_Lost_init) (defBody s_Lost_init) (defScope s_Lost_init) .none kV_Lost_init dc_Lost_init pm_Lost_init an_Lost_init cd_Lost_init ct_Lost_init), f_Lost_shows, (PySem.W.fnOf "shows" "Lost.shows" (defArgs s_Lost_shows) (defBody s_Lost_shows) (defScope s_Lost_shows) .none kV_Lost_shows dc_Lost_shows pm_Lost_shows an_Lost_shows cd_Lost_shows ct_Lost_shows), f_is_place, (PySem.W.fnOf "is_place" "is_place" (defArgs s_is_place) (defBody s_is_place) (defScope s_is_place) .none kV_is_place dc_is_place pm_is_place an_is_place cd_is_place ct_is_place), f_is_step, (PySem.W.fnOf "is_step" "is_step" (defArgs s_is_step) (defBody s_is_step) (defScope s_is_step) .none kV_is_step dc_is_step pm_is_step an_is_step cd_is_step ct_is_step), f_Rules_init, (PySem.W.fnOf "__init__" "Rules.__init__" (defArgs s_Rules_init) (defBody s_Rules_init) (defScope s_Rules_init) .none kV_Rules_init dc_Rules_init pm_Rules_init an_Rules_init cd_Rules_init ct_Rules_init), f_Rules_rules, (PySem.W.fnOf "rules" "Rules.rules" (defArgs s_Rules_rules) (defBody s_Rules_rules) (defScope s_Rules_rules) .none kV_Rules_rules dc_Rules_rules pm_Rules_rules an_Rules_rules cd_Rules_rules ct_Rules_rules), f_comes_back, (PySem.W.fnOf "comes_back" "comes_back" (defArgs s_comes_back) (defBody s_comes_back) (defScope s_comes_back) .none kV_comes_back dc_comes_back pm_comes_back an_comes_back cd_comes_back ct_comes_back), f_steps_by, (PySem.W.fnOf "steps_by" "steps_by" (defArgs s_steps_by) (defBody s_steps_by) (defScope s_steps_by) .none kV_steps_by dc_steps_by pm_steps_by an_steps_by cd_steps_by ct_steps_by), f_law_cell_at, (PySem.W.fnOf "_law_cell_at" "_law_cell_at" (defArgs s_law_cell_at) (defBody s_law_cell_at) (defScope s_law_cell_at) .none kV_law_cell_at dc_law_cell_at pm_law_cell_at an_law_cell_at cd_law_cell_at ct_law_cell_at), f_law_draw, (PySem.W.fnOf "_law_draw" "_law_draw" (defArgs s_law_draw) (defBody s_law_draw) (defScope s_law_draw) .none kV_law_draw dc_law_draw pm_law_draw an_law_draw cd_law_draw ct_law_draw), f_law_set, (PySem.W.fnOf "_law_set" "_law_set" (defArgs s_law_set) (defBody s_law_set) (defScope s_law_set) .none kV_law_set dc_law_set pm_law_set an_law_set cd_law_set ct_law_set), f_law_pairs, (PySem.W.fnOf "_law_pairs" "_law_pairs" (defArgs s_law_pairs) (defBody s_law_pairs) (defScope s_law_pairs) .none kV_law_pairs dc_law_pairs pm_law_pairs an_law_pairs cd_law_pairs ct_law_pairs), f_law_like, (PySem.W.fnOf "_law_like" "_law_like" (defArgs s_law_like) (defBody s_law_like) (defScope s_law_like) .none kV_law_like dc_law_like pm_law_like an_law_like cd_law_like ct_law_like), f_law_keeps, (PySem.W.fnOf "_law_keeps" "_law_keeps" (defArgs s_law_keeps) (defBody s_law_keeps) (defScope s_law_keeps) .none kV_law_keeps dc_law_keeps pm_law_keeps an_law_keeps cd_law_keeps ct_law_keeps), f_law_numbers, (PySem.W.fnOf "_law_numbers" "_law_numbers" (defArgs s_law_numbers) (defBody s_law_numbers) (defScope s_law_numbers) .none kV_law_numbers dc_law_numbers pm_law_numbers an_law_numbers cd_law_numbers ct_law_numbers), f_law_parts, (PySem.W.fnOf "_law_parts" "_law_parts" (defArgs s_law_parts) (defBody s_law_parts) (defScope s_law_parts) .none kV_law_parts dc_law_parts pm_law_parts an_law_parts cd_law_parts ct_law_parts), f_law_sheet, (PySem.W.fnOf "_law_sheet" "_law_sheet" (defArgs s_law_sheet) (defBody s_law_sheet) (defScope s_law_sheet) .none kV_law_sheet dc_law_sheet pm_law_sheet an_law_sheet cd_law_sheet ct_law_sheet), f_law_stepped, (PySem.W.fnOf "_law_stepped" "_law_stepped" (defArgs s_law_stepped) (defBody s_law_stepped) (defScope s_law_stepped) .none kV_law_stepped dc_law_stepped pm_law_stepped an_law_stepped cd_law_stepped ct_law_stepped), f_law_back, (PySem.W.fnOf "_law_back" "_law_back" (defArgs s_law_back) (defBody s_law_back) (defScope s_law_back) .none kV_law_back dc_law_back pm_law_back an_law_back cd_law_back ct_law_back), f_law_lost, (PySem.W.fnOf "_law_lost" "_law_lost" (defArgs s_law_lost) (defBody s_law_lost) (defScope s_law_lost) .none kV_law_lost dc_law_lost pm_law_lost an_law_lost cd_law_lost ct_law_lost), f_law_right, (PySem.W.fnOf "_law_right" "_law_right" (defArgs s_law_right) (defBody s_law_right) (defScope s_law_right) .none kV_law_right dc_law_right pm_law_right an_law_right cd_law_right ct_law_right), fa, (PySem.W.fnOf "law" "law" (defArgs s_law) (defBody s_law) (defScope s_law) .none kV_law dc_law pm_law an_law cd_law ct_law), C_Back, C_Lost, C_Rules, C_Steps, C_Rows, C_Alike, C_Apart, C_Answer⟩ := by
    constructor
    · exact fun_mk (st := s_is_number) l_is_number c_is_number k_is_number
    · exact (fun_mk (st := s_is_number) l_is_number c_is_number k_is_number).binds (ps := ["value", "least", "most"]) fun _ _ _ _ _ _ us hl => match us, hl with | [_, _, _], _ => rfl
    · exact PySem.W.mg_of X G a_is_number
    · exact fun_mk (st := s_is_list) l_is_list c_is_list k_is_list
    · exact (fun_mk (st := s_is_list) l_is_list c_is_list k_is_list).binds (ps := ["value", "least", "most"]) fun _ _ _ _ _ _ us hl => match us, hl with | [_, _, _], _ => rfl
    · exact PySem.W.mg_of X G a_is_list
    · exact fun_mk (st := s_is_count) l_is_count c_is_count k_is_count
    · exact (fun_mk (st := s_is_count) l_is_count c_is_count k_is_count).binds (ps := ["columns"]) fun _ _ _ _ _ _ us hl => match us, hl with | [_], _ => rfl
    · exact PySem.W.mg_of X G a_is_count
    · exact fun_mk (st := s_all_columns) l_all_columns c_all_columns k_all_columns
    · exact (fun_mk (st := s_all_columns) l_all_columns c_all_columns k_all_columns).binds (ps := ["columns"]) fun _ _ _ _ _ _ us hl => match us, hl with | [_], _ => rfl
    · exact PySem.W.mg_of X G a_all_columns
    · exact fun_mk (st := s_is_set) l_is_set c_is_set k_is_set
    · exact (fun_mk (st := s_is_set) l_is_set c_is_set k_is_set).binds (ps := ["value", "columns"]) fun _ _ _ _ _ _ us hl => match us, hl with | [_, _], _ => rfl
    · exact PySem.W.mg_of X G a_is_set
    · exact fun_mk (st := s_is_rule) l_is_rule c_is_rule k_is_rule
    · exact (fun_mk (st := s_is_rule) l_is_rule c_is_rule k_is_rule).binds (ps := ["value", "columns"]) fun _ _ _ _ _ _ us hl => match us, hl with | [_, _], _ => rfl
    · exact PySem.W.mg_of X G a_is_rule
    · exact fun_mk (st := s_are_rules) l_are_rules c_are_rules k_are_rules
    · exact (fun_mk (st := s_are_rules) l_are_rules c_are_rules k_are_rules).binds (ps := ["value", "columns"]) fun _ _ _ _ _ _ us hl => match us, hl with | [_, _], _ => rfl
    · exact PySem.W.mg_of X G a_are_rules
    · exact fun_mk (st := s_is_row) l_is_row c_is_row k_is_row
    · exact (fun_mk (st := s_is_row) l_is_row c_is_row k_is_row).binds (ps := ["value", "columns"]) fun _ _ _ _ _ _ us hl => match us, hl with | [_, _], _ => rfl
    · exact PySem.W.mg_of X G a_is_row
    · exact fun_mk (st := s_is_table) l_is_table c_is_table k_is_table
    · exact (fun_mk (st := s_is_table) l_is_table c_is_table k_is_table).binds (ps := ["value", "columns"]) fun _ _ _ _ _ _ us hl => match us, hl with | [_, _], _ => rfl
    · exact PySem.W.mg_of X G a_is_table
    · exact fun_mk (st := s_are_parts) l_are_parts c_are_parts k_are_parts
    · exact (fun_mk (st := s_are_parts) l_are_parts c_are_parts k_are_parts).binds (ps := ["value", "columns"]) fun _ _ _ _ _ _ us hl => match us, hl with | [_, _], _ => rfl
    · exact PySem.W.mg_of X G a_are_parts
    · exact fun_mk (st := s_need_parts) l_need_parts c_need_parts k_need_parts
    · exact (fun_mk (st := s_need_parts) l_need_parts c_need_parts k_need_parts).binds (ps := ["columns", "parts"]) fun _ _ _ _ _ _ us hl => match us, hl with | [_, _], _ => rfl
    · exact PySem.W.mg_of X G a_need_parts
    · exact fun_mk (st := s_cells) l_cells c_cells k_cells
    · exact (fun_mk (st := s_cells) l_cells c_cells k_cells).binds (ps := ["row", "some"]) fun _ _ _ _ _ _ us hl => match us, hl with | [_, _], _ => rfl
    · exact PySem.W.mg_of X G a_cells
    · exact fun_mk (st := s_keeps) l_keeps c_keeps k_keeps
    · exact (fun_mk (st := s_keeps) l_keeps c_keeps k_keeps).binds (ps := ["table", "rule"]) fun _ _ _ _ _ _ us hl => match us, hl with | [_, _], _ => rfl
    · exact PySem.W.mg_of X G a_keeps
    · exact fun_mk (st := s_keeps_all) l_keeps_all c_keeps_all k_keeps_all
    · exact (fun_mk (st := s_keeps_all) l_keeps_all c_keeps_all k_keeps_all).binds (ps := ["table", "pairs"]) fun _ _ _ _ _ _ us hl => match us, hl with | [_, _], _ => rfl
    · exact PySem.W.mg_of X G a_keeps_all
    · exact fun_mk (st := s_makes) l_makes c_makes k_makes
    · exact (fun_mk (st := s_makes) l_makes c_makes k_makes).binds (ps := ["table", "parts", "row"]) fun _ _ _ _ _ _ us hl => match us, hl with | [_, _, _], _ => rfl
    · exact PySem.W.mg_of X G a_makes
    · exact fun_mk (st := s_row_of) l_row_of c_row_of k_row_of
    · exact (fun_mk (st := s_row_of) l_row_of c_row_of k_row_of).binds (ps := ["columns", "some", "number"]) fun _ _ _ _ _ _ us hl => match us, hl with | [_, _, _], _ => rfl
    · exact PySem.W.mg_of X G a_row_of
    · exact fun_mk (st := s_sheet_of) l_sheet_of c_sheet_of k_sheet_of
    · exact (fun_mk (st := s_sheet_of) l_sheet_of c_sheet_of k_sheet_of).binds (ps := ["columns", "parts"]) fun _ _ _ _ _ _ us hl => match us, hl with | [_, _], _ => rfl
    · exact PySem.W.mg_of X G a_sheet_of
    · exact fun_mk (st := s_lowered) l_lowered c_lowered k_lowered
    · exact (fun_mk (st := s_lowered) l_lowered c_lowered k_lowered).binds (ps := ["number", "one", "other"]) fun _ _ _ _ _ _ us hl => match us, hl with | [_, _, _], _ => rfl
    · exact PySem.W.mg_of X G a_lowered
    · exact fun_mk (st := s_after_step) l_after_step c_after_step k_after_step
    · exact (fun_mk (st := s_after_step) l_after_step c_after_step k_after_step).binds (ps := ["sheet", "right", "one", "other"]) fun _ _ _ _ _ _ us hl => match us, hl with | [_, _, _, _], _ => rfl
    · exact PySem.W.mg_of X G a_after_step
    · exact fun_mk (st := s_Back_init) l_Back_init c_Back_init k_Back_init
    · exact (fun_mk (st := s_Back_init) l_Back_init c_Back_init k_Back_init).binds (ps := ["self", "steps"]) fun _ _ _ _ _ _ us hl => match us, hl with | [_, _], _ => rfl
    · exact ⟨mk_Back, a_Back_init, i_Back_init, kc_Back⟩
    · exact fun_mk (st := s_Back_shows) l_Back_shows c_Back_shows k_Back_shows
    · exact (fun_mk (st := s_Back_shows) l_Back_shows c_Back_shows k_Back_shows).binds (ps := ["self", "rules", "parts"]) fun _ _ _ _ _ _ us hl => match us, hl with | [_, _, _], _ => rfl
    · exact ⟨a_Back_shows, i_Back_shows, k_Back_shows⟩
    · exact fun_mk (st := s_Lost_init) l_Lost_init c_Lost_init k_Lost_init
    · exact (fun_mk (st := s_Lost_init) l_Lost_init c_Lost_init k_Lost_init).binds (ps := ["self", "table", "row"]) fun _ _ _ _ _ _ us hl => match us, hl with | [_, _, _], _ => rfl
    · exact ⟨mk_Lost, a_Lost_init, i_Lost_init, kc_Lost⟩
    · exact fun_mk (st := s_Lost_shows) l_Lost_shows c_Lost_shows k_Lost_shows
    · exact (fun_mk (st := s_Lost_shows) l_Lost_shows c_Lost_shows k_Lost_shows).binds (ps := ["self", "rules", "parts"]) fun _ _ _ _ _ _ us hl => match us, hl with | [_, _, _], _ => rfl
    · exact ⟨a_Lost_shows, i_Lost_shows, k_Lost_shows⟩
    · exact fun_mk (st := s_is_place) l_is_place c_is_place k_is_place
    · exact (fun_mk (st := s_is_place) l_is_place c_is_place k_is_place).binds (ps := ["value", "things"]) fun _ _ _ _ _ _ us hl => match us, hl with | [_, _], _ => rfl
    · exact PySem.W.mg_of X G a_is_place
    · exact fun_mk (st := s_is_step) l_is_step c_is_step k_is_step
    · exact (fun_mk (st := s_is_step) l_is_step c_is_step k_is_step).binds (ps := ["step", "pairs", "sheet"]) fun _ _ _ _ _ _ us hl => match us, hl with | [_, _, _], _ => rfl
    · exact PySem.W.mg_of X G a_is_step
    · exact fun_mk (st := s_Rules_init) l_Rules_init c_Rules_init k_Rules_init
    · exact (fun_mk (st := s_Rules_init) l_Rules_init c_Rules_init k_Rules_init).binds (ps := ["self", "columns", "rules"]) fun _ _ _ _ _ _ us hl => match us, hl with | [_, _, _], _ => rfl
    · exact ⟨mk_Rules, a_Rules_init, i_Rules_init, kc_Rules⟩
    · exact fun_mk (st := s_Rules_rules) l_Rules_rules c_Rules_rules k_Rules_rules
    · exact (fun_mk (st := s_Rules_rules) l_Rules_rules c_Rules_rules k_Rules_rules).binds (ps := ["self"]) fun _ _ _ _ _ _ us hl => match us, hl with | [_], _ => rfl
    · exact ⟨a_Rules_rules, i_Rules_rules, k_Rules_rules⟩
    · exact fun_mk (st := s_comes_back) l_comes_back c_comes_back k_comes_back
    · exact (fun_mk (st := s_comes_back) l_comes_back c_comes_back k_comes_back).binds (ps := ["rules", "parts"]) fun _ _ _ _ _ _ us hl => match us, hl with | [_, _], _ => rfl
    · exact PySem.W.mg_of X G a_comes_back
    · exact fun_mk (st := s_steps_by) l_steps_by c_steps_by k_steps_by
    · exact (fun_mk (st := s_steps_by) l_steps_by c_steps_by k_steps_by).binds (ps := ["sheet", "place", "rule"]) fun _ _ _ _ _ _ us hl => match us, hl with | [_, _, _], _ => rfl
    · exact PySem.W.mg_of X G a_steps_by
    · exact fun_mk (st := s_law_cell_at) l_law_cell_at c_law_cell_at k_law_cell_at
    · exact (fun_mk (st := s_law_cell_at) l_law_cell_at c_law_cell_at k_law_cell_at).binds (ps := ["_law_script", "_law_k"]) fun _ _ _ _ _ _ us hl => match us, hl with | [_, _], _ => rfl
    · exact PySem.W.mg_of X G a_law_cell_at
    · exact fun_mk (st := s_law_draw) l_law_draw c_law_draw k_law_draw
    · exact (fun_mk (st := s_law_draw) l_law_draw c_law_draw k_law_draw).binds (ps := ["_law_cell", "_law_k", "_law_many"]) fun _ _ _ _ _ _ us hl => match us, hl with | [_, _, _], _ => rfl
    · exact PySem.W.mg_of X G a_law_draw
    · exact fun_mk (st := s_law_set) l_law_set c_law_set k_law_set
    · exact (fun_mk (st := s_law_set) l_law_set c_law_set k_law_set).binds (ps := ["_law_cell", "_law_columns"]) fun _ _ _ _ _ _ us hl => match us, hl with | [_, _], _ => rfl
    · exact PySem.W.mg_of X G a_law_set
    · exact fun_mk (st := s_law_pairs) l_law_pairs c_law_pairs k_law_pairs
    · exact (fun_mk (st := s_law_pairs) l_law_pairs c_law_pairs k_law_pairs).binds (ps := ["_law_cell", "_law_columns", "_law_most"]) fun _ _ _ _ _ _ us hl => match us, hl with | [_, _, _], _ => rfl
    · exact PySem.W.mg_of X G a_law_pairs
    · exact fun_mk (st := s_law_like) l_law_like c_law_like k_law_like
    · exact (fun_mk (st := s_law_like) l_law_like c_law_like k_law_like).binds (ps := ["_law_one", "_law_other", "_law_some"]) fun _ _ _ _ _ _ us hl => match us, hl with | [_, _, _], _ => rfl
    · exact PySem.W.mg_of X G a_law_like
    · exact fun_mk (st := s_law_keeps) l_law_keeps c_law_keeps k_law_keeps
    · exact (fun_mk (st := s_law_keeps) l_law_keeps c_law_keeps k_law_keeps).binds (ps := ["_law_table", "_law_rule"]) fun _ _ _ _ _ _ us hl => match us, hl with | [_, _], _ => rfl
    · exact PySem.W.mg_of X G a_law_keeps
    · exact fun_mk (st := s_law_numbers) l_law_numbers c_law_numbers k_law_numbers
    · exact (fun_mk (st := s_law_numbers) l_law_numbers c_law_numbers k_law_numbers).binds (ps := ["_law_found", "_law_most"]) fun _ _ _ _ _ _ us hl => match us, hl with | [_, _], _ => rfl
    · exact PySem.W.mg_of X G a_law_numbers
    · exact fun_mk (st := s_law_parts) l_law_parts c_law_parts k_law_parts
    · exact (fun_mk (st := s_law_parts) l_law_parts c_law_parts k_law_parts).binds (ps := ["_law_cell", "_law_columns"]) fun _ _ _ _ _ _ us hl => match us, hl with | [_, _], _ => rfl
    · exact PySem.W.mg_of X G a_law_parts
    · exact fun_mk (st := s_law_sheet) l_law_sheet c_law_sheet k_law_sheet
    · exact (fun_mk (st := s_law_sheet) l_law_sheet c_law_sheet k_law_sheet).binds (ps := ["_law_parts_here", "_law_columns"]) fun _ _ _ _ _ _ us hl => match us, hl with | [_, _], _ => rfl
    · exact PySem.W.mg_of X G a_law_sheet
    · exact fun_mk (st := s_law_stepped) l_law_stepped c_law_stepped k_law_stepped
    · exact (fun_mk (st := s_law_stepped) l_law_stepped c_law_stepped k_law_stepped).binds (ps := ["_law_sheet_here", "_law_one", "_law_other", "_law_right_here"]) fun _ _ _ _ _ _ us hl => match us, hl with | [_, _, _, _], _ => rfl
    · exact PySem.W.mg_of X G a_law_stepped
    · exact fun_mk (st := s_law_back) l_law_back c_law_back k_law_back
    · exact (fun_mk (st := s_law_back) l_law_back c_law_back k_law_back).binds (ps := ["_law_pairs_here", "_law_columns", "_law_parts_here", "_law_steps"]) fun _ _ _ _ _ _ us hl => match us, hl with | [_, _, _, _], _ => rfl
    · exact PySem.W.mg_of X G a_law_back
    · exact fun_mk (st := s_law_lost) l_law_lost c_law_lost k_law_lost
    · exact (fun_mk (st := s_law_lost) l_law_lost c_law_lost k_law_lost).binds (ps := ["_law_pairs_here", "_law_columns", "_law_parts_here", "_law_table", "_law_row"]) fun _ _ _ _ _ _ us hl => match us, hl with | [_, _, _, _, _], _ => rfl
    · exact PySem.W.mg_of X G a_law_lost
    · exact fun_mk (st := s_law_right) l_law_right c_law_right k_law_right
    · exact (fun_mk (st := s_law_right) l_law_right c_law_right k_law_right).binds (ps := ["_law_pairs_here", "_law_columns", "_law_parts_here", "_law_found"]) fun _ _ _ _ _ _ us hl => match us, hl with | [_, _, _, _], _ => rfl
    · exact PySem.W.mg_of X G a_law_right
    · exact fun_mk (st := s_law) l_law c_law k_law
    · exact (fun_mk (st := s_law) l_law c_law k_law).binds (ps := ["_law_script"]) fun _ _ _ _ _ _ us hl => match us, hl with | [_], _ => rfl
    · exact PySem.W.mg_of X G a_law
    · exact ⟨pg_Back, hd_Back, po_Back, sa_Back⟩
    · exact PySem.W.mg_of X G aC_Back
    · exact na_Back_steps
    · exact ⟨pg_Lost, hd_Lost, po_Lost, sa_Lost⟩
    · exact PySem.W.mg_of X G aC_Lost
    · exact na_Lost_table
    · exact na_Lost_row
    · exact ⟨pg_Rules, hd_Rules, po_Rules, sa_Rules⟩
    · exact PySem.W.mg_of X G aC_Rules
    · exact na_Rules_columns
    · exact na_Rules_pairs
    · exact PySem.W.mg_of X G aC_Steps
    · exact PySem.W.mg_of X G aC_Rows
    · exact PySem.W.mg_of X G aC_Alike
    · exact PySem.W.mg_of X G aC_Apart
    · exact PySem.W.mg_of X G aC_Answer
    · exact ⟨t1_Back, t2_Back, t3_Back, t4_Back⟩
    · exact ki_Back_Back
    · exact ki_Back_Steps
    · exact ki_Back_Rows
    · exact ki_Back_Alike
    · exact ki_Back_Apart
    · exact ki_Back_Answer
    · exact ki_Back_Lost
    · exact ⟨t1_Lost, t2_Lost, t3_Lost, t4_Lost⟩
    · exact ki_Lost_Back
    · exact ki_Lost_Steps
    · exact ki_Lost_Rows
    · exact ki_Lost_Alike
    · exact ki_Lost_Apart
    · exact ki_Lost_Answer
    · exact ki_Lost_Lost
    · exact PySem.W.mg_none_of X G z_all
    · exact PySem.W.mg_none_of X G z_any
    · exact PySem.W.mg_none_of X G z_bool
    · exact PySem.W.mg_none_of X G z_enumerate
    · exact PySem.W.mg_none_of X G z_int
    · exact PySem.W.mg_none_of X G z_isinstance
    · exact PySem.W.mg_none_of X G z_len
    · exact PySem.W.mg_none_of X G z_list
    · exact PySem.W.mg_none_of X G z_min
    · exact PySem.W.mg_none_of X G z_range
    · exact PySem.W.mg_none_of X G z_tuple
    · exact ⟨_, PySem.W.mg_of X G g_MOST_COLUMNS⟩
    · exact ⟨_, PySem.W.mg_of X G g_MOST_RULES⟩
    · exact ⟨_, PySem.W.mg_of X G g_MOST_ROWS⟩
    · exact ⟨_, PySem.W.mg_of X G g_MOST_NUMBER⟩
    · exact ⟨_, PySem.W.mg_of X G g_MOST_PARTS⟩
  exact ⟨_, fun s v => .of_eq rfl, fun base _ _ => ok_law T⟩
theorem walk {l : PySem.W.OpenLaw} {q : Program} {loose : List Str} {XP : (Str → Option Value) → Heap → Prop} {YP : World → Heap → Prop} {d : DefRec} {K : Params → PySem.W.Frag} (hn : l.most = some 63) (hdf : d.params.defaults = [])
    (hY : ∀ (w : World) (h : Heap), YP w h → (K w.params).In h)
    (F : ∀ (w : World) (mg : Str → Option Value) (fa : Addr) (h : Heap), (K w.params).In h → h.Ns mainGlobals mg → mg d.name = some (.ref fa) →
      ∃ fd : FuncData, (∀ (s : Shared) (u : Value), BindsTo s fd ⟨[u], []⟩ [("_law_script", u)]) ∧ ∀ base : Heap, (K w.params).In base → base.Ns mainGlobals mg → FnOk l.prog w (K w.params) mg base CX0 12 fa fd ["_law_script"] (sp_law (K w.params))) :
    PySem.W.WalkO q loose XP YP l.row.toRowW d [] (fun f vs => PySem.call f vs) :=
  L2.walk_of (n := 63) (k := 12) (x := "_law_script") (CX := fun _ => CX0) (sp := fun w => sp_law (K w.params)) hn (by decide) hdf ⟨rfl, by decide, by decide⟩ hY F (fun _ _ a ns hl _ hS => ⟨a, ns, rfl, hS, hl, fun _ => rfl⟩) fun _ _ _ _ _ z => z
end K07
def PySem.W.Fast.tw6249021567798738623 : Unit := ()
def PySem.W.Fast.tw14638831287375862600 : Unit := ()
def PySem.W.Fast.tw13520876043990262816 : Unit := ()
def PySem.W.Fast.tw18185231134370029580 : Unit := ()
def PySem.W.Fast.tw6156425693163231782 : Unit := ()
def PySem.W.Fast.tw11073754402377786375 : Unit := ()
def PySem.W.Fast.tw7297479958848138737 : Unit := ()
def PySem.W.Fast.tw4767132005988245473 : Unit := ()
def PySem.W.Fast.tw15525238260614867009 : Unit := ()
def PySem.W.Fast.tw17111911151660099636 : Unit := ()
def PySem.W.Fast.tw11203882818120868077 : Unit := ()
def PySem.W.Fast.tw1980518759305189892 : Unit := ()
def PySem.W.Fast.tw15907791052934092979 : Unit := ()
def PySem.W.Fast.tw14950325427968751717 : Unit := ()
def PySem.W.Fast.tw72997776427386152 : Unit := ()
def PySem.W.Fast.tw888575781083963355 : Unit := ()
def PySem.W.Fast.tw16956295908606356658 : Unit := ()
def PySem.W.Fast.tw7967224335291738547 : Unit := ()
def PySem.W.Fast.tw967843539376777014 : Unit := ()
def PySem.W.Fast.tw3452755860192666109 : Unit := ()
def PySem.W.Fast.tw13759286126027121804 : Unit := ()
def PySem.W.Fast.tw65931899192038992 : Unit := ()
def PySem.W.Fast.tw2364378916822146638 : Unit := ()
def PySem.W.Fast.tw4776437836730017459 : Unit := ()
def PySem.W.Fast.tw1721157273495530133 : Unit := ()
def PySem.W.Fast.tw18353778947761374099 : Unit := ()
def PySem.W.Fast.tw17289240317012926304 : Unit := ()
def PySem.W.Fast.tw184338625404376575 : Unit := ()
def PySem.W.Fast.tw158728824056535126 : Unit := ()
def PySem.W.Fast.tw5549004871825397914 : Unit := ()
def PySem.W.Fast.tw12098308816552470313 : Unit := ()
def PySem.W.Fast.tw7274160756474223482 : Unit := ()
def PySem.W.Fast.tw16877818568105911812 : Unit := ()
def PySem.W.Fast.tw13637660074667531773 : Unit := ()
def PySem.W.Fast.tw12008777241200205705 : Unit := ()
def PySem.W.Fast.tw4798517259203124761 : Unit := ()
def PySem.W.Fast.tw8288239975993442316 : Unit := ()
def PySem.W.Fast.tw1549676662599508420 : Unit := ()
def PySem.W.Fast.tw9596377156578872284 : Unit := ()
def PySem.W.Fast.tw1686351337298037799 : Unit := ()
def PySem.W.Fast.tw6459796443405765583 : Unit := ()
def PySem.W.Fast.tw18163558898017681724 : Unit := ()
def PySem.W.Fast.tw14007977861375677542 : Unit := ()
def PySem.W.Fast.tw9425513181153378877 : Unit := ()
def PySem.W.Fast.tw11465028931673617143 : Unit := ()
def PySem.W.Fast.tw7499928537813809965 : Unit := ()
def PySem.W.Fast.tw11686155380805978631 : Unit := ()
def PySem.W.Fast.tw9882887831401366775 : Unit := ()
def PySem.W.Fast.tw8591296858252519951 : Unit := ()
def PySem.W.Fast.tw9298754968584205422 : Unit := ()
def PySem.W.Fast.tw4778832353078743564 : Unit := ()
def PySem.W.Fast.tw18232963602020856510 : Unit := ()
def PySem.W.Fast.tw4296848146229148339 : Unit := ()
def PySem.W.Fast.tw13052997983176196099 : Unit := ()
def PySem.W.Fast.tw17059945131505430553 : Unit := ()
def PySem.W.Fast.tw584786815946919333 : Unit := ()
def PySem.W.Fast.tw1176729399296789329 : Unit := ()
def PySem.W.Fast.tw11324625719027993063 : Unit := ()
def PySem.W.Fast.tw4950089577666143688 : Unit := ()
def PySem.W.Fast.tw17423589451249092043 : Unit := ()
def PySem.W.Fast.tw15943018687009904878 : Unit := ()
def PySem.W.Fast.tw4207148870045275561 : Unit := ()
def PySem.W.Fast.tw14935367592300224667 : Unit := ()
def PySem.W.Fast.tw47918643487329696 : Unit := ()
def PySem.W.Fast.tw9823813357883613866 : Unit := ()
def PySem.W.Fast.tw3573917340714938409 : Unit := ()
def PySem.W.Fast.tw3994729046692438255 : Unit := ()
def PySem.W.Fast.tw576048246635782033 : Unit := ()
def PySem.W.Fast.tw9028087211508902925 : Unit := ()
def PySem.W.Fast.tw5449696473708199659 : Unit := ()
def PySem.W.Fast.tw1404550023408167305 : Unit := ()
def PySem.W.Fast.tw12894112044831501732 : Unit := ()
def PySem.W.Fast.tw2276520267314483368 : Unit := ()
def PySem.W.Fast.tw12588844363831947365 : Unit := ()
def PySem.W.Fast.tw5391145794105173267 : Unit := ()
def PySem.W.Fast.tw18371446350672519073 : Unit := ()
def PySem.W.Fast.tw8315701136633920181 : Unit := ()
def PySem.W.Fast.tw7751449788824830157 : Unit := ()
def PySem.W.Fast.tw9459926309149838303 : Unit := ()
def PySem.W.Fast.tw5824681898937752628 : Unit := ()
def PySem.W.Fast.tw17150353860011089801 : Unit := ()
def PySem.W.Fast.tw3917210894573008212 : Unit := ()
def PySem.W.Fast.tw10576326466945226050 : Unit := ()
def PySem.W.Fast.tw7805774370086649074 : Unit := ()
def PySem.W.Fast.tw816844746360587173 : Unit := ()
def PySem.W.Fast.tw156175146503746349 : Unit := ()
def PySem.W.Fast.tw7874083392766523488 : Unit := ()
def PySem.W.Fast.tw10900827173888420572 : Unit := ()
def PySem.W.Fast.tw14132529712756963983 : Unit := ()
def PySem.W.Fast.tw15627203751472625663 : Unit := ()
def PySem.W.Fast.tw15839821444811740831 : Unit := ()
def PySem.W.Fast.tw3979897455742993195 : Unit := ()
def PySem.W.Fast.tw17692087860500189796 : Unit := ()
def PySem.W.Fast.tw8767182930027920641 : Unit := ()
def PySem.W.Fast.tw4100862867238094166 : Unit := ()
def PySem.W.Fast.tw13851072387241828667 : Unit := ()
def PySem.W.Fast.tw10888005901929421469 : Unit := ()
def PySem.W.Fast.tw10310292662272343956 : Unit := ()
def PySem.W.Fast.tw3728331950728331060 : Unit := ()
def PySem.W.Fast.tw6943734246038297827 : Unit := ()
def PySem.W.Fast.tw7518640018493402045 : Unit := ()
def PySem.W.Fast.tw1837113328336865571 : Unit := ()
def PySem.W.Fast.tw10517501633275920685 : Unit := ()
def PySem.W.Fast.tw12259149020140753369 : Unit := ()
def PySem.W.Fast.tw7924809516753576717 : Unit := ()
def PySem.W.Fast.tw18224874631588118241 : Unit := ()
def PySem.W.Fast.tw3032347644814253146 : Unit := ()
def PySem.W.Fast.tw4213744252012991691 : Unit := ()
def PySem.W.Fast.tw16753097953973965864 : Unit := ()
def PySem.W.Fast.tw13880195214868089698 : Unit := ()
def PySem.W.Fast.tw3461956698530434703 : Unit := ()
def PySem.W.Fast.tw4875215614312254370 : Unit := ()
def PySem.W.Fast.tw12899562279318955928 : Unit := ()
def PySem.W.Fast.tw15169863083552682860 : Unit := ()
def PySem.W.Fast.tw5618192369692727911 : Unit := ()
def PySem.W.Fast.tw16442741765169999244 : Unit := ()
def PySem.W.Fast.tw1433002697420463708 : Unit := ()
def PySem.W.Fast.tw7192991376617845887 : Unit := ()
def PySem.W.Fast.tw12957700595277036976 : Unit := ()
def PySem.W.Fast.tw7635792374880526872 : Unit := ()
def PySem.W.Fast.tw1401327990664562408 : Unit := ()
def PySem.W.Fast.tw3312108396000961773 : Unit := ()
def PySem.W.Fast.tw1685966469099521593 : Unit := ()
def PySem.W.Fast.tw6401107415931495292 : Unit := ()
def PySem.W.Fast.tw12537398434958956000 : Unit := ()
def PySem.W.Fast.tw1253562333702637121 : Unit := ()
def PySem.W.Fast.tw11188155890355131596 : Unit := ()
def PySem.W.Fast.tw10389132090036655527 : Unit := ()
def PySem.W.Fast.tw14293523643403775243 : Unit := ()
def PySem.W.Fast.tw2817763316913561705 : Unit := ()
def PySem.W.Fast.tw4011719445962374535 : Unit := ()
def PySem.W.Fast.tw4157936294380383025 : Unit := ()
def PySem.W.Fast.tw15447084740249766359 : Unit := ()
def PySem.W.Fast.tw16826169783933650149 : Unit := ()
def PySem.W.Fast.tw292067313997516092 : Unit := ()
def PySem.W.Fast.tw3620483438070326081 : Unit := ()
def PySem.W.Fast.tw9872474038891348097 : Unit := ()
def PySem.W.Fast.tw10426213876089708785 : Unit := ()
def PySem.W.Fast.tw15091624148997719023 : Unit := ()
def PySem.W.Fast.tw15126357134151352862 : Unit := ()
def PySem.W.Fast.tw13795033511661291221 : Unit := ()
def PySem.W.Fast.tw22201874978152558 : Unit := ()
def PySem.W.Fast.tw11450290308900046950 : Unit := ()
def PySem.W.Fast.tw12579717001052166984 : Unit := ()
def PySem.W.Fast.tw14144325370317978706 : Unit := ()
def PySem.W.Fast.tw10866049276304397124 : Unit := ()
def PySem.W.Fast.tw3915623164567392944 : Unit := ()
def PySem.W.Fast.tw12731054328110663877 : Unit := ()
def PySem.W.Fast.tw3993250138582496906 : Unit := ()
def PySem.W.Fast.tw17735694354088252654 : Unit := ()
def PySem.W.Fast.tw11018629150837938670 : Unit := ()
def PySem.W.Fast.tw3800189210061151399 : Unit := ()
def PySem.W.Fast.tw12966054564400390975 : Unit := ()
def PySem.W.Fast.tw1652679324563590913 : Unit := ()
def PySem.W.Fast.tw15411039249236645695 : Unit := ()
def PySem.W.Fast.tw18349812635030074483 : Unit := ()
def PySem.W.Fast.tw14358949377039518529 : Unit := ()
def PySem.W.Fast.tw15644990566846921062 : Unit := ()
def PySem.W.Fast.tw17524119621462094747 : Unit := ()
def PySem.W.Fast.tw3049765280496943777 : Unit := ()
def PySem.W.Fast.tw12518126611096355080 : Unit := ()
def PySem.W.Fast.tw2232624975676359437 : Unit := ()
def PySem.W.Fast.tw2042654305918108925 : Unit := ()
def PySem.W.Fast.tw12527844295121384281 : Unit := ()
def PySem.W.Fast.tw10185919415696283064 : Unit := ()
def PySem.W.Fast.tw2301214561406415189 : Unit := ()
def PySem.W.Fast.tw7046752911441715859 : Unit := ()
def PySem.W.Fast.tw2757405143880718887 : Unit := ()
def PySem.W.Fast.tw13782256693197863534 : Unit := ()
def PySem.W.Fast.tw8055182282783311918 : Unit := ()
def PySem.W.Fast.tw5030045858534215346 : Unit := ()
def PySem.W.Fast.tw5967572641935179481 : Unit := ()
def PySem.W.Fast.tw8499517701772371071 : Unit := ()
def PySem.W.Fast.tw16013172211023220560 : Unit := ()
def PySem.W.Fast.tw5474108077213701909 : Unit := ()
def PySem.W.Fast.tw5328819881074753807 : Unit := ()
def PySem.W.Fast.tw6841932438189347384 : Unit := ()
def PySem.W.Fast.tw13604916947578671786 : Unit := ()
def PySem.W.Fast.tw7319893465095995449 : Unit := ()
def PySem.W.Fast.tw15584150534305929873 : Unit := ()
def PySem.W.Fast.tw8992536379131232420 : Unit := ()
def PySem.W.Fast.tw1779209385132998647 : Unit := ()
def PySem.W.Fast.tw5140435677445212154 : Unit := ()
def PySem.W.Fast.tw11903047706173144119 : Unit := ()
def PySem.W.Fast.tw6435292342877460624 : Unit := ()
def PySem.W.Fast.tw2962747623189405777 : Unit := ()
def PySem.W.Fast.tw6928212216028260583 : Unit := ()
def PySem.W.Fast.tw6683239028615062687 : Unit := ()
def PySem.W.Fast.tw14688818003790711785 : Unit := ()
def PySem.W.Fast.tw10084790804291481609 : Unit := ()
def PySem.W.Fast.tw18279012056981184972 : Unit := ()
def PySem.W.Fast.tw10701785688344123661 : Unit := ()
def PySem.W.Fast.tw8868103616629628423 : Unit := ()
def PySem.W.Fast.tw2558117033599150904 : Unit := ()
def PySem.W.Fast.tw6013183804695027499 : Unit := ()
def PySem.W.Fast.tw1248355588153736168 : Unit := ()
def PySem.W.Fast.tw17748791382296946241 : Unit := ()
def PySem.W.Fast.tw549386199470916386 : Unit := ()
def PySem.W.Fast.tw16671770239638057715 : Unit := ()
def PySem.W.Fast.tw17052991287982772948 : Unit := ()
def PySem.W.Fast.tw4348979018686416745 : Unit := ()
def PySem.W.Fast.tw1237022562447739730 : Unit := ()
def PySem.W.Fast.tw8694713238013624272 : Unit := ()
def PySem.W.Fast.tw16130958558982925731 : Unit := ()
def PySem.W.Fast.tw9482646447302495054 : Unit := ()
def PySem.W.Fast.tw6135017082757629581 : Unit := ()
def PySem.W.Fast.tw15745875993511982418 : Unit := ()
def PySem.W.Fast.tw9956952647567134562 : Unit := ()
def PySem.W.Fast.tw8258073518514691388 : Unit := ()
def PySem.W.Fast.tw13202698374026198168 : Unit := ()
def PySem.W.Fast.tw9402295175394733569 : Unit := ()
def PySem.W.Fast.tw8664827534995653767 : Unit := ()
def PySem.W.Fast.tw16915180133489676332 : Unit := ()
def PySem.W.Fast.tw12531991755014999238 : Unit := ()
def PySem.W.Fast.tw15027314539242155717 : Unit := ()
def PySem.W.Fast.tw10106387349220266622 : Unit := ()
def PySem.W.Fast.tw11242144498673018604 : Unit := ()
def PySem.W.Fast.tw13103195144768064528 : Unit := ()
def PySem.W.Fast.tw5635585839315877935 : Unit := ()
def PySem.W.Fast.tw8228510606713790882 : Unit := ()
def PySem.W.Fast.tw5636705352240451992 : Unit := ()
def PySem.W.Fast.tw4974541531436895309 : Unit := ()
def PySem.W.Fast.tw9485995787831497911 : Unit := ()
def PySem.W.Fast.tw8916440726263642471 : Unit := ()
def PySem.W.Fast.tw9600911005886984544 : Unit := ()
def PySem.W.Fast.tw11332857468536120871 : Unit := ()
def PySem.W.Fast.tw2234385215477712191 : Unit := ()
def PySem.W.Fast.tw6084874230598156498 : Unit := ()
def PySem.W.Fast.tw2533922895713859810 : Unit := ()
def PySem.W.Fast.tw9728096683147166892 : Unit := ()
def PySem.W.Fast.tw531652368032938137 : Unit := ()
def PySem.W.Fast.tw8251948930186929884 : Unit := ()
def PySem.W.Fast.tw15556471864451054084 : Unit := ()
def PySem.W.Fast.tw6862856875030999537 : Unit := ()
def PySem.W.Fast.tw6088581031175845424 : Unit := ()
def PySem.W.Fast.tw13293248632291229273 : Unit := ()
def PySem.W.Fast.tw12612359608209522725 : Unit := ()
def PySem.W.Fast.tw6323542244547949729 : Unit := ()
def PySem.W.Fast.tw16035213942535708254 : Unit := ()
def PySem.W.Fast.tw17595446607447468671 : Unit := ()
def PySem.W.Fast.tw12429973265800228102 : Unit := ()
def PySem.W.Fast.tw9725177495450992508 : Unit := ()
def PySem.W.Fast.tw11857472338571854113 : Unit := ()
def PySem.W.Fast.tw10513829228063352146 : Unit := ()
def PySem.W.Fast.tw1631978652005282076 : Unit := ()
def PySem.W.Fast.tw9987650830756963516 : Unit := ()
def PySem.W.Fast.tw7013177992263658545 : Unit := ()
def PySem.W.Fast.tw10266984933651897979 : Unit := ()
def PySem.W.Fast.tw1000540054006802072 : Unit := ()
def PySem.W.Fast.tw2998408160674340595 : Unit := ()
def PySem.W.Fast.tw8477264804901056342 : Unit := ()
def PySem.W.Fast.tw5922543585797464074 : Unit := ()
def PySem.W.Fast.tw15788736583602296542 : Unit := ()
def PySem.W.Fast.tw2042750598253410239 : Unit := ()
def PySem.W.Fast.tw6526757290274037568 : Unit := ()
def PySem.W.Fast.tw85079535613458209 : Unit := ()
def PySem.W.Fast.tw4601630960430319416 : Unit := ()
def PySem.W.Fast.tw9275921323070493146 : Unit := ()
def PySem.W.Fast.tw10249507409754025604 : Unit := ()
def PySem.W.Fast.tw17613997609353185315 : Unit := ()
def PySem.W.Fast.tw10647789706091316675 : Unit := ()
def PySem.W.Fast.tw5478674259462142461 : Unit := ()
def PySem.W.Fast.tw4793265284358869705 : Unit := ()
def PySem.W.Fast.tw2195781284034773325 : Unit := ()
def PySem.W.Fast.tw7798557909206739241 : Unit := ()
def PySem.W.Fast.tw5951139762170504870 : Unit := ()
def PySem.W.Fast.tw15761706759701575608 : Unit := ()
def PySem.W.Fast.tw14022493549600899292 : Unit := ()
def PySem.W.Fast.tw7750799294832637833 : Unit := ()
def PySem.W.Fast.tw10972581878207613242 : Unit := ()
def PySem.W.Fast.tw9787342837236496643 : Unit := ()
def PySem.W.Fast.tw11442764562060065414 : Unit := ()
def PySem.W.Fast.tw9623727646502650732 : Unit := ()
def PySem.W.Fast.tw6317681280609847632 : Unit := ()
def PySem.W.Fast.tw5651007038089179377 : Unit := ()
def PySem.W.Fast.tw4714613431447161817 : Unit := ()
def PySem.W.Fast.tw6613284850257452486 : Unit := ()
def PySem.W.Fast.tw6908064332959822511 : Unit := ()
def PySem.W.Fast.tw1709019710813674189 : Unit := ()
def PySem.W.Fast.tw1878177795249973266 : Unit := ()
def PySem.W.Fast.tw10249494330857031201 : Unit := ()
def PySem.W.Fast.tw2096801200550958020 : Unit := ()
def PySem.W.Fast.tw8554980536872663468 : Unit := ()
def PySem.W.Fast.tw10652775127012031473 : Unit := ()
def PySem.W.Fast.tw10002003630567285523 : Unit := ()
def PySem.W.Fast.tw11984175658009142805 : Unit := ()
def PySem.W.Fast.tw15323069521536245473 : Unit := ()
def PySem.W.Fast.tw2970743920198400165 : Unit := ()
def PySem.W.Fast.tw15996610421364192546 : Unit := ()
def PySem.W.Fast.tw4633520560978130265 : Unit := ()
def PySem.W.Fast.tw13035107469330348648 : Unit := ()
def PySem.W.Fast.tw10179077647603755745 : Unit := ()
def PySem.W.Fast.tw13934819059581375210 : Unit := ()
def PySem.W.Fast.tw975545541401428631 : Unit := ()
def PySem.W.Fast.tw11721040787293502811 : Unit := ()
def PySem.W.Fast.tw906572747762980097 : Unit := ()
def PySem.W.Fast.tw9460247743099059938 : Unit := ()
def PySem.W.Fast.tw8117766255909103873 : Unit := ()
def PySem.W.Fast.tw15193090927088761692 : Unit := ()
def PySem.W.Fast.tw301335004609954618 : Unit := ()
def PySem.W.Fast.tw10475069944577090407 : Unit := ()
def PySem.W.Fast.tw15799897682860555287 : Unit := ()
def PySem.W.Fast.tw14557717466641744973 : Unit := ()
def PySem.W.Fast.tw18016845249393717782 : Unit := ()
def PySem.W.Fast.tw10562920400237977932 : Unit := ()
def PySem.W.Fast.tw14119890303626900808 : Unit := ()
def PySem.W.Fast.tw15019860960681618605 : Unit := ()
def PySem.W.Fast.tw4845560162199272296 : Unit := ()
def PySem.W.Fast.tw17929769767552819795 : Unit := ()
def PySem.W.Fast.tw6890502620632071569 : Unit := ()
def PySem.W.Fast.tw6681410216750791655 : Unit := ()
def PySem.W.Fast.tw3809117205668497648 : Unit := ()
def PySem.W.Fast.tw7763909550824149660 : Unit := ()
def PySem.W.Fast.tw14801482661541646146 : Unit := ()
def PySem.W.Fast.tw15510703863464777108 : Unit := ()
def PySem.W.Fast.tw13452991785716039888 : Unit := ()
def PySem.W.Fast.tw8133594766256406028 : Unit := ()
def PySem.W.Fast.tw17374385037057213446 : Unit := ()
def PySem.W.Fast.tw6365967154624806624 : Unit := ()
def PySem.W.Fast.tw8247706083173543974 : Unit := ()
def PySem.W.Fast.tw8647336237455536397 : Unit := ()
def PySem.W.Fast.tw14972786032923073441 : Unit := ()
def PySem.W.Fast.tw2876482221595093376 : Unit := ()
def PySem.W.Fast.tw9049006696998044891 : Unit := ()
def PySem.W.Fast.tw17971412681245868058 : Unit := ()
def PySem.W.Fast.tw2207008351069265150 : Unit := ()
def PySem.W.Fast.tw4159241369243983876 : Unit := ()
def PySem.W.Fast.tw1879171792068997004 : Unit := ()
def PySem.W.Fast.tw11170735536832326843 : Unit := ()
def PySem.W.Fast.tw16685048585782526914 : Unit := ()
def PySem.W.Fast.tw1761010162923851394 : Unit := ()
def PySem.W.Fast.tw3571194246593943832 : Unit := ()
def PySem.W.Fast.tw8891514131785728653 : Unit := ()
def PySem.W.Fast.tw12305562590763158899 : Unit := ()
def PySem.W.Fast.tw3108844163410192789 : Unit := ()
def PySem.W.Fast.tw9592842589429757770 : Unit := ()
def PySem.W.Fast.tw846035908343306477 : Unit := ()
def PySem.W.Fast.tw14206838316148631773 : Unit := ()
def PySem.W.Fast.tw17843425022072413257 : Unit := ()
def PySem.W.Fast.tw3585745621572696739 : Unit := ()
def PySem.W.Fast.tw16962277176878095094 : Unit := ()
def PySem.W.Fast.tw348243414835076686 : Unit := ()
def PySem.W.Fast.tw10791283346928374625 : Unit := ()
def PySem.W.Fast.tw17738012469617253608 : Unit := ()
def PySem.W.Fast.tw12729955265492479121 : Unit := ()
def PySem.W.Fast.tw9863828655096885032 : Unit := ()
def PySem.W.Fast.tw8206533052667393198 : Unit := ()
def PySem.W.Fast.tw7602927356254304235 : Unit := ()
def PySem.W.Fast.tw9328770602544937409 : Unit := ()
def PySem.W.Fast.tw9764192991826845158 : Unit := ()
def PySem.W.Fast.tw5797285621814022258 : Unit := ()
def PySem.W.Fast.tw5257033030689726487 : Unit := ()
def PySem.W.Fast.tw9125355200734688238 : Unit := ()
def PySem.W.Fast.tw6533113211068206770 : Unit := ()
def PySem.W.Fast.tw10516171664275320514 : Unit := ()
def PySem.W.Fast.tw9358553905330532428 : Unit := ()
def PySem.W.Fast.tw8211468681949665311 : Unit := ()
def PySem.W.Fast.tw17128288074678201966 : Unit := ()
def PySem.W.Fast.tw2499504676166126267 : Unit := ()
def PySem.W.Fast.tw10356434843482118234 : Unit := ()
def PySem.W.Fast.tw6447453645684861400 : Unit := ()
def PySem.W.Fast.tw2871750196012469824 : Unit := ()
def PySem.W.Fast.tw3826700004850216957 : Unit := ()
def PySem.W.Fast.tw18126873284078145033 : Unit := ()
def PySem.W.Fast.tw5009772212841019834 : Unit := ()
def PySem.W.Fast.tw3331891192368692510 : Unit := ()
def PySem.W.Fast.tw6007202605357109071 : Unit := ()
def PySem.W.Fast.tw13110214735379275395 : Unit := ()
def PySem.W.Fast.tw13494660308589735240 : Unit := ()
def PySem.W.Fast.tw2711902765333484179 : Unit := ()
def PySem.W.Fast.tw7091472087822778359 : Unit := ()
def PySem.W.Fast.tw5226323347533567746 : Unit := ()
def PySem.W.Fast.tw3760350853039503137 : Unit := ()
def PySem.W.Fast.tw1692325530389658570 : Unit := ()
def PySem.W.Fast.tw16936836436718800163 : Unit := ()
def PySem.W.Fast.tw10321738424976714671 : Unit := ()
def PySem.W.Fast.tw16402432738176970585 : Unit := ()
def PySem.W.Fast.tw13294792653882303265 : Unit := ()
def PySem.W.Fast.tw15778441729576658645 : Unit := ()
def PySem.W.Fast.tw8311750006085039993 : Unit := ()
def PySem.W.Fast.tw5803303921155177982 : Unit := ()
def PySem.W.Fast.tw12116444376469426233 : Unit := ()
def PySem.W.Fast.tw11436323767751328655 : Unit := ()
def PySem.W.Fast.tw17134716630281501988 : Unit := ()
def PySem.W.Fast.tw1141067344589193220 : Unit := ()
def PySem.W.Fast.tw3318287061026129770 : Unit := ()
def PySem.W.Fast.tw9249984516056188068 : Unit := ()
def PySem.W.Fast.tw14261807281635304317 : Unit := ()
def PySem.W.Fast.tw5047026050326770585 : Unit := ()
def PySem.W.Fast.tw8047156205309963679 : Unit := ()
def PySem.W.Fast.tw4754177558687044739 : Unit := ()
def PySem.W.Fast.tw14389903045004835072 : Unit := ()
def PySem.W.Fast.tw15424055237818318822 : Unit := ()
def PySem.W.Fast.tw3609656389800067468 : Unit := ()
def PySem.W.Fast.tw17275636464504066233 : Unit := ()
def PySem.W.Fast.tw16630271801119324512 : Unit := ()
def PySem.W.Fast.tw14480095149726999922 : Unit := ()
def PySem.W.Fast.tw11644947721112813126 : Unit := ()
def PySem.W.Fast.tw2230065904783648673 : Unit := ()
def PySem.W.Fast.tw12159155826730856791 : Unit := ()
def PySem.W.Fast.tw14967683010122507315 : Unit := ()
def PySem.W.Fast.tw7647272471912537861 : Unit := ()
def PySem.W.Fast.tw11334251522509515815 : Unit := ()
def PySem.W.Fast.tw15442081567325956542 : Unit := ()
def PySem.W.Fast.tw15020743674046842877 : Unit := ()
def PySem.W.Fast.tw3862651448466095291 : Unit := ()
def PySem.W.Fast.tw15734429380379588726 : Unit := ()
def PySem.W.Fast.tw5287444021155162409 : Unit := ()
def PySem.W.Fast.tw406004418499688430 : Unit := ()
def PySem.W.Fast.tw4783982631106844775 : Unit := ()
def PySem.W.Fast.tw1666788797615386092 : Unit := ()
def PySem.W.Fast.tw10340654813762821801 : Unit := ()
def PySem.W.Fast.tw9903793295427348137 : Unit := ()
def PySem.W.Fast.tw362717784296145284 : Unit := ()
def PySem.W.Fast.tw11929061376811703161 : Unit := ()
def PySem.W.Fast.tw9555566263093869505 : Unit := ()
def PySem.W.Fast.tw3509600391780726511 : Unit := ()
def PySem.W.Fast.tw13680745779579968960 : Unit := ()
def PySem.W.Fast.tw1996021027654965539 : Unit := ()
def PySem.W.Fast.tw7646112575840041692 : Unit := ()
def PySem.W.Fast.tw16831218336272885790 : Unit := ()
def PySem.W.Fast.tw14076177660577672670 : Unit := ()
def PySem.W.Fast.tw16641342115885157776 : Unit := ()
def PySem.W.Fast.tw3220100354538974892 : Unit := ()
def PySem.W.Fast.tw12747264454220619337 : Unit := ()
def PySem.W.Fast.tw4716011305235246302 : Unit := ()
def PySem.W.Fast.tw2624537430608715595 : Unit := ()
def PySem.W.Fast.tw764246815866081264 : Unit := ()
def PySem.W.Fast.tw16692274536371354386 : Unit := ()
def PySem.W.Fast.tw10497505644037879134 : Unit := ()
def PySem.W.Fast.tw14303528190364555258 : Unit := ()
def PySem.W.Fast.tw13656663300359952520 : Unit := ()
def PySem.W.Fast.tw13434501221846512113 : Unit := ()
def PySem.W.Fast.tw3806075564572493265 : Unit := ()
def PySem.W.Fast.tw10673850435402839650 : Unit := ()
def PySem.W.Fast.tw6141048061535966572 : Unit := ()
def PySem.W.Fast.tw9887634653163044832 : Unit := ()
def PySem.W.Fast.tw18052351232879110439 : Unit := ()
def PySem.W.Fast.tw1736507097106626327 : Unit := ()
def PySem.W.Fast.tw2075614564250606789 : Unit := ()
def PySem.W.Fast.tw12248008870138203895 : Unit := ()
def PySem.W.Fast.tw16178837021388536437 : Unit := ()
def PySem.W.Fast.tw12358625244031152781 : Unit := ()
def PySem.W.Fast.tw13006390982327443618 : Unit := ()
def PySem.W.Fast.tw15810565915511441772 : Unit := ()
def PySem.W.Fast.tw10449030301580688028 : Unit := ()
def PySem.W.Fast.tw8425313005007596738 : Unit := ()
def PySem.W.Fast.tw6615859028789033472 : Unit := ()
def PySem.W.Fast.tw16320656432799641255 : Unit := ()
def PySem.W.Fast.tw3554634543142051294 : Unit := ()
def PySem.W.Fast.tw5215004661620723437 : Unit := ()
def PySem.W.Fast.tw13811447346711509097 : Unit := ()
def PySem.W.Fast.tw15101017963804433492 : Unit := ()
def PySem.W.Fast.tw6282054929541192856 : Unit := ()
def PySem.W.Fast.tw17094622930692133744 : Unit := ()
def PySem.W.Fast.tw17312086104877198246 : Unit := ()
def PySem.W.Fast.tw1313546781663205863 : Unit := ()
def PySem.W.Fast.tw17780367909024128961 : Unit := ()
def PySem.W.Fast.tw14175703453665916154 : Unit := ()
def PySem.W.Fast.tw17637141245158765685 : Unit := ()
def PySem.W.Fast.tw10853519587960171218 : Unit := ()
def PySem.W.Fast.tw11834672404056270761 : Unit := ()
def PySem.W.Fast.tw15285706050853941304 : Unit := ()
def PySem.W.Fast.tw13596546255485080778 : Unit := ()
def PySem.W.Fast.tw18030111605542754162 : Unit := ()
def PySem.W.Fast.tw7605935502338087926 : Unit := ()
def PySem.W.Fast.tw11039520610577276384 : Unit := ()
def PySem.W.Fast.tw10429860039882532492 : Unit := ()
def PySem.W.Fast.tw10841256928865911788 : Unit := ()
def PySem.W.Fast.tw8326883821204759044 : Unit := ()
def PySem.W.Fast.tw11758057502398327518 : Unit := ()
def PySem.W.Fast.tw5425043704118144094 : Unit := ()
def PySem.W.Fast.tw15939530543511403458 : Unit := ()
def PySem.W.Fast.tw6701417419282642179 : Unit := ()
def PySem.W.Fast.tw8201288777767350891 : Unit := ()
def PySem.W.Fast.tw4405271614531751515 : Unit := ()
def PySem.W.Fast.tw7147840576629505600 : Unit := ()
def PySem.W.Fast.tw3615086875718269290 : Unit := ()
def PySem.W.Fast.tw10797119146457484171 : Unit := ()
def PySem.W.Fast.tw14406655735590314392 : Unit := ()
def PySem.W.Fast.tw4419151728239333131 : Unit := ()
open PySem PySem.W PyProof.Rows
set_option maxRecDepth 100000 in
set_option maxHeartbeats 0 in
theorem PySem.Challenge.cw_tellscolumns_k07_whole_comes_back_holds : PySem.Challenge.rw_tellscolumns_k07_whole_comes_back.Holds := by
  w_on; o_law; k_head; (case hw => w_witness2)
  k_fill
  refine K07.walk (l := PySem.Challenge.rw_tellscolumns_k07_whole_comes_back) rfl rfl (fun w h Y => PySem.W.kIn_of Y) ?F
  case F =>
    intro w mg fa h KX G hmg
    refine' K07.all_mk KX G hmg ?aC_Back ?aC_Lost ?aC_Rules ?a_is_number ?l_is_number ?c_is_number ?k_is_number ?a_is_list ?l_is_list ?c_is_list ?k_is_list ?a_is_count ?l_is_count ?c_is_count ?k_is_count ?a_all_columns ?l_all_columns ?c_all_columns ?k_all_columns ?a_is_set ?l_is_set ?c_is_set ?k_is_set ?a_is_rule ?l_is_rule ?c_is_rule ?k_is_rule ?a_are_rules ?l_are_rules ?c_are_rules ?k_are_rules ?a_is_row ?l_is_row ?c_is_row ?k_is_row ?a_is_table ?l_is_table ?c_is_table ?k_is_table ?a_are_parts ?l_are_parts ?c_are_parts ?k_are_parts ?a_need_parts ?l_need_parts ?c_need_parts ?k_need_parts ?a_cells ?l_cells ?c_cells ?k_cells ?a_keeps ?l_keeps ?c_keeps ?k_keeps ?a_keeps_all ?l_keeps_all ?c_keeps_all ?k_keeps_all ?a_makes ?l_makes ?c_makes ?k_makes ?a_row_of ?l_row_of ?c_row_of ?k_row_of ?a_sheet_of ?l_sheet_of ?c_sheet_of ?k_sheet_of ?a_lowered ?l_lowered ?c_lowered ?k_lowered ?a_after_step ?l_after_step ?c_after_step ?k_after_step ?a_Back_init ?i_Back_init ?l_Back_init ?c_Back_init ?k_Back_init ?a_Back_shows ?i_Back_shows ?l_Back_shows ?c_Back_shows ?k_Back_shows ?a_Lost_init ?i_Lost_init ?l_Lost_init ?c_Lost_init ?k_Lost_init ?a_Lost_shows ?i_Lost_shows ?l_Lost_shows ?c_Lost_shows ?k_Lost_shows ?a_is_place ?l_is_place ?c_is_place ?k_is_place ?a_is_step ?l_is_step ?c_is_step ?k_is_step ?a_Rules_init ?i_Rules_init ?l_Rules_init ?c_Rules_init ?k_Rules_init ?a_Rules_rules ?i_Rules_rules ?l_Rules_rules ?c_Rules_rules ?k_Rules_rules ?a_comes_back ?l_comes_back ?c_comes_back ?k_comes_back ?a_steps_by ?l_steps_by ?c_steps_by ?k_steps_by ?a_law_cell_at ?l_law_cell_at ?c_law_cell_at ?k_law_cell_at ?a_law_draw ?l_law_draw ?c_law_draw ?k_law_draw ?a_law_set ?l_law_set ?c_law_set ?k_law_set ?a_law_pairs ?l_law_pairs ?c_law_pairs ?k_law_pairs ?a_law_like ?l_law_like ?c_law_like ?k_law_like ?a_law_keeps ?l_law_keeps ?c_law_keeps ?k_law_keeps ?a_law_numbers ?l_law_numbers ?c_law_numbers ?k_law_numbers ?a_law_parts ?l_law_parts ?c_law_parts ?k_law_parts ?a_law_sheet ?l_law_sheet ?c_law_sheet ?k_law_sheet ?a_law_stepped ?l_law_stepped ?c_law_stepped ?k_law_stepped ?a_law_back ?l_law_back ?c_law_back ?k_law_back ?a_law_lost ?l_law_lost ?c_law_lost ?k_law_lost ?a_law_right ?l_law_right ?c_law_right ?k_law_right ?a_law ?l_law ?c_law ?k_law ?pg_Back ?hd_Back ?po_Back ?sa_Back ?mk_Back ?kc_Back ?na_Back_steps ?pg_Lost ?hd_Lost ?po_Lost ?sa_Lost ?mk_Lost ?kc_Lost ?na_Lost_table ?na_Lost_row ?pg_Rules ?hd_Rules ?po_Rules ?sa_Rules ?mk_Rules ?kc_Rules ?na_Rules_columns ?na_Rules_pairs ?aC_Steps ?aC_Rows ?aC_Alike ?aC_Apart ?aC_Answer ?t1_Back ?t2_Back ?t3_Back ?t4_Back ?ki_Back_Back ?ki_Back_Steps ?ki_Back_Rows ?ki_Back_Alike ?ki_Back_Apart ?ki_Back_Answer ?ki_Back_Lost ?t1_Lost ?t2_Lost ?t3_Lost ?t4_Lost ?ki_Lost_Back ?ki_Lost_Steps ?ki_Lost_Rows ?ki_Lost_Alike ?ki_Lost_Apart ?ki_Lost_Answer ?ki_Lost_Lost ?z_all ?z_any ?z_bool ?z_enumerate ?z_int ?z_isinstance ?z_len ?z_list ?z_min ?z_range ?z_tuple ?g_MOST_COLUMNS ?g_MOST_RULES ?g_MOST_ROWS ?g_MOST_NUMBER ?g_MOST_PARTS
    (case aC_Back => k_is)
    (case aC_Lost => k_is)
    (case aC_Rules => k_is)
    (case a_is_number => k_is)
    (case l_is_number => k_is)
    (case c_is_number => k_is)
    (case k_is_number => k_is)
    (case a_is_list => k_is)
    (case l_is_list => k_is)
    (case c_is_list => k_is)
    (case k_is_list => k_is)
    (case a_is_count => k_is)
    (case l_is_count => k_is)
    (case c_is_count => k_is)
    (case k_is_count => k_is)
    (case a_all_columns => k_is)
    (case l_all_columns => k_is)
    (case c_all_columns => k_is)
    (case k_all_columns => k_is)
    (case a_is_set => k_is)
    (case l_is_set => k_is)
    (case c_is_set => k_is)
    (case k_is_set => k_is)
    (case a_is_rule => k_is)
    (case l_is_rule => k_is)
    (case c_is_rule => k_is)
    (case k_is_rule => k_is)
    (case a_are_rules => k_is)
    (case l_are_rules => k_is)
    (case c_are_rules => k_is)
    (case k_are_rules => k_is)
    (case a_is_row => k_is)
    (case l_is_row => k_is)
    (case c_is_row => k_is)
    (case k_is_row => k_is)
    (case a_is_table => k_is)
    (case l_is_table => k_is)
    (case c_is_table => k_is)
    (case k_is_table => k_is)
    (case a_are_parts => k_is)
    (case l_are_parts => k_is)
    (case c_are_parts => k_is)
    (case k_are_parts => k_is)
    (case a_need_parts => k_is)
    (case l_need_parts => k_is)
    (case c_need_parts => k_is)
    (case k_need_parts => k_is)
    (case a_cells => k_is)
    (case l_cells => k_is)
    (case c_cells => k_is)
    (case k_cells => k_is)
    (case a_keeps => k_is)
    (case l_keeps => k_is)
    (case c_keeps => k_is)
    (case k_keeps => k_is)
    (case a_keeps_all => k_is)
    (case l_keeps_all => k_is)
    (case c_keeps_all => k_is)
    (case k_keeps_all => k_is)
    (case a_makes => k_is)
    (case l_makes => k_is)
    (case c_makes => k_is)
    (case k_makes => k_is)
    (case a_row_of => k_is)
    (case l_row_of => k_is)
    (case c_row_of => k_is)
    (case k_row_of => k_is)
    (case a_sheet_of => k_is)
    (case l_sheet_of => k_is)
    (case c_sheet_of => k_is)
    (case k_sheet_of => k_is)
    (case a_lowered => k_is)
    (case l_lowered => k_is)
    (case c_lowered => k_is)
    (case k_lowered => k_is)
    (case a_after_step => k_is)
    (case l_after_step => k_is)
    (case c_after_step => k_is)
    (case k_after_step => k_is)
    (case a_Back_init => k_is)
    (case i_Back_init => k_is)
    (case l_Back_init => k_is)
    (case c_Back_init => k_is)
    (case k_Back_init => k_is)
    (case a_Back_shows => k_is)
    (case i_Back_shows => k_is)
    (case l_Back_shows => k_is)
    (case c_Back_shows => k_is)
    (case k_Back_shows => k_is)
    (case a_Lost_init => k_is)
    (case i_Lost_init => k_is)
    (case l_Lost_init => k_is)
    (case c_Lost_init => k_is)
    (case k_Lost_init => k_is)
    (case a_Lost_shows => k_is)
    (case i_Lost_shows => k_is)
    (case l_Lost_shows => k_is)
    (case c_Lost_shows => k_is)
    (case k_Lost_shows => k_is)
    (case a_is_place => k_is)
    (case l_is_place => k_is)
    (case c_is_place => k_is)
    (case k_is_place => k_is)
    (case a_is_step => k_is)
    (case l_is_step => k_is)
    (case c_is_step => k_is)
    (case k_is_step => k_is)
    (case a_Rules_init => k_is)
    (case i_Rules_init => k_is)
    (case l_Rules_init => k_is)
    (case c_Rules_init => k_is)
    (case k_Rules_init => k_is)
    (case a_Rules_rules => k_is)
    (case i_Rules_rules => k_is)
    (case l_Rules_rules => k_is)
    (case c_Rules_rules => k_is)
    (case k_Rules_rules => k_is)
    (case a_comes_back => k_is)
    (case l_comes_back => k_is)
    (case c_comes_back => k_is)
    (case k_comes_back => k_is)
    (case a_steps_by => k_is)
    (case l_steps_by => k_is)
    (case c_steps_by => k_is)
    (case k_steps_by => k_is)
    (case a_law_cell_at => k_is)
    (case l_law_cell_at => k_is)
    (case c_law_cell_at => k_is)
    (case k_law_cell_at => k_is)
    (case a_law_draw => k_is)
    (case l_law_draw => k_is)
    (case c_law_draw => k_is)
    (case k_law_draw => k_is)
    (case a_law_set => k_is)
    (case l_law_set => k_is)
    (case c_law_set => k_is)
    (case k_law_set => k_is)
    (case a_law_pairs => k_is)
    (case l_law_pairs => k_is)
    (case c_law_pairs => k_is)
    (case k_law_pairs => k_is)
    (case a_law_like => k_is)
    (case l_law_like => k_is)
    (case c_law_like => k_is)
    (case k_law_like => k_is)
    (case a_law_keeps => k_is)
    (case l_law_keeps => k_is)
    (case c_law_keeps => k_is)
    (case k_law_keeps => k_is)
    (case a_law_numbers => k_is)
    (case l_law_numbers => k_is)
    (case c_law_numbers => k_is)
    (case k_law_numbers => k_is)
    (case a_law_parts => k_is)
    (case l_law_parts => k_is)
    (case c_law_parts => k_is)
    (case k_law_parts => k_is)
    (case a_law_sheet => k_is)
    (case l_law_sheet => k_is)
    (case c_law_sheet => k_is)
    (case k_law_sheet => k_is)
    (case a_law_stepped => k_is)
    (case l_law_stepped => k_is)
    (case c_law_stepped => k_is)
    (case k_law_stepped => k_is)
    (case a_law_back => k_is)
    (case l_law_back => k_is)
    (case c_law_back => k_is)
    (case k_law_back => k_is)
    (case a_law_lost => k_is)
    (case l_law_lost => k_is)
    (case c_law_lost => k_is)
    (case k_law_lost => k_is)
    (case a_law_right => k_is)
    (case l_law_right => k_is)
    (case c_law_right => k_is)
    (case k_law_right => k_is)
    (case a_law => k_is)
    (case l_law => k_is)
    (case c_law => k_is)
    (case k_law => k_is)
    (case pg_Back => k_is)
    (case hd_Back => k_is)
    (case po_Back => k_is)
    (case sa_Back => k_is)
    (case mk_Back => k_is)
    (case kc_Back => k_is)
    (case na_Back_steps => k_is)
    (case pg_Lost => k_is)
    (case hd_Lost => k_is)
    (case po_Lost => k_is)
    (case sa_Lost => k_is)
    (case mk_Lost => k_is)
    (case kc_Lost => k_is)
    (case na_Lost_table => k_is)
    (case na_Lost_row => k_is)
    (case pg_Rules => k_is)
    (case hd_Rules => k_is)
    (case po_Rules => k_is)
    (case sa_Rules => k_is)
    (case mk_Rules => k_is)
    (case kc_Rules => k_is)
    (case na_Rules_columns => k_is)
    (case na_Rules_pairs => k_is)
    (case aC_Steps => k_is)
    (case aC_Rows => k_is)
    (case aC_Alike => k_is)
    (case aC_Apart => k_is)
    (case aC_Answer => k_is)
    (case t1_Back => k_is)
    (case t2_Back => k_is)
    (case t3_Back => k_is)
    (case t4_Back => k_is)
    (case ki_Back_Back => kit_is)
    (case ki_Back_Steps => kit_is)
    (case ki_Back_Rows => kit_is)
    (case ki_Back_Alike => kit_is)
    (case ki_Back_Apart => kit_is)
    (case ki_Back_Answer => kit_is)
    (case ki_Back_Lost => kit_is)
    (case t1_Lost => k_is)
    (case t2_Lost => k_is)
    (case t3_Lost => k_is)
    (case t4_Lost => k_is)
    (case ki_Lost_Back => kit_is)
    (case ki_Lost_Steps => kit_is)
    (case ki_Lost_Rows => kit_is)
    (case ki_Lost_Alike => kit_is)
    (case ki_Lost_Apart => kit_is)
    (case ki_Lost_Answer => kit_is)
    (case ki_Lost_Lost => kit_is)
    (case z_all => k_is)
    (case z_any => k_is)
    (case z_bool => k_is)
    (case z_enumerate => k_is)
    (case z_int => k_is)
    (case z_isinstance => k_is)
    (case z_len => k_is)
    (case z_list => k_is)
    (case z_min => k_is)
    (case z_range => k_is)
    (case z_tuple => k_is)
    (case g_MOST_COLUMNS => k_is)
    (case g_MOST_RULES => k_is)
    (case g_MOST_ROWS => k_is)
    (case g_MOST_NUMBER => k_is)
    (case g_MOST_PARTS => k_is)

