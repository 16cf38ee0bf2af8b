import PyProof.Rows.All
import Wide.All
import OpenK.AllK
import Wide.FinOn
import Lean
import PyProof.EqAt
import PyProof.EqKinds
import PyProof.TupleCall
import PySem.Challenge.RW_tellscolumns_k06_tables
import PyProof.ZipIter
import PyProof.Rows.SetFrom
import PyProof.Rows.SortShell
import PyProof.CollectIter
import PyProof.Rows.SortWalk
set_option Elab.async false
set_option linter.all false
set_option maxRecDepth 100000
/-! THE HAND LAYER, for ints, bools, texts, own classes, LISTS and tuples (index, slices, in, append, pop ..), calls, loops. Paste it whole ahead of your own text; what your proof does not reach may be deleted. -/
namespace L2
open PySem PySem.Spec PyProof.Rows

/-- a key: an int or a str -/
abbrev Key := Sum Int Str
def keyIs : Key → Value → Bool
  | .inl k, v => Value.isInt k v
  | .inr x, v => Value.isStrOf x v
def keyH (w : World) : Key → Int
  | .inl k => hashInt k
  | .inr x => hashStr w x
theorem keyIs_shape : ∀ {k : Key} {v : Value}, keyIs k v = true → (∃ i t, k = Sum.inl i ∧ v = Value.int i t) ∨ (∃ x t, k = Sum.inr x ∧ v = Value.str x t)
  | .inl i, v, h => by
    obtain ⟨t, e⟩ := Value.isInt_shape (k := i) (v := v) h
    exact .inl ⟨i, t, rfl, e⟩
  | .inr x, v, h => by
    obtain ⟨t, e⟩ := Value.isStrOf_shape (x := x) (v := v) h
    exact .inr ⟨x, t, rfl, e⟩
theorem keyIs_int (i : Int) (t : Tok) : keyIs (.inl i) (.int i t) = true := by simp [keyIs, Value.isInt]
theorem keyIs_str (x : Str) (t : Tok) : keyIs (.inr x) (.str x t) = true := by simp [keyIs, Value.isStrOf]
theorem key_ll (a b : Int) : decide ((Sum.inl a : Key) = Sum.inl b) = (a == b) := by
  by_cases e : a = b
  · subst e; simp
  · have h : ¬ (Sum.inl a : Key) = Sum.inl b := fun q => e (Sum.inl.inj q)
    rw [decide_eq_false h]
    exact (beq_eq_false_iff_ne.mpr e).symm
theorem key_rr (a b : Str) : decide ((Sum.inr a : Key) = Sum.inr b) = decide (a = b) := by
  by_cases e : a = b
  · subst e; simp
  · have h : ¬ (Sum.inr a : Key) = Sum.inr b := fun q => e (Sum.inr.inj q)
    rw [decide_eq_false h, decide_eq_false e]
theorem key_lr (a : Int) (b : Str) : decide ((Sum.inl a : Key) = Sum.inr b) = false := decide_eq_false (fun q => nomatch q)
theorem key_rl (a : Str) (b : Int) : decide ((Sum.inr a : Key) = Sum.inl b) = false := decide_eq_false (fun q => nomatch q)

def mixKind (prog : Program) (w : World) : PySem.KeyKind prog w Key where
  is := keyIs
  hash := keyH w
  inj := fun v a b ha hb => by
    rcases keyIs_shape ha with ⟨i, t, rfl, rfl⟩ | ⟨x, t, rfl, rfl⟩
    · rcases keyIs_shape hb with ⟨j, u, rfl, e⟩ | ⟨y, u, rfl, e⟩
      · injection e with e1 _; rw [e1]
      · exact nomatch e
    · rcases keyIs_shape hb with ⟨j, u, rfl, e⟩ | ⟨y, u, rfl, e⟩
      · exact nomatch e
      · injection e with e1 _; rw [e1]
  byValue := fun k v h => by
    rcases keyIs_shape h with ⟨i, t, rfl, rfl⟩ | ⟨x, t, rfl, rfl⟩ <;> rfl
  pyHash := fun hv h => by
    rcases keyIs_shape hv with ⟨i, t, rfl, rfl⟩ | ⟨x, t, rfl, rfl⟩
    · exact wpAny_pyHash_int h
    · exact wpAny_pyHash_str h
  eqBool := fun hu hv h => by
    rcases keyIs_shape hu with ⟨i, t, rfl, rfl⟩ | ⟨x, t, rfl, rfl⟩
    · rcases keyIs_shape hv with ⟨j, u, rfl, rfl⟩ | ⟨y, u, rfl, rfl⟩
      · rw [key_ll] at h; exact wpAny_eqBool_int h
      · rw [key_lr] at h; exact SeqAt.EqAt.int_str i t y u _ _ _ _ h
    · rcases keyIs_shape hv with ⟨j, u, rfl, rfl⟩ | ⟨y, u, rfl, rfl⟩
      · rw [key_rl] at h; exact SeqAt.EqAt.str_int x t j u _ _ _ _ h
      · rw [key_rr] at h; exact wpAny_eqBool_str h
  «strs» := fun k x t v h => by
    rcases keyIs_shape h with ⟨i, u, rfl, e⟩ | ⟨y, u, rfl, e⟩
    · exact nomatch e
    · injection e with e1 _
      subst e1
      cases v <;> rfl

theorem mixKind_int (prog : Program) (w : World) (i : Int) (t : Tok) : (mixKind prog w).is (.inl i) (.int i t) = true := keyIs_int i t
theorem mixKind_str (prog : Program) (w : World) (x : Str) (t : Tok) : (mixKind prog w).is (.inr x) (.str x t) = true := keyIs_str x t
end L2

namespace L2
open PySem PySem.Spec PyProof.Rows

/-- a value, without the heap -/
inductive V where
  | non | bl (b : Bool) | int (i : Int) | str (x : Str) | byt (b : Array UInt8) | flt (b : UInt64) | ref (a : Addr) | ty (n : String)
  deriving DecidableEq

def RelV : V → Value → Prop
  | .non, u => u = Value.none
  | .bl b, u => u = Value.bool b
  | .int i, u => ∃ t, u = Value.int i t
  | .str x, u => ∃ t, u = Value.str x t
  | .byt b, u => ∃ t, u = Value.bytes b t
  | .flt b, u => ∃ t, u = Value.float b t
  | .ref a, u => u = Value.ref a
  | .ty n, u => u = Value.type n

abbrev Vals : List V → List Value → Prop := Paired RelV
theorem Vals.length {xs : List V} {us : List Value} (r : Vals xs us) : xs.length = us.length := Paired.length r
theorem Vals.get : ∀ {xs : List V} {us : List Value} {i : Nat} {x : V}, Vals xs us → xs[i]? = some x → ∃ u, us[i]? = some u ∧ RelV x u
  | _, _, _, _, .nil, e => by simp at e
  | _, _, 0, _, .cons r _, e => by simp at e; subst e; exact ⟨_, rfl, r⟩
  | _, _, i + 1, x, .cons _ t, e => by
    obtain ⟨u, h1, h2⟩ := Vals.get (i := i) (x := x) t (by simpa using e)
    exact ⟨u, by simpa using h1, h2⟩
theorem Vals.append : ∀ {xs ys : List V} {us ws : List Value}, Vals xs us → Vals ys ws → Vals (xs ++ ys) (us ++ ws)
  | _, _, _, _, .nil, s => s
  | _, _, _, _, .cons r t, s => .cons r (Vals.append t s)

def RelO : Option V → Option Value → Prop
  | some v, some u => RelV v u
  | none, none => True
  | _, _ => False
def KV {κ : Type} : List (κ × V) → List (κ × Value) → Prop := Paired fun (p : κ × V) (q : κ × Value) => p.1 = q.1 ∧ RelV p.2 q.2

/-- a key of a dict (00_mix): an int or a text -/
def kV : Key → V
  | .inl i => .int i
  | .inr x => .str x

/-- what stands at a tracked address -/
inductive HO where
  /-- a list -/
  | lst (xs : List V)
  /-- a tuple (never changes) -/
  | tup (xs : List V)
  /-- a dict whose keys are ints and texts; one whose keys are tuples of ints and texts (the empty one is both) -/
  | dK (kvs : List (Key × V)) | dT (kvs : List (List Key × V))
  /-- a set of ints: its members, its size -/
  | set (S : Int → Bool) (n : Nat)
  /-- an instance of the class at C, its dict at dx, its attributes -/
  | ins (C dx : Addr) (fs : List (Str × V))
  /-- the dict of the instance at x -/
  | own (x : Addr)
  /-- the dict of an exception -/
  | xd (fs : List (Str × V))
  /-- a bound method, f of x -/
  | met (f x : Addr)
  /-- a range object lo, lo + 1, .. below hi -/
  | rng (lo hi : Int)
  /-- a thing that is known to the object (the script; a dict while a loop walks it): read, never written while it is so -/
  | frz (o : Obj) (u : HO)
  /-- a code object's table -/
  | tbl (ps : Array Value)
  /-- any other thing, by what is true of its one object (a def of one's own: SetO a S n := HO.ext fun h => ..) -/
  | ext (φ : Heap → Prop)

abbrev Hp := Addr → Option HO
def upd (H : Hp) (a : Addr) (o : HO) : Hp := fun b => if b = a then some o else H b
theorem upd_same {H : Hp} {a : Addr} {o : HO} : upd H a o a = some o := by unfold upd; rw [if_pos rfl]
theorem upd_ne {H : Hp} {a b : Addr} {o : HO} (h : b ≠ a) : upd H a o b = H b := by unfold upd; rw [if_neg h]
/-- two objects of different content stand apart -/
theorem ne_of {H : Hp} {a b : Addr} {o u : HO} (h : H a = some o) (h' : H b = some u) (d : o ≠ u) : a ≠ b := by
  intro e; subst e; rw [h] at h'; exact d (Option.some.inj h')
theorem ne_of_none {H : Hp} {a b : Addr} {o : HO} (h : H a = some o) (h' : H b = none) : a ≠ b := by
  intro e; subst e; rw [h] at h'; cases h'

section
variable (P : Program) (w : World)
def ObjOk (H : Hp) (h : Heap) (a : Addr) : HO → Prop
  | .lst xs => xs.length ≤ sizeLine ∧ ∃ (its : List Value) (n : Nat), Vals xs its ∧ h.get? a = some { cls := .type "list", data := .seq its.toArray n }
  | .tup xs => xs.length ≤ sizeLine ∧ ∃ its : List Value, Vals xs its ∧ IsTup h a its.toArray
  | .dK kvs => kvs.length ≤ sizeLine ∧ (a == sysModules) = false ∧ ∃ vs, KV kvs vs ∧ h.DictOf (mixKind P w) a vs
  | .dT kvs => kvs.length ≤ sizeLine ∧ (a == sysModules) = false ∧ ∃ xs : List (List Key × Addr × Value),
      Paired (fun (p : List Key × V) (q : List Key × Addr × Value) => p.1 = q.1 ∧ H q.2.1 = some (.tup (p.1.map kV)) ∧ RelV p.2 q.2.2) kvs xs ∧
      ∃ o es ep, h.get? a = some o ∧ o.ExactDict ∧ o.data = .dict es ep ∧ es.toList = xs.map (entryOfKey (tupleKind (mixKind P w))) ∧ (xs.map (·.1)).Nodup
  | .set S n => h.SetOf (intKind P w) a S n
  | .ins C dx fs => H dx = some (.own a) ∧ fs.length ≤ 1000 ∧ dx ≠ a ∧ h.get? a = some (PySem.W.instObj C dx) ∧
      ∃ mA, h.Ns1 dx mA ∧ (∀ f, RelO (fs.lookup f) (mA f)) ∧ PySem.Within mA (fs.map (·.1))
  | .own _ => ∃ o, h.get? a = some o
  | .xd fs => ∃ mA, h.Ns1 a mA ∧ ∀ f, RelO (fs.lookup f) (mA f)
  | .rng lo hi => ∃ t u v, h.get? a = some { cls := .type "range", data := .fields #[.int lo t, .int hi u, .int 1 v] }
  | .frz o u => h.get? a = some o ∧ ObjOk H h a u
  | .tbl ps => h.get? a = some { cls := .none, data := .fields ps }
  | .met f x => h.get? a = some (PySem.W.methodObj (.ref f) (.ref x))
  | .ext φ => φ h ∧ (∃ o, h.get? a = some o) ∧ ∀ h1 h2 : Heap, φ h1 → (∀ o, h1.get? a = some o → h2.get? a = some o) → φ h2
/-- the abstract heap is held -/
def HOk (H : Hp) (h : Heap) : Prop := ∀ a o, H a = some o → ObjOk P w H h a o
end

section
variable {P : Program} {w : World} {H H' : Hp} {h h' : Heap} {a : Addr} {o : HO}
theorem ObjOk.lt (x : ObjOk P w H h a o) : a < h.objs.size := by
  cases o with
  | lst xs => obtain ⟨_, _, _, _, e⟩ := x; exact Heap.lt_size e
  | tup xs => obtain ⟨_, _, _, p⟩ := x; exact p.lt
  | dK kvs => obtain ⟨_, _, _, _, o, _, _, e, _⟩ := x; exact Heap.lt_size e
  | dT kvs => obtain ⟨_, _, _, _, o, _, _, e, _⟩ := x; exact Heap.lt_size e
  | set S n => obtain ⟨o, _, _, _, e, _⟩ := x; exact Heap.lt_size e
  | ins C dx fs => obtain ⟨_, _, _, e, _⟩ := x; exact Heap.lt_size e
  | own y => obtain ⟨_, e⟩ := x; exact Heap.lt_size e
  | xd fs => obtain ⟨_, ⟨_, _, _, e, _⟩, _⟩ := x; exact Heap.lt_size e
  | rng lo hi => obtain ⟨_, _, _, e⟩ := x; exact Heap.lt_size e
  | frz ob u => obtain ⟨e, _⟩ := x; exact Heap.lt_size e
  | tbl ps => exact Heap.lt_size (show h.get? a = some _ from x)
  | met f y => exact Heap.lt_size (show h.get? a = some _ from x)
  | ext φ => obtain ⟨_, ⟨_, e⟩, _⟩ := x; exact Heap.lt_size e
theorem Paired.mapP {α β : Type} {F G : α → β → Prop} : ∀ {l₁ : List α} {l₂ : List β}, Paired F l₁ l₂ → (∀ a b, F a b → G a b) → Paired G l₁ l₂
  | _, _, .nil, _ => .nil
  | _, _, .cons r t, f => .cons (f _ _ r) (Paired.mapP t f)
/-- what an object's description leans on: its own object, its own dict, the tuples -/
theorem ObjOk.stay (x : ObjOk P w H h a o) (k : ∀ b u, (b = a ∨ H b = some (.own a)) → h.get? b = some u → h'.get? b = some u)
    (ho : ∀ b, H b = some (.own a) → H' b = some (.own a)) (ht : ∀ b xs, H b = some (.tup xs) → H' b = some (.tup xs)) : ObjOk P w H' h' a o := by
  induction o with
  | lst xs => obtain ⟨z, its, n, r, e⟩ := x; exact ⟨z, its, n, r, k _ _ (.inl rfl) e⟩
  | tup xs => obtain ⟨z, its, r, ob, e, c⟩ := x; exact ⟨z, its, r, ob, k _ _ (.inl rfl) e, c⟩
  | dK kvs => obtain ⟨z, y, vs, r, ob, es, ep, e, c⟩ := x; exact ⟨z, y, vs, r, ob, es, ep, k _ _ (.inl rfl) e, c⟩
  | dT kvs =>
    obtain ⟨z, y, xs, r, ob, es, ep, e, c⟩ := x
    exact ⟨z, y, xs, Paired.mapP r fun p q z => ⟨z.1, ht _ _ z.2.1, z.2.2⟩, ob, es, ep, k _ _ (.inl rfl) e, c⟩
  | set S n => obtain ⟨ob, es, ep, t, e, c⟩ := x; exact ⟨ob, es, ep, t, k _ _ (.inl rfl) e, c⟩
  | ins C dx fs =>
    obtain ⟨d, z, ne, e, mA, ⟨od, es, ep, e2, c⟩, r⟩ := x
    exact ⟨ho _ d, z, ne, k _ _ (.inl rfl) e, mA, ⟨od, es, ep, k _ _ (.inr d) e2, c⟩, r⟩
  | own y => obtain ⟨ob, e⟩ := x; exact ⟨ob, k _ _ (.inl rfl) e⟩
  | xd fs => obtain ⟨mA, ⟨od, es, ep, e, c⟩, r⟩ := x; exact ⟨mA, ⟨od, es, ep, k _ _ (.inl rfl) e, c⟩, r⟩
  | rng lo hi => obtain ⟨t, u, v, e⟩ := x; exact ⟨t, u, v, k _ _ (.inl rfl) e⟩
  | frz ob u ih => obtain ⟨e, q⟩ := x; exact ⟨k _ _ (.inl rfl) e, ih q⟩
  | tbl ps =>
    have e : h.get? a = some { cls := .none, data := .fields ps } := x
    show h'.get? a = some { cls := .none, data := .fields ps }
    exact k a _ (.inl rfl) e
  | met f y =>
    have e : h.get? a = some (PySem.W.methodObj (.ref f) (.ref y)) := x
    show h'.get? a = some (PySem.W.methodObj (.ref f) (.ref y))
    exact k a _ (.inl rfl) e
  | ext φ => obtain ⟨p, ⟨o, e⟩, st⟩ := x; exact ⟨st _ _ p fun o q => k _ _ (.inl rfl) q, ⟨o, k _ _ (.inl rfl) e⟩, st⟩
theorem HOk.lt (x : HOk P w H h) (e : H a = some o) : a < h.objs.size := (x a o e).lt
theorem HOk.fresh (x : HOk P w H h) (e : h.objs.size ≤ a) : H a = none := by
  cases q : H a with
  | none => rfl
  | some u => exact absurd (Nat.lt_of_lt_of_le (x.lt q) e) (Nat.lt_irrefl _)
/-- every object of the heap is kept -/
theorem HOk.kept (x : HOk P w H h) (k : ∀ b u, h.get? b = some u → h'.get? b = some u) : HOk P w H h' := fun a o e =>
  (x a o e).stay (fun b u _ q => k b u q) (fun _ q => q) fun _ _ q => q
/-- a new object is laid and tracked -/
theorem HOk.laid (x : HOk P w H h) (k : ∀ b u, h.get? b = some u → h'.get? b = some u) (hp : h.objs.size ≤ a) (new : ObjOk P w (upd H a o) h' a o) : HOk P w (upd H a o) h' := fun b u e => by
  have hn := x.fresh hp
  by_cases hb : b = a
  · subst hb; rw [upd_same] at e; cases e; exact new
  · rw [upd_ne hb] at e
    exact (x b u e).stay (fun c v _ q => k c v q) (fun c q => by rw [upd_ne (ne_of_none q hn)]; exact q) fun c xs q => by rw [upd_ne (ne_of_none q hn)]; exact q
end

/-- what may be read as u: it is u, or a known u -/
def Rd (H : Hp) (a : Addr) (u : HO) : Prop := H a = some u ∨ ∃ o, H a = some (.frz o u)
theorem Rd.ok {P : Program} {w : World} {H : Hp} {h : Heap} {a : Addr} {u : HO} (r : Rd H a u) (x : HOk P w H h) : ObjOk P w H h a u := by
  rcases r with r | ⟨o, r⟩
  · exact x a u r
  · obtain ⟨_, q⟩ := x a _ r
    exact q
/-- what may be written -/
def Mut : Option HO → Prop
  | some (.lst _) => True
  | some (.dK _) => True
  | some (.dT _) => True
  | some (.set _ _) => True
  | some (.ins _ _ _) => True
  | some (.ext _) => True
  | _ => False
section
variable {P : Program} {w : World} {H : Hp} {h h' : Heap} {x e : Addr} {o' : HO}
/-- the object at e is changed: x itself, or the dict of the instance x -/
theorem HOk.write (ok : HOk P w H h) (mu : Mut (H x)) (he : e = x ∨ H e = some (.own x)) (k : ∀ b u, b ≠ e → h.get? b = some u → h'.get? b = some u) (heo : ∃ u, h'.get? e = some u)
    (new : ObjOk P w (upd H x o') h' x o') : HOk P w (upd H x o') h' := fun b u q => by
  have nown : ∀ c y, H c = some (.own y) → c ≠ x := fun c y r z => by subst z; rw [r] at mu; exact mu
  have ntup : ∀ c xs, H c = some (.tup xs) → c ≠ x := fun c xs r z => by subst z; rw [r] at mu; exact mu
  by_cases hb : b = x
  · subst hb; rw [upd_same] at q; cases q; exact new
  · rw [upd_ne hb] at q
    by_cases hbe : b = e
    · have q' : H b = some (.own x) := by
        rcases he with z | z
        · exact absurd (hbe.trans z) hb
        · rw [hbe]; exact z
      rw [q] at q'; cases q'
      obtain ⟨v, hv⟩ := heo
      exact ⟨v, by rw [hbe]; exact hv⟩
    · refine (ok b u q).stay (fun c v hc r => k c v ?_ r) (fun c r => by rw [upd_ne (nown c b r)]; exact r) fun c xs r => by rw [upd_ne (ntup c xs r)]; exact r
      rcases hc with rfl | hc
      · exact hbe
      · rintro rfl
        rcases he with z | z
        · exact nown c b hc z
        · rw [hc] at z; cases z; exact hb rfl
end

/-! ### kept unless tracked; of the frames at fs (the callers') the slots may change (an exception that passes writes there); of the records at ex (iterators) nothing is said -/
structure Un (fs ex : List Addr) (H H' : Hp) (h h' : Heap) : Prop where
  keep : ∀ b o, h.get? b = some o → H b = none → b ∉ fs → b ∉ ex → h'.get? b = some o
  slot : ∀ b o, h.get? b = some o → H b = none → b ∈ fs → b ∉ ex → ∃ sl, h'.get? b = some { o with slots := sl }
  free : ∀ b o, h.get? b = some o → H b = none → b ∉ ex → H' b = none
  there : ∀ b o, h.get? b = some o → b ∉ ex → ∃ o', h'.get? b = some o'
  tups : ∀ b xs, H b = some (.tup xs) → H' b = some (.tup xs)
  frzs : ∀ b o u, H b = some (.frz o u) → H' b = some (.frz o u)
  tbls : ∀ b ps, H b = some (.tbl ps) → ∃ more, H' b = some (.tbl (ps ++ more))
section
variable {fs fs' ex ex' : List Addr} {H H1 H2 : Hp} {h h1 h2 h' : Heap} {a x e : Addr} {o : HO}
theorem Un.any (u : Un fs ex H H1 h h1) {b : Addr} {ob : Obj} (q : h.get? b = some ob) (n : H b = none) (hx : b ∉ ex) : ∃ sl, h1.get? b = some { ob with slots := sl } := by
  by_cases hb : b ∈ fs
  · exact u.slot b ob q n hb hx
  · exact ⟨ob.slots, u.keep b ob q n hb hx⟩
theorem Un.kept (k : ∀ b u, h.get? b = some u → h'.get? b = some u) : Un fs ex H H h h' :=
  ⟨fun b ob q _ _ _ => k b ob q, fun b ob q _ _ _ => ⟨ob.slots, k b ob q⟩, fun _ _ _ n _ => n, fun b ob q _ => ⟨ob, k b ob q⟩, fun _ _ q => q, fun _ _ _ q => q, fun _ ps q => ⟨#[], by rw [q]; simp⟩⟩
theorem Un.refl : Un fs ex H H h h := Un.kept fun _ _ q => q
theorem Un.laid (k : ∀ b u, h.get? b = some u → h'.get? b = some u) (hp : h.objs.size ≤ a) (hn : H a = none) : Un fs ex H (upd H a o) h h' where
  keep := fun b u q _ _ _ => k b u q
  slot := fun b u q _ _ _ => ⟨u.slots, k b u q⟩
  free := fun b u q n _ => by rw [upd_ne (Nat.ne_of_lt (Nat.lt_of_lt_of_le (Heap.lt_size q) hp))]; exact n
  there := fun b u q _ => ⟨u, k b u q⟩
  tups := fun b xs q => by rw [upd_ne (ne_of_none q hn)]; exact q
  frzs := fun b u xs q => by rw [upd_ne (ne_of_none q hn)]; exact q
  tbls := fun b ps q => ⟨#[], by rw [upd_ne (ne_of_none q hn), q]; simp⟩
theorem Un.write (mu : Mut (H x)) (he : e = x ∨ H e = some (.own x)) (k : ∀ b u, b ≠ e → h.get? b = some u → h'.get? b = some u) (heo : ∃ u, h'.get? e = some u) : Un fs ex H (upd H x o) h h' := by
  have hx : ∀ b, H b = none → b ≠ x := fun b n z => by subst z; rw [n] at mu; exact mu
  have hb : ∀ b, H b = none → b ≠ e := fun b n z => by
    subst z
    rcases he with r | r
    · exact hx b n r
    · rw [n] at r; cases r
  have hm : ∀ b u, H b = some u → ¬ Mut (some u) → b ≠ x := fun b u q nm z => by subst z; rw [q] at mu; exact nm mu
  refine ⟨fun b u q n _ _ => k b u (hb b n) q, fun b u q n _ _ => ⟨u.slots, k b u (hb b n) q⟩, fun b u q n _ => by rw [upd_ne (hx b n)]; exact n, fun b u q _ => ?_,
    fun b xs q => by rw [upd_ne (hm b _ q fun z => z)]; exact q, fun b u xs q => by rw [upd_ne (hm b _ q fun z => z)]; exact q, fun b ps q => ⟨#[], by rw [upd_ne (hm b _ q fun z => z), q]; simp⟩⟩
  by_cases hbe : b = e
  · subst hbe; exact heo
  · exact ⟨u, k b u hbe q⟩
end

/-! ### the heap without what is tracked -/
def trk (h : Heap) (H : Hp) : List Addr := (List.range h.objs.size).filter fun a => (H a).isSome
def hidT (h : Heap) (H : Hp) : Heap := PySem.W.hideAll h (trk h H)
theorem hidT_size (h : Heap) (H : Hp) : (hidT h H).objs.size = h.objs.size := PySem.W.hideAll_size _ _
theorem hidT_get {h : Heap} {H : Hp} {b : Addr} {o : Obj} (e : h.get? b = some o) (n : H b = none) : (hidT h H).get? b = some o :=
  PySem.W.hideAll_get _ e fun hm => by
    have q : (H b).isSome = true := (List.mem_filter.mp hm).2
    rw [n] at q; simp at q
theorem of_hidT {h : Heap} {H : Hp} {b : Addr} {o : Obj} (e : (hidT h H).get? b = some o) : h.get? b = some o ∧ H b = none := by
  have e' : h.get? b = some o := PySem.W.of_hideAll (trk h H) e
  refine ⟨e', ?_⟩
  cases q : H b with
  | none => rfl
  | some x =>
    have hm : b ∈ trk h H := List.mem_filter.mpr ⟨List.mem_range.mpr (Heap.lt_size e'), by simp [q]⟩
    have z : (hidT h H).get? b = none := PySem.W.hideAll_none (trk h H) hm
    rw [z] at e; cases e

/-! ### OpenK's ledger, filled with every new object but one -/
end L2

namespace L2
open PySem PySem.Spec PyProof.Rows

/-- the module's facts, over the base: the heap at the law's entry without what is tracked there -/
structure Mod (K : PySem.W.Frag) (mg : Str → Option Value) (base : Heap) : Prop where
  kin : K.In base
  glob : base.Ns mainGlobals mg
  blt : ∃ mb, base.Ns builtinsNs mb ∧ ∀ x : Str, x ≠ "__name__" → mb x = bootBuiltins x
  nolimit : base.NoLimit

/-- the context: a def's body (or a comprehension's block) running. base: fixed through the whole law; s₀, H₀: the entry; outer: the frames whose slots others may change (a def's callers); stack: all frames that run;
   ex: iterators that were made ahead of the entry and are walked here (a comprehension's); fn: the names whose cells were made at the entry (a def: all; a comprehension's block: its own); calm: not within an except suite; pn: pins that every state bears; xe: what is wanted of an exception that leaves the code -/
structure Cx where
  prog : Program
  w : World
  K : PySem.W.Frag
  mg : Str → Option Value
  base : Heap
  A : Around
  N : List Str
  s₀ : Shared
  H₀ : Hp
  env : Env
  outer : List Env
  stack : List Env
  ex : List Addr
  fn : Str → Bool
  calm : Bool
  pn : List (Addr × Obj)
  xe : Value → Shared → Prop
/-- the callers' frames -/
def frs (l : List Env) : List Addr := l.filterMap (·.frame)
abbrev Cx.fs (X : Cx) : List Addr := frs X.outer

def Vis (sc : Scope) (x : Str) : Prop := sc.names.lookup x = some .local ∨ sc.names.lookup x = some .cell ∨ sc.names.lookup x = some .free
def Loc (sc : Scope) (x : Str) : Prop := sc.names.lookup x = some .local ∨ sc.names.lookup x = some .cell
def Look (env : Env) (h : Heap) (m : Str → Option Value) (x : Str) (u : Value) : Prop :=
  (env.kindOf x = some .local ∧ m x = some u) ∨ ((env.kindOf x = some .cell ∨ env.kindOf x = some .free) ∧ ∃ c, env.cells.lookup x = some c ∧ h.IsCell c (some u))

structure Cx.Ok (X : Cx) : Prop where
  mod : Mod X.K X.mg X.base
  kind : X.env.scope.kind = .function
  glob : X.env.globals = mainGlobals
  blt : X.env.builtins = builtinsNs
  above : X.s₀.heap.objs.size ≤ X.env.locals
  inj : ∀ x y c, X.env.cells.lookup x = some c → X.env.cells.lookup y = some c → x = y
  has : ∀ x, (X.env.kindOf x = some .cell ∨ X.env.kindOf x = some .free) → ∃ c, X.env.cells.lookup x = some c
  cab : ∀ x c, X.fn x = true → X.env.cells.lookup x = some c → X.s₀.heap.objs.size ≤ c
  hd : X.calm = true → X.A.handled = none
  frames : X.A.frames = some X.stack
  stk : X.stack = X.outer ∨ (X.stack = X.env :: X.outer ∧ X.env.frame = some X.env.locals)
  exf : ∀ b ∈ X.ex, b ≠ X.env.locals ∧ ∀ x c, X.env.cells.lookup x = some c → c ≠ b
  bs : ∀ b o, X.base.get? b = some o → X.s₀.heap.get? b = some o ∧ X.H₀ b = none
  bsz : X.base.objs.size ≤ X.s₀.heap.objs.size
  noex : ∀ b o, X.base.get? b = some o → b ∉ X.ex
  exfs : ∀ b ∈ X.ex, b ∉ X.fs
  funs : X.s₀.heap.FunFrames X.base X.outer
  frf : ∀ b ∈ X.fs, X.H₀ b = none

structure Inv (X : Cx) (pins : List (Addr × Obj)) (σ : List (Option V)) (H : Hp) (s : Shared) : Prop where
  ok : X.Ok
  os : s.os = X.s₀.os
  bare : AllBare s.gens
  base : Un X.fs X.ex X.H₀ H X.s₀.heap s.heap
  loc : ∃ m, s.heap.Ns X.env.locals m ∧ ∀ (i : Nat) (x : Str) (v : V), X.N[i]? = some x → σ[i]? = some (some v) → Vis X.env.scope x → ∃ u, RelV v u ∧ Look X.env s.heap m x u
  cell : ∀ x c, X.env.cells.lookup x = some c → ∃ v, s.heap.IsCell c v
  free : H X.env.locals = none
  freeC : ∀ x c, X.env.cells.lookup x = some c → H c = none
  pin : ∀ p ∈ X.pn ++ pins, s.heap.get? p.1 = some p.2 ∧ H p.1 = none ∧ p.1 ≠ X.env.locals ∧ p.1 ∉ X.fs ∧ ∀ v, p.2.data ≠ .cell v
  hok : HOk X.prog X.w H s.heap
  len : σ.length = X.N.length

section
variable {X : Cx} {pins : List (Addr × Obj)} {σ : List (Option V)} {H H' : Hp} {s : Shared} {h' : Heap}

theorem Cx.Ok.nofr (ok : X.Ok) {b : Addr} {o : Obj} (e : X.base.get? b = some o) : b ∉ X.fs := fun hb => by
  have := (ok.funs.mem hb).1
  rw [e] at this; cases this
theorem Inv.bs (I : Inv X pins σ H s) : ∀ b o, X.base.get? b = some o → s.heap.get? b = some o ∧ H b = none := fun b o e =>
  ⟨I.base.keep b o (I.ok.bs b o e).1 (I.ok.bs b o e).2 (I.ok.nofr e) (I.ok.noex b o e), I.base.free b o (I.ok.bs b o e).1 (I.ok.bs b o e).2 (I.ok.noex b o e)⟩
theorem Inv.bk (I : Inv X pins σ H s) : ∀ b o, X.base.get? b = some o → s.heap.get? b = some o := fun b o e => (I.bs b o e).1
theorem Inv.mod (I : Inv X pins σ H s) : Mod X.K X.mg X.base := I.ok.mod
theorem Inv.kIn (I : Inv X pins σ H s) : X.K.In s.heap := I.ok.mod.kin.keeps I.bk
theorem Inv.lt (I : Inv X pins σ H s) : X.env.locals < s.heap.objs.size := let ⟨_, hn, _⟩ := I.loc; hn.lt
theorem Inv.sz (I : Inv X pins σ H s) : X.s₀.heap.objs.size ≤ s.heap.objs.size := Nat.le_trans I.ok.above (Nat.le_of_lt I.lt)
theorem Inv.nofs (I : Inv X pins σ H s) {a : Addr} (h : s.heap.objs.size ≤ a) : a ∉ X.fs := fun hb => by
  obtain ⟨_, o, ho, _⟩ := I.ok.funs.mem hb
  exact absurd (Nat.lt_of_lt_of_le (Heap.lt_size ho) (Nat.le_trans I.sz h)) (Nat.lt_irrefl _)
theorem Inv.cne (I : Inv X pins σ H s) : ∀ x c, X.env.cells.lookup x = some c → c ≠ X.env.locals := fun x c e z => by
  obtain ⟨v, o, ho, hd⟩ := I.cell x c e
  obtain ⟨m, ⟨o', es, ep, ho', hd', _⟩, _⟩ := I.loc
  rw [z, ho'] at ho; cases ho; rw [hd'] at hd; cases hd
theorem Inv.funs (I : Inv X pins σ H s) : s.heap.FunFrames X.base X.outer := by
  have all : ∀ (l : List Env), (∀ b ∈ frs l, b ∈ X.fs) → X.s₀.heap.FunFrames X.base l → s.heap.FunFrames X.base l := by
    intro l
    induction l with
    | nil => intro _ _; trivial
    | cons env r ih =>
      intro hs hl
      obtain ⟨hk, ⟨L, o, hf, hn, ho, hd⟩, hr⟩ := hl
      have hL : L ∈ X.fs := hs L (by unfold frs; rw [List.filterMap_cons, hf]; exact List.mem_cons_self)
      obtain ⟨sl, e⟩ := I.base.slot L o ho (I.ok.frf L hL) hL fun z => I.ok.exfs L z hL
      exact ⟨hk, ⟨L, _, hf, hn, e, hd⟩, ih (fun b hb => hs b (by unfold frs; rw [List.filterMap_cons, hf]; exact List.mem_cons_of_mem _ hb)) hr⟩
  exact all X.outer (fun _ hb => hb) I.ok.funs

/-- the frames that run, for a call -/
theorem Inv.stack (I : Inv X pins σ H s) : s.heap.FunFrames X.base X.stack := by
  rcases I.ok.stk with e | ⟨e, hf⟩
  · rw [e]; exact I.funs
  · rw [e]
    obtain ⟨m, hn, _⟩ := I.loc
    refine .cons (by rw [I.ok.kind]; decide) hf hn ?_ I.funs
    exact Heap.get?_none_of_le (Nat.le_trans I.ok.bsz I.ok.above)
theorem Inv.stkSub (I : Inv X pins σ H s) : ∀ b ∈ frs X.stack, b ∈ X.env.locals :: X.fs := fun b hb => by
  rcases I.ok.stk with e | ⟨e, hf⟩
  · rw [e] at hb; exact List.mem_cons_of_mem _ hb
  · rw [e] at hb
    unfold frs at hb
    rw [List.filterMap_cons, hf] at hb
    exact hb
theorem Inv.stkFree (I : Inv X pins σ H s) : ∀ b ∈ frs X.stack, H b = none := fun b hb => by
  rcases List.mem_cons.mp (I.stkSub b hb) with e | hb
  · rw [e]; exact I.free
  · obtain ⟨_, o, ho, _⟩ := I.ok.funs.mem hb
    exact I.base.free b o ho (I.ok.frf b hb) fun z => I.ok.exfs b z hb

/-- THE STEP: the untracked objects but the frame and the records at ch are kept (the callers' frames up to slots), the frame's map is kept, the new abstract heap is held -/
theorem Inv.step {g' : Array GenState} {t' : Nat} {d' : Drawn} {ch : List Addr} (I : Inv X pins σ H s)
    (hch : ∀ b ∈ ch, (b ∈ X.ex ∨ X.s₀.heap.objs.size ≤ b) ∧ b ≠ X.env.locals ∧ (∀ x c, X.env.cells.lookup x = some c → c ≠ b) ∧ ∀ p ∈ X.pn ++ pins, p.1 ≠ b)
    (keep : ∀ b o, b ≠ X.env.locals → b ∉ X.fs → b ∉ ch → s.heap.get? b = some o → H b = none → h'.get? b = some o)
    (slot : ∀ b o, b ≠ X.env.locals → b ∈ X.fs → b ∉ ch → s.heap.get? b = some o → H b = none → ∃ sl, h'.get? b = some { o with slots := sl }) (free : ∀ b o, b ∉ ch → s.heap.get? b = some o → H b = none → H' b = none)
    (there : ∀ b o, b ∉ ch → s.heap.get? b = some o → ∃ o', h'.get? b = some o')
    (tups : ∀ b xs, H b = some (.tup xs) → H' b = some (.tup xs)) (frzs : ∀ b o u, H b = some (.frz o u) → H' b = some (.frz o u)) (tbls : ∀ b ps, H b = some (.tbl ps) → ∃ more, H' b = some (.tbl (ps ++ more)))
    (ns : ∀ m, s.heap.Ns X.env.locals m → h'.Ns X.env.locals m) (hok : HOk X.prog X.w H' h') (hg : AllBare g') :
    Inv X pins σ H' { s with heap := h', gens := g', drawn := d', toks := t' } := by
  have neL : ∀ b o, X.s₀.heap.get? b = some o → b ≠ X.env.locals := fun b o e => Nat.ne_of_lt (Nat.lt_of_lt_of_le (Heap.lt_size e) I.ok.above)
  have neC : ∀ b o, X.s₀.heap.get? b = some o → b ∉ X.ex → b ∉ ch := fun b o e hx hb => by
    rcases (hch b hb).1 with z | z
    · exact hx z
    · exact absurd (Nat.lt_of_lt_of_le (Heap.lt_size e) z) (Nat.lt_irrefl _)
  have cellK : ∀ x c, X.env.cells.lookup x = some c → ∀ v, s.heap.IsCell c v → h'.IsCell c v := fun x c e v ⟨o, ho, hd⟩ => by
    have nch : c ∉ ch := fun z => (hch c z).2.2.1 x c e rfl
    by_cases hc : c ∈ X.fs
    · obtain ⟨sl, q⟩ := slot c o (I.cne x c e) hc nch ho (I.freeC x c e)
      exact ⟨_, q, hd⟩
    · exact ⟨o, keep c o (I.cne x c e) hc nch ho (I.freeC x c e), hd⟩
  refine ⟨I.ok, I.os, hg, ⟨fun b o e n hb hx => ?_, fun b o e n hb hx => ?_, fun b o e n hx => ?_, fun b o e hx => ?_, fun b xs e => tups b xs (I.base.tups b xs e), fun b o xs e => frzs b o xs (I.base.frzs b o xs e), fun b ps e => ?_⟩, ?_, fun x c e => ?_, ?_, fun x c e => ?_, fun p hp => ?_, hok, I.len⟩
  · exact keep b o (neL b o e) hb (neC b o e hx) (I.base.keep b o e n hb hx) (I.base.free b o e n hx)
  · obtain ⟨sl, e1⟩ := I.base.slot b o e n hb hx
    obtain ⟨sl', e2⟩ := slot b _ (neL b o e) hb (neC b o e hx) e1 (I.base.free b o e n hx)
    exact ⟨sl', e2⟩
  · obtain ⟨o', e1⟩ := I.base.there b o e hx
    exact free b o' (neC b o e hx) e1 (I.base.free b o e n hx)
  · obtain ⟨o', e1⟩ := I.base.there b o e hx
    exact there b o' (neC b o e hx) e1
  · obtain ⟨m1, e1⟩ := I.base.tbls b ps e
    obtain ⟨m2, e2⟩ := tbls b _ e1
    exact ⟨m1 ++ m2, by rw [e2, Array.append_assoc]⟩
  · obtain ⟨m, hn, hl⟩ := I.loc
    refine ⟨m, ns m hn, fun i x v e1 e2 e3 => ?_⟩
    obtain ⟨u, r, l⟩ := hl i x v e1 e2 e3
    refine ⟨u, r, ?_⟩
    rcases l with l | ⟨k, c, e, z⟩
    · exact .inl l
    · exact .inr ⟨k, c, e, cellK x c e _ z⟩
  · obtain ⟨v, z⟩ := I.cell x c e
    exact ⟨v, cellK x c e v z⟩
  · obtain ⟨m, ⟨o, _, _, ho, _⟩, _⟩ := I.loc
    exact free _ o (fun z => (hch _ z).2.1 rfl) ho I.free
  · obtain ⟨v, o, ho, hd⟩ := I.cell x c e
    exact free c o (fun z => (hch c z).2.2.1 x c e rfl) ho (I.freeC x c e)
  · obtain ⟨e, n, ne, nf, d⟩ := I.pin p hp
    have nch : p.1 ∉ ch := fun z => (hch p.1 z).2.2.2 p hp rfl
    exact ⟨keep p.1 p.2 ne nf nch e n, free p.1 p.2 nch e n, ne, nf, d⟩
/-- .. where the frame's own object is kept too -/
theorem Inv.un {t' : Nat} (I : Inv X pins σ H s) (u : Un X.fs [] H H' s.heap h') (hok : HOk X.prog X.w H' h') : Inv X pins σ H' { s with heap := h', toks := t' } := by
  obtain ⟨m, ⟨o, es, ep, ho, r⟩, _⟩ := id I.loc
  obtain ⟨sl, hL⟩ := u.any ho I.free (by simp)
  exact I.step (g' := s.gens) (d' := s.drawn) (ch := []) (fun _ z => nomatch z) (fun b o _ hb _ e n => u.keep b o e n hb (by simp)) (fun b o _ hb _ e n => u.slot b o e n hb (by simp)) (fun b o _ e n => u.free b o e n (by simp)) (fun b o _ e => u.there b o e (by simp)) u.tups u.frzs u.tbls (fun m' hm => by
    obtain ⟨o', es', ep', ho', r'⟩ := hm
    rw [ho] at ho'; cases ho'
    exact ⟨_, es', ep', hL, r'⟩) hok I.bare
/-- behind a call (or a comprehension's block): the slots of this frame may have changed too, the records at ch may have turned -/
theorem Inv.call {g' : Array GenState} {t' : Nat} {d' : Drawn} {ch : List Addr} (I : Inv X pins σ H s) (u : Un (frs X.stack) ch H H' s.heap h') (hok : HOk X.prog X.w H' h') (hg : AllBare g')
    (hch : ∀ b ∈ ch, (b ∈ X.ex ∨ X.s₀.heap.objs.size ≤ b) ∧ b ≠ X.env.locals ∧ (∀ x c, X.env.cells.lookup x = some c → c ≠ b) ∧ ∀ p ∈ X.pn ++ pins, p.1 ≠ b) :
    Inv X pins σ H' { s with heap := h', gens := g', drawn := d', toks := t' } := by
  obtain ⟨m, ⟨o, es, ep, ho, r⟩, _⟩ := id I.loc
  obtain ⟨sl, hL⟩ := u.any ho I.free fun z => (hch _ z).2.1 rfl
  exact I.step (ch := ch) hch (fun b o hL hb hc e n => u.keep b o e n (fun z => (List.mem_cons.mp (I.stkSub b z)).elim hL hb) hc) (fun b o _ _ hc e n => u.any e n hc) (fun b o hc e n => u.free b o e n hc) (fun b o hc e => u.there b o e hc) u.tups u.frzs u.tbls (fun m' hm => by
    obtain ⟨o', es', ep', ho', r'⟩ := hm
    rw [ho] at ho'; cases ho'
    exact ⟨_, es', ep', hL, r'⟩) hok hg
/-- an untracked record of ours (an iterator) has turned -/
theorem Inv.turned {t' : Nat} {it : Addr} (I : Inv X pins σ H s) (k : ∀ b o, b ≠ it → s.heap.get? b = some o → h'.get? b = some o) (hn : H it = none) (hL : it ≠ X.env.locals)
    (h1 : it ∈ X.ex ∨ X.s₀.heap.objs.size ≤ it) (h2 : ∀ x c, X.env.cells.lookup x = some c → c ≠ it) (h3 : ∀ p ∈ X.pn ++ pins, p.1 ≠ it) : Inv X pins σ H { s with heap := h', toks := t' } := by
  have nit : ∀ b u, H b = some u → b ≠ it := fun b u e z => by rw [z, hn] at e; cases e
  refine I.step (g' := s.gens) (d' := s.drawn) (ch := [it]) (fun b hb => ?_) (fun b o _ _ hc e _ => k b o (fun z => hc (by simp [z])) e) (fun b o _ _ hc e _ => ⟨o.slots, k b o (fun z => hc (by simp [z])) e⟩) (fun _ _ _ _ n => n)
    (fun b o hc e => ⟨o, k b o (fun z => hc (by simp [z])) e⟩) (fun _ _ e => e) (fun _ _ _ e => e) (fun b ps e => ⟨#[], by rw [e]; simp⟩) (fun m hm => ?_) (fun b u e => ?_) I.bare
  · have e : b = it := by simpa using hb
    subst e
    exact ⟨h1, hL, h2, h3⟩
  · obtain ⟨o, es, ep, ho, r⟩ := hm
    exact ⟨o, es, ep, k _ o (Ne.symm hL) ho, r⟩
  · refine (I.hok b u e).stay (fun c v hc q => k c v ?_ q) (fun _ q => q) fun _ _ q => q
    rcases hc with z | z
    · rw [z]; exact nit b u e
    · exact nit c _ z
theorem Inv.tok (I : Inv X pins σ H s) (t : Nat) : Inv X pins σ H { s with toks := t } := I.un (h' := s.heap) (t' := t) Un.refl I.hok
/-- all objects kept -/
theorem Inv.kept {t' : Nat} (I : Inv X pins σ H s) (k : ∀ b u, s.heap.get? b = some u → h'.get? b = some u) : Inv X pins σ H { s with heap := h', toks := t' } := I.un (Un.kept k) (I.hok.kept k)
/-- a new object laid and tracked -/
theorem Inv.laid {a : Addr} {o : HO} {t' : Nat} (I : Inv X pins σ H s) (k : ∀ b u, s.heap.get? b = some u → h'.get? b = some u) (hp : s.heap.objs.size ≤ a) (new : ObjOk X.prog X.w (upd H a o) h' a o) :
    Inv X pins σ (upd H a o) { s with heap := h', toks := t' } := I.un (Un.laid k hp (I.hok.fresh hp)) (I.hok.laid k hp new)
/-- an object written -/
theorem Inv.write {x e : Addr} {o : HO} {t' : Nat} (I : Inv X pins σ H s) (mu : Mut (H x)) (he : e = x ∨ H e = some (.own x)) (k : ∀ b u, b ≠ e → s.heap.get? b = some u → h'.get? b = some u) (heo : ∃ u, h'.get? e = some u)
    (new : ObjOk X.prog X.w (upd H x o) h' x o) : Inv X pins σ (upd H x o) { s with heap := h', toks := t' } := I.un (Un.write mu he k heo) (I.hok.write mu he k heo new)
theorem Inv.pins_of {pins' : List (Addr × Obj)} (I : Inv X pins σ H s) (h : ∀ p ∈ pins', s.heap.get? p.1 = some p.2 ∧ H p.1 = none ∧ p.1 ≠ X.env.locals ∧ p.1 ∉ X.fs ∧ ∀ v, p.2.data ≠ .cell v) : Inv X pins' σ H s :=
  ⟨I.ok, I.os, I.bare, I.base, I.loc, I.cell, I.free, I.freeC, fun p hp => (List.mem_append.mp hp).elim (fun z => I.pin p (List.mem_append_left _ z)) (h p), I.hok, I.len⟩

theorem nodup_ix {N : List Str} (hN : N.Nodup) {i j : Nat} {x : Str} (a : N[i]? = some x) (b : N[j]? = some x) : i = j := by
  obtain ⟨h1, e1⟩ := List.getElem?_eq_some_iff.mp a
  obtain ⟨h2, e2⟩ := List.getElem?_eq_some_iff.mp b
  exact (List.getElem_inj hN).mp (e1.trans e2.symm)

/-- a name is stored; what changed -/
theorem store_ok2 {M : Model} {A : Around} {E : Value → Shared → Prop} {i : Nat} {x : Str} {v : V} {u : Value} {Q : Unit → Shared → Prop} (I : Inv X pins σ H s) (hN : X.N.Nodup) (hi : X.N[i]? = some x) (hx : Loc X.env.scope x) (r : RelV v u)
    (h : ∀ s', Inv X pins (σ.set i (some v)) H s' → (∃ a, Heap.SameBut a s.heap s'.heap ∧ (a = X.env.locals ∨ X.env.cells.lookup x = some a)) → Q () s') (hf : X.fn x = true ∨ X.env.scope.names.lookup x = some .local := by first | exact .inl rfl | exact .inr rfl | assumption) : wpAny M A (storeName X.env x u) Q E s := by
  obtain ⟨m, hn, hl⟩ := id I.loc
  have hcls : (X.env.scope.kind == .class || (X.env.scope.kind == .module && X.env.locals != X.env.globals)) = false := by rw [I.ok.kind]; rfl
  have hiσ : i < σ.length := by rw [I.len]; exact (List.getElem?_eq_some_iff.mp hi).1
  have cne := I.cne
  have tracked : ∀ {a : Addr} {h' : Heap}, (∃ o, s.heap.get? a = some o ∧ H a = none) → Heap.SameBut a s.heap h' → HOk X.prog X.w H h' := fun {a h'} ha hs b ob e => by
    obtain ⟨_, _, hfree⟩ := ha
    refine (I.hok b ob e).stay (fun c w' hc q => (hs.2 c ?_).trans q) (fun _ q => q) fun _ _ q => q
    rintro rfl
    rcases hc with rfl | hc
    · rw [hfree] at e; cases e
    · rw [hfree] at hc; cases hc
  rcases hx with hk | hk
  · refine wpAny_storeName_local hk hn (fun h' hn' hs => ?_) hcls
    obtain ⟨oL, _, _, hoL, _⟩ := id hn
    refine h _ ⟨I.ok, I.os, I.bare, ⟨fun b o e n hb hx => ?_, fun b o e n hb hx => ?_, I.base.free, fun b o e hx => ?_, I.base.tups, I.base.frzs, I.base.tbls⟩, ⟨_, hn', fun j y v' e1 e2 e3 => ?_⟩, fun y c e => ?_, I.free, I.freeC, fun p hp => ?_, tracked ⟨oL, hoL, I.free⟩ hs, by simpa using I.len⟩ ⟨_, hs, .inl rfl⟩
    · exact (hs.2 b (Nat.ne_of_lt (Nat.lt_of_lt_of_le (Heap.lt_size e) I.ok.above))).trans (I.base.keep b o e n hb hx)
    · obtain ⟨sl, e1⟩ := I.base.slot b o e n hb hx
      exact ⟨sl, (hs.2 b (Nat.ne_of_lt (Nat.lt_of_lt_of_le (Heap.lt_size e) I.ok.above))).trans e1⟩
    · obtain ⟨o', e1⟩ := I.base.there b o e hx
      exact ⟨o', (hs.2 b (Nat.ne_of_lt (Nat.lt_of_lt_of_le (Heap.lt_size e) I.ok.above))).trans e1⟩
    · by_cases hj : j = i
      · subst hj
        rw [hi] at e1; cases e1
        rw [List.getElem?_set_self hiσ] at e2
        cases e2
        exact ⟨u, r, .inl ⟨hk, by simp⟩⟩
      · rw [List.getElem?_set_ne (Ne.symm hj)] at e2
        obtain ⟨u', r', q⟩ := hl j y v' e1 e2 e3
        refine ⟨u', r', ?_⟩
        rcases q with ⟨k, e⟩ | ⟨k, c, e, z⟩
        · refine .inl ⟨k, ?_⟩
          have : y ≠ x := fun e => hj (nodup_ix hN e1 (e ▸ hi))
          simp [this, e]
        · exact .inr ⟨k, c, e, z.sameBut hs (cne y c e)⟩
    · obtain ⟨w', z⟩ := I.cell y c e
      exact ⟨w', z.sameBut hs (cne y c e)⟩
    · obtain ⟨e, n, ne, nf, d⟩ := I.pin p hp
      exact ⟨(hs.2 p.1 ne).trans e, n, ne, nf, d⟩
  · have hfn : X.fn x = true := by
      rcases hf with z | z
      · exact z
      · rw [z] at hk; cases hk
    obtain ⟨c, hc⟩ := I.ok.has x (.inl hk)
    obtain ⟨w', z⟩ := I.cell x c hc
    refine wpAny_storeName_cell I.ok.kind hk hc z (fun h' hc' hs => ?_)
    obtain ⟨oc, hoc, hocd⟩ := id z
    refine h { s with heap := h' } ⟨I.ok, I.os, I.bare, ⟨fun b o e n hb hx => ?_, fun b o e n hb hx => ?_, I.base.free, fun b o e hx => ?_, I.base.tups, I.base.frzs, I.base.tbls⟩, ⟨m, hn.sameBut hs (Ne.symm (cne x c hc)), fun j y v' e1 e2 e3 => ?_⟩, fun y c' e => ?_, I.free, I.freeC, fun p hp => ?_, tracked ⟨oc, hoc, I.freeC x c hc⟩ hs, by simpa using I.len⟩ ⟨c, hs, .inr hc⟩
    · exact (hs.2 b (Nat.ne_of_lt (Nat.lt_of_lt_of_le (Heap.lt_size e) (I.ok.cab x c hfn hc)))).trans (I.base.keep b o e n hb hx)
    · obtain ⟨sl, e1⟩ := I.base.slot b o e n hb hx
      exact ⟨sl, (hs.2 b (Nat.ne_of_lt (Nat.lt_of_lt_of_le (Heap.lt_size e) (I.ok.cab x c hfn hc)))).trans e1⟩
    · obtain ⟨o', e1⟩ := I.base.there b o e hx
      exact ⟨o', (hs.2 b (Nat.ne_of_lt (Nat.lt_of_lt_of_le (Heap.lt_size e) (I.ok.cab x c hfn hc)))).trans e1⟩
    · by_cases hj : j = i
      · subst hj
        rw [hi] at e1; cases e1
        rw [List.getElem?_set_self hiσ] at e2
        cases e2
        exact ⟨u, r, .inr ⟨.inl hk, c, hc, hc'⟩⟩
      · rw [List.getElem?_set_ne (Ne.symm hj)] at e2
        obtain ⟨u', r', q⟩ := hl j y v' e1 e2 e3
        refine ⟨u', r', ?_⟩
        rcases q with q | ⟨k, c', e, z'⟩
        · exact .inl q
        · refine .inr ⟨k, c', e, z'.sameBut hs ?_⟩
          rintro rfl
          exact hj (nodup_ix hN e1 (I.ok.inj _ _ _ e hc ▸ hi))
    · by_cases hcc : c' = c
      · subst hcc; exact ⟨_, hc'⟩
      · obtain ⟨w2, z2⟩ := I.cell y c' e
        exact ⟨w2, z2.sameBut hs hcc⟩
    · obtain ⟨e, n, ne, nf, d⟩ := I.pin p hp
      refine ⟨(hs.2 p.1 ?_).trans e, n, ne, nf, d⟩
      intro q
      rw [q, hoc] at e
      have q' : oc = p.2 := Option.some.inj e
      exact d w' (by rw [← q']; exact hocd)
theorem store_ok {M : Model} {A : Around} {E : Value → Shared → Prop} {i : Nat} {x : Str} {v : V} {u : Value} {Q : Unit → Shared → Prop} (I : Inv X pins σ H s) (hN : X.N.Nodup) (hi : X.N[i]? = some x) (hx : Loc X.env.scope x) (r : RelV v u)
    (h : ∀ s', Inv X pins (σ.set i (some v)) H s' → Q () s') (hf : X.fn x = true ∨ X.env.scope.names.lookup x = some .local := by first | exact .inl rfl | exact .inr rfl | assumption) : wpAny M A (storeName X.env x u) Q E s :=
  store_ok2 I hN hi hx r (fun s' I' _ => h s' I') hf
/-- behind a call or a block, the state as it is -/
theorem Inv.call' {s' : Shared} {ch : List Addr} (I : Inv X pins σ H s) (ho : s'.os = s.os) (u : Un (frs X.stack) ch H H' s.heap s'.heap) (hok : HOk X.prog X.w H' s'.heap) (hg : AllBare s'.gens)
    (hch : ∀ b ∈ ch, (b ∈ X.ex ∨ X.s₀.heap.objs.size ≤ b) ∧ b ≠ X.env.locals ∧ (∀ x c, X.env.cells.lookup x = some c → c ≠ b) ∧ ∀ p ∈ X.pn ++ pins, p.1 ≠ b) : Inv X pins σ H' s' := by
  obtain ⟨h', g', d', t', o'⟩ := s'
  have e : o' = s.os := ho
  subst e
  exact I.call (g' := g') (t' := t') (d' := d') u hok hg hch
end

/-! ### the judgements -/
/-- an exception: its class, its own dict's address (where it has one), the abstract heap behind it -/
abbrev XK := Value → Option Addr → Hp → Prop
abbrev St := List (Option V)
abbrev VK := V → Hp → Prop
/-- an expression's reading; a test's; an argument list's -/
abbrev TE := St → Hp → VK → Prop
abbrev TT := St → Hp → (Bool → Hp → Prop) → Prop
abbrev TA := St → Hp → (List V → Hp → Prop) → Prop
/-- what is wanted behind a statement -/
structure Ends where
  nx : St → Hp → Prop
  rt : VK
  bk : St → Hp → Prop := fun _ _ => False
  ct : St → Hp → Prop := fun _ _ => False
abbrev TS := Ends → St → Hp → Prop

def EP (X : Cx) (pins : List (Addr × Obj)) (σ : St) (Q : VK) (u : Value) (s' : Shared) : Prop := ∃ v H', Inv X pins σ H' s' ∧ RelV v u ∧ Q v H'
def TP (X : Cx) (pins : List (Addr × Obj)) (σ : St) (Q : Bool → Hp → Prop) (b : Bool) (s' : Shared) : Prop := ∃ H', Inv X pins σ H' s' ∧ Q b H'
def AP (X : Cx) (pins : List (Addr × Obj)) (σ : St) (Q : List V → Hp → Prop) (us : List Value) (s' : Shared) : Prop := ∃ vs H', Inv X pins σ H' s' ∧ Vals vs us ∧ Q vs H'
def SP (X : Cx) (pins : List (Addr × Obj)) (D : Ends) (f : Flow) (s' : Shared) : Prop :=
  match f with
  | .next => ∃ σ' H', Inv X pins σ' H' s' ∧ D.nx σ' H'
  | .brk => ∃ σ' H', Inv X pins σ' H' s' ∧ D.bk σ' H'
  | .cont => ∃ σ' H', Inv X pins σ' H' s' ∧ D.ct σ' H'
  | .ret u => ∃ v σ' H', Inv X pins σ' H' s' ∧ RelV v u ∧ D.rt v H'

def PE (X : Cx) (e : Expr) (t : TE) : Prop :=
  ∀ (pins : List (Addr × Obj)) (s : Shared) (σ : St) (H : Hp) (Q : VK), Inv X pins σ H s → t σ H Q → wpAny (model X.prog X.w) X.A (eval e X.env) (EP X pins σ Q) X.xe s
def PT (X : Cx) (e : Expr) (t : TT) : Prop :=
  ∀ (pins : List (Addr × Obj)) (s : Shared) (σ : St) (H : Hp) (Q : Bool → Hp → Prop), Inv X pins σ H s → t σ H Q → wpAny (model X.prog X.w) X.A (isTrue e X.env (eval e X.env)) (TP X pins σ Q) X.xe s
/-- a test whatever its 'whole' is (and, or) -/
def PW (X : Cx) (e : Expr) (t : TT) : Prop :=
  ∀ (whole : Sem Value) (pins : List (Addr × Obj)) (s : Shared) (σ : St) (H : Hp) (Q : Bool → Hp → Prop), Inv X pins σ H s → t σ H Q → wpAny (model X.prog X.w) X.A (isTrue e X.env whole) (TP X pins σ Q) X.xe s
theorem PW.pt {X : Cx} {e : Expr} {t : TT} (h : PW X e t) : PT X e t := h _
/-- an argument list (no star), from the left -/
def PA (X : Cx) (es : List Expr) (t : TA) : Prop :=
  ∀ (pos : Pos) (pins : List (Addr × Obj)) (s : Shared) (σ : St) (H : Hp) (Q : List V → Hp → Prop), Inv X pins σ H s → t σ H Q → wpAny (model X.prog X.w) X.A (spliced (backTo pos (starEach es X.env))) (AP X pins σ Q) X.xe s
def PS (X : Cx) (st : Stmt) (t : TS) : Prop :=
  ∀ (pins : List (Addr × Obj)) (s : Shared) (σ : St) (H : Hp) (D : Ends), Inv X pins σ H s → t D σ H → wpAny (model X.prog X.w) X.A (exec st X.env) (SP X pins D) X.xe s
def PSs (X : Cx) (st : List Stmt) (t : TS) : Prop :=
  ∀ (pins : List (Addr × Obj)) (s : Shared) (σ : St) (H : Hp) (D : Ends), Inv X pins σ H s → t D σ H → wpAny (model X.prog X.w) X.A (execs st X.env) (SP X pins D) X.xe s
/-- weaken the end -/
theorem thn {α : Type} {t : Sem α} {Q Q' : α → Shared → Prop} {M : Model} {A : Around} {E : Value → Shared → Prop} {s : Shared} (h : wpAny M A t Q E s) (hQ : ∀ a s, Q a s → Q' a s) : wpAny M A t Q' E s := wpAny_mono h hQ fun _ _ x => x
end L2

namespace L2
open PySem PySem.Spec PyProof.Rows
section
variable {X : Cx}


/-! ### names and constants -/
def tVar (i : Nat) : TE := fun σ H Q => ∃ v, σ[i]? = some (some v) ∧ Q v H
def tC (v : V) : TE := fun _ H Q => Q v H
theorem pe_var {i : Nat} {x : Str} {pos : Pos} (hN : X.N[i]? = some x) (hv : Vis X.env.scope x) (hd : (x == ("__debug__" : Str)) = false := by decide) (hcd : (x == ("__classdict__" : Str)) = false := by decide) : PE X (.Name x pos) (tVar i) := by
  intro pins s σ H Q I h
  obtain ⟨v, e, h⟩ := h
  obtain ⟨m, hn, hl⟩ := I.loc
  obtain ⟨u, r, l⟩ := hl i x v hN e hv
  have fin : EP X pins σ Q u s := ⟨v, H, I, r, h⟩
  rcases l with ⟨hk, hm⟩ | ⟨hk, c, hc, hcell⟩
  · exact wpAny_Name (wpAny_loadName_local I.ok.kind hk hn hm fin) hd
  · rcases hk with hk | hk
    · exact wpAny_Name (wpAny_loadName_cell I.ok.kind hk hc hcell fin) hd
    · exact wpAny_Name (wpAny_loadName_free I.ok.kind hk hc hcell fin hcd) hd
theorem pe_int {i j pos} : PE X (.Constant (.int i) j pos) (tC (.int i)) := fun _ _ _ H _ I h => wpAny_Constant_int ⟨.int i, H, I.tok _, ⟨_, rfl⟩, h⟩
theorem pe_bl {b j pos} : PE X (.Constant (.bool b) j pos) (tC (.bl b)) := fun _ _ _ H _ I h => Constant_bool ⟨.bl b, H, I, rfl, h⟩

/-- a global name of the def -/
def Gl (X : Cx) (x : Str) : Prop := X.env.kindOf x = some .globalImplicit
theorem ld_glob {E : Value → Shared → Prop} {pins : List (Addr × Obj)} {s : Shared} {σ : St} {H : Hp} {x : Str} {u : Value} {pos : Pos} {Q : Value → Shared → Prop} (I : Inv X pins σ H s) (hg : Gl X x) (hm : X.mg x = some u) (h : Q u s)
    (hd : (x == ("__debug__" : Str)) = false := by decide) : wpAny (model X.prog X.w) X.A (eval (.Name x pos) X.env) Q E s :=
  Calls.Name_function_global I.ok.kind hg (Calls.loadGlobal_global (by rw [I.ok.glob]; exact I.mod.glob.keeps I.bk) hm h) hd
theorem ld_blt {E : Value → Shared → Prop} {pins : List (Addr × Obj)} {s : Shared} {σ : St} {H : Hp} {x : Str} {u : Value} {pos : Pos} {Q : Value → Shared → Prop} (I : Inv X pins σ H s) (hg : Gl X x) (hm : X.mg x = none) (hv : bootBuiltins x = some u) (h : Q u s)
    (hn : x ≠ "__name__" := by decide) (hd : (x == ("__debug__" : Str)) = false := by decide) : wpAny (model X.prog X.w) X.A (eval (.Name x pos) X.env) Q E s := by
  obtain ⟨mb, h1, h2⟩ := I.mod.blt
  exact Calls.Name_function_global I.ok.kind hg (Calls.loadGlobal_builtin (by rw [I.ok.glob]; exact I.mod.glob.keeps I.bk) hm (by rw [I.ok.blt]; exact h1.keeps I.bk) ((h2 x hn).trans hv) h) hd
/-- a module's constant, a class, a function, as a value -/
theorem pe_glob {x : Str} {v : V} {u : Value} {pos : Pos} (hg : Gl X x) (hm : X.mg x = some u) (r : RelV v u) (hd : (x == ("__debug__" : Str)) = false := by decide) : PE X (.Name x pos) (tC v) :=
  fun _ _ _ H _ I h => ld_glob I hg hm ⟨v, H, I, r, h⟩ hd
theorem pe_bltn {x : Str} {v : V} {u : Value} {pos : Pos} (hg : Gl X x) (hm : X.mg x = none) (hv : bootBuiltins x = some u) (r : RelV v u) (hn : x ≠ "__name__" := by decide) (hd : (x == ("__debug__" : Str)) = false := by decide) : PE X (.Name x pos) (tC v) :=
  fun _ _ _ H _ I h => ld_blt I hg hm hv ⟨v, H, I, r, h⟩ hn hd

/-! ### arithmetic -/
variable {a b : Expr} {ta tb : TE} {pos : Pos}

/-! ### comparisons -/
def PC (X : Cx) (op : CmpOp) (a b : Expr) (t : TE) : Prop :=
  ∀ (pins : List (Addr × Obj)) (s : Shared) (σ : St) (H : Hp) (Q : VK), Inv X pins σ H s → t σ H Q →
    wpAny (model X.prog X.w) X.A (eval a X.env) (fun v s₁ => wpAny (model X.prog X.w) X.A (eval b X.env) (fun u s₂ => wpAny (model X.prog X.w) X.A (compareOp op v u) (EP X pins σ Q) X.xe s₂) X.xe s₁) X.xe s
/-- a comparison as a value, as a test -/
def tB (t : TE) : TT := fun σ H Q => t σ H fun x H1 => ∃ c, x = .bl c ∧ Q c H1
theorem pe_cmp {op : CmpOp} {t : TE} (h : PC X op a b t) (h1 : behindInMarks op b = false := by first | exact nobehind _ (by decide) (by decide) | rfl) : PE X (.Compare a [op] [b] pos) t := fun pins s σ H Q I hw => wpAny_Compare1 (h pins s σ H Q I hw) h1
/-- an expression whose value is a bool, as a test -/
theorem pt_val {e : Expr} {t : TE} (h : PE X e t) (he : ∀ whole, isTrue e X.env whole = (do let v ← whole; standAt e.pos; holding [v] (truthy v)) := by intro _; rfl) : PT X e (tB t) := by
  intro pins s σ H Q I hw
  refine isTrue_plain (thn (h pins s σ H _ I hw) fun v s1 ⟨x, H1, I1, r1, q1⟩ => ?_) (he _)
  obtain ⟨d, rfl, q⟩ := q1
  cases r1
  exact wpAny_truthy_bool ⟨H1, I1, q⟩

/-! ### and, or, not -/
variable {tA tB' : TT} {rest : List Expr}
def tAnd (t u : TT) : TT := fun σ H Q => t σ H fun c H1 => if c = true then u σ H1 Q else Q false H1
def tOr (t u : TT) : TT := fun σ H Q => t σ H fun c H1 => if c = true then Q true H1 else u σ H1 Q
def tNot (t : TT) : TT := fun σ H Q => t σ H fun c H1 => Q (!c) H1
theorem pw_and1 (ha : PT X a tA) : PW X (.BoolOp .And [a] pos) tA := by
  intro wh pins s σ H Q I h
  refine isTrue_and (thn (ha pins s σ H Q I h) fun c s1 e => ?_)
  cases c with
  | true => exact isTrue_and_nil e
  | false => exact e
theorem pw_or1 (ha : PT X a tA) : PW X (.BoolOp .Or [a] pos) tA := by
  intro wh pins s σ H Q I h
  refine isTrue_or (thn (ha pins s σ H Q I h) fun c s1 e => ?_)
  cases c with
  | false => exact isTrue_or_nil e
  | true => exact e
theorem pw_and (ha : PT X a tA) (hb : PW X (.BoolOp .And (b :: rest) pos) tB') : PW X (.BoolOp .And (a :: b :: rest) pos) (tAnd tA tB') := by
  intro wh pins s σ H Q I h
  refine isTrue_and (thn (ha pins s σ H _ I h) fun c s1 ⟨H1, I1, q1⟩ => ?_)
  cases c with
  | true => exact hb wh pins s1 σ H1 Q I1 q1
  | false => exact ⟨H1, I1, q1⟩
theorem pw_or (ha : PT X a tA) (hb : PW X (.BoolOp .Or (b :: rest) pos) tB') : PW X (.BoolOp .Or (a :: b :: rest) pos) (tOr tA tB') := by
  intro wh pins s σ H Q I h
  refine isTrue_or (thn (ha pins s σ H _ I h) fun c s1 ⟨H1, I1, q1⟩ => ?_)
  cases c with
  | true => exact ⟨H1, I1, q1⟩
  | false => exact hb wh pins s1 σ H1 Q I1 q1
theorem pt_not (ha : PT X a tA) : PT X (.UnaryOp .Not a pos) (tNot tA) := by
  intro pins s σ H Q I h
  exact isTrue_not (ha pins s σ H (fun c H1 => Q (!c) H1) I h)
/-- .. as values (bools) -/
def tAndV (ta tb : TE) : TE := fun σ H Q => ta σ H fun x H1 => ∃ c, x = .bl c ∧ if c = true then tb σ H1 Q else Q (.bl false) H1
def tNotV (ta : TE) : TE := fun σ H Q => ta σ H fun x H1 => ∃ c, x = .bl c ∧ Q (.bl (!c)) H1
theorem pe_one {op} {t : TE} (h : PE X a t) : PE X (.BoolOp op [a] pos) t := fun pins s σ H Q I hw => BoolOp_one (h pins s σ H Q I hw)
theorem pe_and (ha : PE X a ta) (hb : PE X (.BoolOp .And (b :: rest) pos) tb) : PE X (.BoolOp .And (a :: b :: rest) pos) (tAndV ta tb) := by
  intro pins s σ H Q I h
  refine BoolOp_and (thn (ha pins s σ H _ I h) fun v s1 ⟨x, H1, I1, r1, q1⟩ => ?_)
  obtain ⟨c, rfl, q1⟩ := q1
  cases r1
  refine wpAny_truthy_bool ?_
  cases c with
  | true => exact hb pins s1 σ H1 Q I1 q1
  | false => exact ⟨.bl false, H1, I1, rfl, q1⟩
theorem pe_not (ha : PE X a ta) : PE X (.UnaryOp .Not a pos) (tNotV ta) := by
  intro pins s σ H Q I h
  refine UnaryOp_ (thn (ha pins s σ H _ I h) fun v s1 ⟨x, H1, I1, r1, q1⟩ => ?_)
  obtain ⟨c, rfl, q1⟩ := q1
  cases r1
  exact not_of (wpAny_truthy_bool ⟨.bl (!c), H1, I1, rfl, q1⟩)
end
end L2

namespace L2
open PySem PySem.Spec PyProof.Rows

/-! ### a list, a tuple that is read: tracked, frozen, or an object of the module -/
def SqL (K : PySem.W.Frag) (H : Hp) (a : Addr) (xs : List V) : Prop :=
  Rd H a (.lst xs) ∨
    ∃ (o : Obj) (its : Array Value) (n : Nat), K.lookup a = some o ∧ o.cls = .type "list" ∧ o.dict = none ∧ o.data = .seq its n ∧ its.size ≤ sizeLine ∧ Vals xs its.toList
def SqT (K : PySem.W.Frag) (H : Hp) (a : Addr) (xs : List V) : Prop :=
  Rd H a (.tup xs) ∨
    ∃ (o : Obj) (its : Array Value) (n : Nat), K.lookup a = some o ∧ o.cls = .type "tuple" ∧ o.data = .seq its n ∧ its.size ≤ sizeLine ∧ Vals xs its.toList
def absV : Value → Option V
  | .none => some .non
  | .bool b => some (.bl b)
  | .int i _ => some (.int i)
  | .str x _ => some (.str x)
  | .bytes b _ => some (.byt b)
  | .float b _ => some (.flt b)
  | .ref a => some (.ref a)
  | .type n => some (.ty n)
  | _ => none
theorem RelV.abs {x : V} {u : Value} (r : RelV x u) : absV u = some x := by
  cases x with
  | non => cases r; rfl
  | bl _ => cases r; rfl
  | int _ => obtain ⟨t, rfl⟩ := r; rfl
  | str _ => obtain ⟨t, rfl⟩ := r; rfl
  | byt _ => obtain ⟨t, rfl⟩ := r; rfl
  | flt _ => obtain ⟨t, rfl⟩ := r; rfl
  | ref _ => cases r; rfl
  | ty _ => cases r; rfl
theorem RelV.inj {x y : V} {u : Value} (r : RelV x u) (q : RelV y u) : x = y := Option.some.inj (r.abs.symm.trans q.abs)
theorem Vals.inj : ∀ {xs ys : List V} {us : List Value}, Vals xs us → Vals ys us → xs = ys
  | _, _, _, .nil, .nil => rfl
  | _, _, _, .cons r t, .cons r' t' => by rw [r.inj r', Vals.inj t t']
section
variable {X : Cx} {pins : List (Addr × Obj)} {σ : St} {H : Hp} {s : Shared} {a : Addr} {xs ys : List V}
theorem SqL.of {K : PySem.W.Frag} (h : H a = some (.lst xs)) : SqL K H a xs := .inl (.inl h)
theorem SqT.of {K : PySem.W.Frag} (h : H a = some (.tup xs)) : SqT K H a xs := .inl (.inl h)
theorem Inv.list (I : Inv X pins σ H s) (h : SqL X.K H a xs) : ∃ its : List Value, Vals xs its ∧ PlainL s.heap a its.toArray ∧ xs.length ≤ sizeLine := by
  rcases h with h | ⟨o, its, n, hk, hc, hd, hs, hz, r⟩
  · obtain ⟨z, its, n, r, e⟩ := h.ok I.hok
    exact ⟨its, r, ⟨_, n, e, rfl, rfl, rfl⟩, z⟩
  · refine ⟨its.toList, r, ⟨o, n, I.kIn a o hk, hc, hd, by simpa using hs⟩, ?_⟩
    have e := r.length
    simp only [Array.length_toList] at e
    omega
theorem Inv.tuple (I : Inv X pins σ H s) (h : SqT X.K H a xs) : ∃ its : List Value, Vals xs its ∧ IsTup s.heap a its.toArray ∧ xs.length ≤ sizeLine := by
  rcases h with h | ⟨o, its, n, hk, hc, hs, hz, r⟩
  · obtain ⟨z, its, r, p⟩ := h.ok I.hok
    exact ⟨its, r, p, z⟩
  · refine ⟨its.toList, r, ⟨o, I.kIn a o hk, hc, n, by simpa using hs⟩, ?_⟩
    have e := r.length
    simp only [Array.length_toList] at e
    omega
theorem Inv.list_inj (I : Inv X pins σ H s) (h : SqL X.K H a xs) (h' : SqL X.K H a ys) : xs = ys := by
  obtain ⟨its, r, ⟨o, n, e, _, _, d⟩, _⟩ := I.list h
  obtain ⟨its', r', ⟨o', n', e', _, _, d'⟩, _⟩ := I.list h'
  rw [e] at e'; cases e'
  rw [d] at d'
  injection d' with d1 _
  have : its = its' := by simpa using congrArg Array.toList d1
  subst this
  exact r.inj r'
end

/-! ### another wish about exceptions -/
abbrev Cx.wish (X : Cx) (E : Value → Shared → Prop) : Cx := { X with xe := E }
/-- no exception leaves -/
abbrev Cx.nox (X : Cx) : Cx := X.wish fun _ _ => False
theorem Cx.Ok.wish {X : Cx} (ok : X.Ok) (E : Value → Shared → Prop) : (X.wish E).Ok :=
  ⟨ok.mod, ok.kind, ok.glob, ok.blt, ok.above, ok.inj, ok.has, ok.cab, ok.hd, ok.frames, ok.stk, ok.exf, ok.bs, ok.bsz, ok.noex, ok.exfs, ok.funs, ok.frf⟩
theorem Cx.Ok.unwish {X : Cx} {E : Value → Shared → Prop} (ok : (X.wish E).Ok) : X.Ok :=
  ⟨ok.mod, ok.kind, ok.glob, ok.blt, ok.above, ok.inj, ok.has, ok.cab, ok.hd, ok.frames, ok.stk, ok.exf, ok.bs, ok.bsz, ok.noex, ok.exfs, ok.funs, ok.frf⟩
section
variable {X : Cx} {pins : List (Addr × Obj)} {σ : St} {H : Hp} {s : Shared} {E : Value → Shared → Prop}
theorem Inv.wish (I : Inv X pins σ H s) (E : Value → Shared → Prop) : Inv (X.wish E) pins σ H s := ⟨I.ok.wish E, I.os, I.bare, I.base, I.loc, I.cell, I.free, I.freeC, I.pin, I.hok, I.len⟩
theorem Inv.unwish (I : Inv (X.wish E) pins σ H s) : Inv X pins σ H s := ⟨I.ok.unwish, I.os, I.bare, I.base, I.loc, I.cell, I.free, I.freeC, I.pin, I.hok, I.len⟩
theorem SP.unwish {D : Ends} {f : Flow} {s' : Shared} (h : SP (X.wish E) pins D f s') : SP X pins D f s' := by
  cases f with
  | next => obtain ⟨σ', H', I, q⟩ := h; exact ⟨σ', H', I.unwish, q⟩
  | brk => obtain ⟨σ', H', I, q⟩ := h; exact ⟨σ', H', I.unwish, q⟩
  | cont => obtain ⟨σ', H', I, q⟩ := h; exact ⟨σ', H', I.unwish, q⟩
  | ret u => obtain ⟨v, σ', H', I, r, q⟩ := h; exact ⟨v, σ', H', I.unwish, r, q⟩
theorem PSs.nox {st : List Stmt} {t : TS} (h : PSs X.nox st t) : PSs X st t := fun pins s σ H D I hw =>
  wpAny_mono (h pins s σ H D (I.wish _) hw) (fun _ _ q => q.unwish) fun _ _ z => False.elim z
end

/-! ### blocks and small statements -/
section
variable {X : Cx} {st : Stmt} {rest : List Stmt} {t u : TS} {e : Expr} {te : TE} {pos : Pos}
def tNext : TS := fun D σ H => D.nx σ H
def tSeq (t u : TS) : TS := fun D σ H => t { D with nx := u D } σ H
theorem pss_nil : PSs X [] tNext := fun _ _ σ H _ I h => wpAny_execs_nil ⟨σ, H, I, h⟩
theorem pss_cons (h1 : PS X st t) (h2 : PSs X rest u) : PSs X (st :: rest) (tSeq t u) := by
  intro pins s σ H D I h
  refine wpAny_execs_cons (thn (h1 pins s σ H { D with nx := u D } I h) fun f s1 q => ?_)
  cases f with
  | next =>
    obtain ⟨σ', H', I', q⟩ := q
    exact h2 pins s1 σ' H' D I' q
  | ret v => exact q
  | brk => exact q
  | cont => exact q
theorem pss_one (h1 : PS X st t) : PSs X [st] t := by
  intro pins s σ H D I h
  refine wpAny_execs_cons (thn (h1 pins s σ H D I h) fun f s1 q => ?_)
  cases f with
  | next => exact wpAny_execs_nil q
  | ret v => exact q
  | brk => exact q
  | cont => exact q
/-- in a def's body nothing is shown -/
theorem Inv.quiet {pins : List (Addr × Obj)} {σ : St} {H : Hp} {s : Shared} (I : Inv X pins σ H s) : interactive X.env = false := by simp [interactive, I.ok.kind]
/-- an expression whose value is dropped -/
def tDrop (te : TE) : TS := fun D σ H => te σ H fun _ H1 => D.nx σ H1
theorem ps_expr (he : PE X e te) (hs : swapsWith e none pos.line X.env = pure false := by rfl) : PS X (.Expr e pos) (tDrop te) := by
  intro pins s σ H D I h
  exact wpAny_Expr_any (thn (he pins s σ H _ I h) fun v s1 ⟨x, H1, I1, r1, q1⟩ => ⟨σ, H1, I1, q1⟩) I.quiet hs
def tRet (te : TE) : TS := fun D σ H => te σ H D.rt
theorem ps_ret (he : PE X e te) : PS X (.Return (some e) pos) (tRet te) := by
  intro pins s σ H D I h
  exact wpAny_Return_some (thn (he pins s σ H _ I h) fun v s1 ⟨x, H1, I1, r1, q1⟩ => ⟨x, σ, H1, I1, r1, q1⟩)
def tIfS (c : TT) (t u : TS) : TS := fun D σ H => c σ H fun b H1 => if b = true then t D σ H1 else u D σ H1
theorem ps_if {c : Expr} {a b : List Stmt} {tc : TT} (hc : PT X c tc) (ha : PSs X a t) (hb : PSs X b u) : PS X (.If c a b pos) (tIfS tc t u) := by
  intro pins s σ H D I h
  refine wpAny_If (thn (hc pins s σ H _ I h) fun d s1 ⟨H1, I1, q1⟩ => ?_)
  cases d with
  | true => exact ha pins s1 σ H1 D I1 q1
  | false => exact hb pins s1 σ H1 D I1 q1
/-- code that the proof never comes to -/
def tNever : TS := fun _ _ _ => False
theorem ps_never : PS X st tNever := fun _ _ _ _ _ _ h => h.elim
end

/-! ### targets -/
abbrev TG := V → St → Hp → (St → Hp → Prop) → Prop
abbrev TGs := List V → St → Hp → (St → Hp → Prop) → Prop
def PG (X : Cx) (target : Expr) (t : TG) : Prop :=
  ∀ (pins : List (Addr × Obj)) (s : Shared) (σ : St) (H : Hp) (v : V) (u : Value) (Q : St → Hp → Prop), Inv X pins σ H s → RelV v u → t v σ H Q →
    wpAny (model X.prog X.w) X.A (assign target X.env u) (fun _ s' => ∃ σ' H', Inv X pins σ' H' s' ∧ Q σ' H') X.xe s
/-- several targets, one after another -/
def PGs (X : Cx) (ts : List Expr) (t : TGs) : Prop :=
  ∀ (pins : List (Addr × Obj)) (s : Shared) (σ : St) (H : Hp) (vs : List V) (us : List Value) (Q : St → Hp → Prop), Inv X pins σ H s → Vals vs us → t vs σ H Q →
    wpAny (model X.prog X.w) X.A (assignInOrder ((assignEach ts X.env).map (·.2)) us) (fun _ s' => ∃ σ' H', Inv X pins σ' H' s' ∧ Q σ' H') X.xe s
section
variable {X : Cx} {pos : Pos}
def gName (i : Nat) : TG := fun v σ H Q => Q (σ.set i (some v)) H
theorem pg_name {i : Nat} {x : Str} (hN : X.N.Nodup) (hi : X.N[i]? = some x) (hx : Loc X.env.scope x) (hf : X.fn x = true ∨ X.env.scope.names.lookup x = some .local := by first | exact .inl rfl | exact .inr rfl | assumption) : PG X (.Name x pos) (gName i) := by
  intro pins s σ H v u Q I r h
  exact wpAny_assign_Name (store_ok I hN hi hx r (fun s' I' => ⟨_, H, I', h⟩) hf)
def gNil : TGs := fun vs σ H Q => vs = [] ∧ Q σ H
def gCons (t : TG) (u : TGs) : TGs := fun vs σ H Q => ∃ v r, vs = v :: r ∧ t v σ H fun σ' H' => u r σ' H' Q
theorem pgs_nil : PGs X [] gNil := by
  intro pins s σ H vs us Q I r h
  obtain ⟨e, h⟩ := h
  subst e
  cases r
  exact assignInOrder_nil ⟨σ, H, I, h⟩
theorem pgs_cons {e : Expr} {es : List Expr} {t : TG} {u : TGs} (h1 : PG X e t) (h2 : PGs X es u)
    (hs : (assignEach (e :: es) X.env).map (·.2) = assign e X.env :: (assignEach es X.env).map (·.2) := by rfl) : PGs X (e :: es) (gCons t u) := by
  intro pins s σ H vs us Q I r h
  obtain ⟨v, vr, e1, h⟩ := h
  subst e1
  cases r with
  | cons r rr =>
    rw [hs]
    refine assignInOrder_cons (thn (h1 pins s σ H _ _ _ I r h) fun _ s1 ⟨σ1, H1, I1, q1⟩ => ?_)
    exact h2 pins s1 σ1 H1 _ _ Q I1 rr q1
/-- (a, b, ..) = a tuple of that length -/
def gTup (K : PySem.W.Frag) (n : Nat) (t : TGs) : TG := fun v σ H Q => ∃ a xs, v = .ref a ∧ SqT K H a xs ∧ xs.length = n ∧ t xs σ H Q
theorem pg_tup {es : List Expr} {k : Nat} {t : TGs} {n : Nat} (hc : X.calm = true) (h : PGs X es t)
    (hn : (assignEach es X.env).length = n := by rfl) (hst : (assignEach es X.env).findIdx? (·.1) = none := by rfl) : PG X (.Tuple es k pos) (gTup X.K n t) := by
  intro pins s σ H v u Q I r hw
  obtain ⟨a, xs, e1, hq, hl, hw⟩ := hw
  subst e1
  cases r
  obtain ⟨its, rv, ht, hz⟩ := I.tuple hq
  refine assign_Tuple_tuple (I.ok.hd hc) ht (by simp [hn, ← hl, rv.length]) hst fun h' hx => ?_
  have I1 : Inv X pins σ H { s with heap := h' } := I.kept (t' := s.toks) fun b o e => hx b o (Nat.ne_of_lt (Heap.lt_size e)) e
  exact h pins _ σ H xs _ Q I1 (by simpa using rv) hw
/-- target = value -/
def tAsg (te : TE) (g : TG) : TS := fun D σ H => te σ H fun x H1 => g x σ H1 D.nx
/-- name = value -/
theorem ps_set {i : Nat} {x : Str} {e : Expr} {te : TE} {pos' : Pos} (hN : X.N.Nodup) (hi : X.N[i]? = some x) (hx : Loc X.env.scope x) (he : PE X e te) (hs : swapsWith e (some (.Name x pos')) pos.line X.env = pure false := by rfl) (hf : X.fn x = true ∨ X.env.scope.names.lookup x = some .local := by first | exact .inl rfl | exact .inr rfl | assumption) :
    PS X (.Assign [.Name x pos'] e pos) (tAsg te (gName i)) := by
  intro pins s σ H D I h
  refine wpAny_Assign_Name (thn (he pins s σ H _ I h) fun v s1 ⟨y, H1, I1, r1, q1⟩ => ?_) hs
  exact store_ok I1 hN hi hx r1 (fun s2 I2 => ⟨_, H1, I2, q1⟩) hf
end

/-! ### while -/
section
variable {X : Cx} {pos : Pos}
end

/-! ### what a loop or a comprehension walks -/
/-- at turn i: it yields x (the heap may grow), or it stops -/
structure It where
  go : Nat → Hp → Prop
  yld : Nat → Hp → V → Hp → Prop
  stop : Nat → Hp → Prop
/-- the iterator's own objects may turn: they are not the frame's, not pinned, younger than the entry (or a comprehension's own) -/
def FpOk (X : Cx) (pins : List (Addr × Obj)) (H : Hp) (b : Addr) : Prop :=
  H b = none ∧ b ≠ X.env.locals ∧ b ∉ X.fs ∧ (b ∈ X.ex ∨ X.s₀.heap.objs.size ≤ b) ∧ (∀ x c, X.env.cells.lookup x = some c → c ≠ b) ∧ ∀ p ∈ X.pn ++ pins, p.1 ≠ b
theorem Inv.fpOk {X : Cx} {pins : List (Addr × Obj)} {σ : St} {H H' : Hp} {s : Shared} {b : Addr} (I : Inv X pins σ H s) (hb : s.heap.objs.size ≤ b) (hn : H' b = none) : FpOk X pins H' b := by
  refine ⟨hn, Nat.ne_of_gt (Nat.lt_of_lt_of_le I.lt hb), I.nofs hb, .inr (Nat.le_trans I.sz hb), fun x c e z => ?_, fun p hp z => ?_⟩
  · obtain ⟨v, q⟩ := I.cell x c e
    exact absurd (Nat.lt_of_lt_of_le q.lt (by rw [z]; exact hb)) (Nat.lt_irrefl _)
  · exact absurd (Nat.lt_of_lt_of_le (Heap.lt_size (I.pin p hp).1) (by rw [z]; exact hb)) (Nat.lt_irrefl _)
structure Turn (P : Program) (w : World) (K : PySem.W.Frag) (tg : Expr) (J : It) (fp : List Addr) (it : Addr) (tn : Nat → Heap → Prop) : Prop where
  mem : it ∈ fp
  obj : ∀ i h, tn i h → ∀ b ∈ fp, ∃ o, h.get? b = some o ∧ ∀ v, o.data ≠ .cell v
  keep : ∀ i h h', tn i h → (∀ b ∈ fp, ∀ o, h.get? b = some o → h'.get? b = some o) → tn i h'
  item : ∀ (X : Cx), X.prog = P → X.w = w → X.K = K → X.calm = true → ∀ (i : Nat) (pins : List (Addr × Obj)) (s : Shared) (σ : St) (H : Hp) (E : Value → Shared → Prop), Inv X pins σ H s → (∀ b ∈ fp, FpOk X pins H b) → tn i s.heap → J.go i H →
    wpAny (model P w) X.A (pyNext (.ref it)) (fun r s1 => ∃ u, r = some u ∧
      wpAny (model P w) X.A (letOwnedTupleGo tg (.ref it) u) (fun _ s2 => ∃ x H', Inv X pins σ H' s2 ∧ RelV x u ∧ J.yld i H x H' ∧ tn (i + 1) s2.heap ∧ ∀ b ∈ fp, H' b = none) E s1) E s
  done : ∀ (X : Cx), X.prog = P → X.w = w → X.K = K → X.calm = true → ∀ (i : Nat) (pins : List (Addr × Obj)) (s : Shared) (σ : St) (H : Hp) (E : Value → Shared → Prop), Inv X pins σ H s → (∀ b ∈ fp, FpOk X pins H b) → tn i s.heap → J.stop i H →
    wpAny (model P w) X.A (pyNext (.ref it)) (fun r s1 => r = none ∧ Inv X pins σ H s1) E s
  self : ∀ (A : Around) (i : Nat) (s : Shared) (Q : Value → Shared → Prop) (E : Value → Shared → Prop), tn i s.heap → Q (.ref it) s → wpAny (model P w) A (pyIter (.ref it)) Q E s
abbrev TI := St → Hp → (It → Hp → Prop) → Prop
/-- an iterator has come -/
def PIE (X : Cx) (pins : List (Addr × Obj)) (σ : St) (tg : Expr) (R : It → Hp → Prop) (itv : Value) (s2 : Shared) : Prop :=
  ∃ (it : Addr) (fp : List Addr) (tn : Nat → Heap → Prop) (J : It) (H' : Hp), itv = .ref it ∧ Inv X pins σ H' s2 ∧ Turn X.prog X.w X.K tg J fp it tn ∧ tn 0 s2.heap ∧ (∀ b ∈ fp, FpOk X pins H' b) ∧ R J H'
def PI (X : Cx) (tg iter : Expr) (wi : TI) : Prop :=
  ∀ (pins : List (Addr × Obj)) (s : Shared) (σ : St) (H : Hp) (R : It → Hp → Prop), Inv X pins σ H s → wi σ H R →
    wpAny (model X.prog X.w) X.A (eval iter X.env) (fun v s1 => wpAny (model X.prog X.w) X.A (pyIter v) (PIE X pins σ tg R) X.xe s1) X.xe s

/-- the step ahead of the store is nothing for an iterator that keeps no tuple -/
theorem go_of {M : Model} {A : Around} {E : Value → Shared → Prop} {s : Shared} {tg : Expr} {it : Addr} {u : Value} {o : Obj} {n : String} {vs : Array Value} {Q : Unit → Shared → Prop} (ho : s.heap.get? it = some o) (hc : o.cls = .type n) (hd : o.data = .fields vs)
    (hn : ["enumerate", "zip", "dict_itemiterator", "dict_reverseitemiterator", "odict_iterator", "itertools.zip_longest", "itertools.pairwise"].contains n = false) (hQ : Q () s) : wpAny M A (letOwnedTupleGo tg (.ref it) u) Q E s := by
  unfold letOwnedTupleGo
  cases tg <;> first
    | exact wpAny_pure hQ
    | (cases u <;> first
        | exact wpAny_pure hQ
        | (refine wpAny_bind (wpAny_load ho ?_)
           rw [hc, hd]
           show wpAny M A (if (["enumerate", "zip", "dict_itemiterator", "dict_reverseitemiterator", "odict_iterator", "itertools.zip_longest", "itertools.pairwise"].contains n && vs[0]? == some (rawInt _)) = true then _ else _) Q E s
           rw [if_neg (by intro h; rw [hn, Bool.false_and] at h; cases h)]
           exact wpAny_pure hQ))

/-- the list at a, as it stands at each turn (a loop may append to it) -/
def Itl (K : PySem.W.Frag) (a : Addr) : It :=
  ⟨fun i H => ∃ xs x, SqL K H a xs ∧ xs[i]? = some x, fun i H x H' => H' = H ∧ ∀ xs, SqL K H a xs → xs[i]? = some x, fun i H => ∃ xs, SqL K H a xs ∧ xs.length ≤ i⟩
/-- lo, lo + 1, .. (n of them) -/
def Itr (lo : Int) (n : Nat) : It := ⟨fun i _ => i < n, fun i H x H' => H' = H ∧ x = .int (lo + i), fun i _ => n ≤ i⟩
theorem turn_list {P : Program} {w : World} {K : PySem.W.Frag} {tg : Expr} (a it : Addr) : Turn P w K tg (Itl K a) [it] it (fun i h => h.IsListIter it a i) where
  mem := by simp
  obj := fun i h st b hb => by
    have e : b = it := by simpa using hb
    subst e
    obtain ⟨o, e, c, d⟩ := st
    exact ⟨o, e, fun v z => by rw [d] at z; cases z⟩
  keep := fun i h h' st k => st.at fun o e => k it (by simp) o e
  item := by
    intro X hP hw hK hc i pins s σ H E I hf st hg
    subst hP hw hK
    obtain ⟨xs, x, hq, hx⟩ := hg
    obtain ⟨its, rv, p, hz⟩ := I.list hq
    obtain ⟨u, hu, ru⟩ := rv.get hx
    obtain ⟨f0, f1, f2, f3, f4, f5⟩ := hf it (by simp)
    refine wpAny_pyNext_list_item st p.isList (x := u) (by simpa using hu) fun h' st' sb => ?_
    have I1 : Inv X pins σ H { s with heap := h' } := I.turned (t' := s.toks) (fun b o hb e => (sb.2 b hb).trans e) f0 f1 f3 f4 f5
    obtain ⟨o, e, c, d⟩ := id st'
    exact ⟨u, rfl, go_of (s := { s with heap := h' }) e c d (by decide) ⟨x, H, I1, ru, ⟨rfl, fun ys hy => by rw [I.list_inj hy hq]; exact hx⟩, st', fun b hb => (hf b hb).1⟩⟩
  done := by
    intro X hP hw hK hc i pins s σ H E I hf st hg
    subst hP hw hK
    obtain ⟨xs, hq, hx⟩ := hg
    obtain ⟨its, rv, p, hz⟩ := I.list hq
    obtain ⟨f0, f1, f2, f3, f4, f5⟩ := hf it (by simp)
    have hl := rv.length
    exact wpAny_pyNext_list_end (I.ok.hd hc) st p.isList (by simp; omega) fun h' eb => ⟨rfl, I.turned (t' := s.toks) (fun b o hb e => eb b o hb e) f0 f1 f3 f4 f5⟩
  self := fun _ _ _ _ _ st h => wpAny_pyIter_listiter st h
theorem turn_range {P : Program} {w : World} {K : PySem.W.Frag} {tg : Expr} (it : Addr) (lo : Int) (n : Nat) : Turn P w K tg (Itr lo n) [it] it (fun i h => IsRangeIter h it (lo + (i : Nat) * 1) ((n : Int) - (i : Nat)) 1) where
  mem := by simp
  obj := fun i h st b hb => by
    have e : b = it := by simpa using hb
    subst e
    exact ⟨_, st, fun v z => by
      have z' : Data.fields _ = Data.cell v := z
      cases z'⟩
  keep := fun i h h' st k => k it (by simp) _ st
  item := by
    intro X hP hw hK hc i pins s σ H E I hf st hg
    subst hP hw hK
    obtain ⟨f0, f1, f2, f3, f4, f5⟩ := hf it (by simp)
    have W := Walks.range (prog := X.prog) (w := X.w) (I.ok.hd hc) it lo 1 n
    refine W.item i s _ _ hg st fun v h' tk hv st' kk => ?_
    obtain ⟨t, rfl⟩ := hv
    have I1 : Inv X pins σ H { s with heap := h', toks := tk } := I.turned (fun b o hb e => kk b o (by simpa using hb) e) f0 f1 f3 f4 f5
    refine ⟨_, rfl, go_of (s := { s with heap := h', toks := tk }) (n := "range_iterator") st' rfl rfl (by decide) ⟨.int (lo + i), H, I1, ⟨t, ?_⟩, ⟨rfl, rfl⟩, st', fun b hb => (hf b hb).1⟩⟩
    rw [Int.mul_one]
  done := by
    intro X hP hw hK hc i pins s σ H E I hf st hg
    subst hP hw hK
    obtain ⟨f0, f1, f2, f3, f4, f5⟩ := hf it (by simp)
    exact wpAny_pyNext_range_end (I.ok.hd hc) st (by have : n ≤ i := hg; omega) fun h' eb => ⟨rfl, I.turned (t' := s.toks) (fun b o hb e => eb b o hb e) f0 f1 f3 f4 f5⟩
  self := fun _ _ _ _ _ st h => wpAny_pyIter_rangeiter st h
end L2

namespace L2
open PySem PySem.Spec PyProof.Rows
section
variable {X : Cx} {tg : Expr}
def iList (K : PySem.W.Frag) (tl : TE) : TI := fun σ H R => tl σ H fun x H1 => ∃ a, x = .ref a ∧ (∃ xs, SqL K H1 a xs) ∧ R (Itl K a) H1
theorem pi_list {l : Expr} {tl : TE} (hl : PE X l tl) : PI X tg l (iList X.K tl) := by
  intro pins s σ H R I h
  refine thn (hl pins s σ H _ I h) fun v s1 ⟨x, H1, I1, r1, q1⟩ => ?_
  obtain ⟨a, e, ⟨xs, hq⟩, q⟩ := q1
  subst e
  cases r1
  obtain ⟨its, rv, p, hz⟩ := I1.list hq
  refine wpAny_pyIter_list p.isList ?_
  refine ⟨s1.heap.objs.size, [s1.heap.objs.size], _, _, H1, rfl, I1.kept (t' := s1.toks) fun b o e => Heap.get?_push_of_some _ e, turn_list a _, ⟨_, Heap.get?_push_size _ rfl, rfl, rfl⟩, fun b hb => ?_, q⟩
  have e : b = s1.heap.objs.size := by simpa using hb
  subst e
  exact I1.fpOk (Nat.le_refl _) (I1.hok.fresh (Nat.le_refl _))
/-- a range object just made, walked -/
theorem range_it {pins : List (Addr × Obj)} {σ : St} {H : Hp} {s : Shared} {R : It → Hp → Prop} {E : Value → Shared → Prop} {lo hi : Int} {t u v : Tok} {tk : Nat} (I : Inv X pins σ H s) (h1 : -(2 ^ 62) ≤ lo) (h2 : lo < 2 ^ 62) (h3 : -(2 ^ 62) ≤ hi) (h4 : hi < 2 ^ 62)
    (q : R (Itr lo (hi - lo).toNat) H) : wpAny (model X.prog X.w) X.A (pyIter (.ref s.heap.objs.size)) (PIE X pins σ tg R) E { s with heap := s.heap.push { cls := .type "range", data := .fields #[.int lo t, .int hi u, .int 1 v] }, toks := tk } := by
  refine wpAny_pyIter_range (IsRange.new ..) (small_one h1 h2 h3 h4) ?_
  have I1 : Inv X pins σ H { s with heap := s.heap.push { cls := .type "range", data := .fields #[.int lo t, .int hi u, .int 1 v] }, toks := tk } := I.kept fun b o e => Heap.get?_push_of_some _ e
  refine ⟨(s.heap.push { cls := .type "range", data := .fields #[.int lo t, .int hi u, .int 1 v] }).objs.size, [(s.heap.push { cls := .type "range", data := .fields #[.int lo t, .int hi u, .int 1 v] }).objs.size], _, _, H, rfl,
    I1.kept (t' := tk) fun b o e => Heap.get?_push_of_some _ e, turn_range _ lo (hi - lo).toNat, ?_, fun b hb => ?_, q⟩
  · have e1 : lo + ((0 : Nat) : Int) * 1 = lo := by simp
    have e2 : (((hi - lo).toNat : Nat) : Int) - ((0 : Nat) : Int) = Builtin.Range.rangeSize lo hi 1 := by rw [rangeSize_one]; split <;> omega
    show IsRangeIter _ _ (lo + ((0 : Nat) : Int) * 1) ((((hi - lo).toNat : Nat) : Int) - ((0 : Nat) : Int)) 1
    rw [e1, e2]
    exact Heap.get?_push_size _ rfl
  · have e : b = (s.heap.push { cls := .type "range", data := .fields #[.int lo t, .int hi u, .int 1 v] }).objs.size := by simpa using hb
    subst e
    exact I1.fpOk (Nat.le_refl _) (I1.hok.fresh (Nat.le_refl _))
def iRng1 (ta : TA) : TI := fun σ H R => ta σ H fun vs H1 => ∃ j : Int, vs = [.int j] ∧ -(2 ^ 62) ≤ j ∧ j < 2 ^ 62 ∧ R (Itr 0 j.toNat) H1
theorem pi_range1 {a : Expr} {ta : TA} {p pos : Pos} (hg : Gl X "range") (hm : X.mg "range" = none) (ha : PA X [a] ta) (hs : starEach [a] X.env = [(false, eval a X.env)] := by rfl) : PI X tg (.Call (.Name "range" p) [a] [] pos) (iRng1 ta) := by
  intro pins s σ H R I h
  refine Call_ (ld_blt I hg hm boot_range (PyProof.Rows.callWith_type1 (thn (ha pos pins s σ H _ I h) fun us s1 ⟨vs, H1, I1, r1, q1⟩ => ?_) hs rfl))
  obtain ⟨j, e, q1, q2, q⟩ := q1
  subst e
  cases r1 with
  | cons r rr =>
    cases rr
    obtain ⟨t, rfl⟩ := r
    exact call_range_1 (range_it I1 (by omega) (by omega) q1 q2 (by simpa using q))

/-! ### for -/
/-- W: the invariant by the turn and a measure; N: what the body is to reach -/
def tFor (wi : TI) (g : TG) (tb : TS) : TS := fun D σ H => wi σ H fun J H1 => ∃ W : Nat → Nat → St → Hp → Prop, (∃ m, W 0 m σ H1) ∧ ∀ i m σ H, W i m σ H →
  (J.stop i H ∧ D.nx σ H) ∨ (J.go i H ∧ ∃ N : St → Hp → Prop, (∀ σ' H', N σ' H' → ∃ m', m' < m ∧ W (i + 1) m' σ' H') ∧ ∀ x H', J.yld i H x H' → g x σ H' fun σ2 H2 => tb { D with nx := N, ct := N, bk := D.nx } σ2 H2)
/-- the records at fp as they stand -/
def pinsAt (fp : List Addr) (h : Heap) : List (Addr × Obj) := fp.filterMap fun b => (h.get? b).map fun o => (b, o)
theorem mem_pinsAt {fp : List Addr} {h : Heap} {b : Addr} {o : Obj} (hb : b ∈ fp) (e : h.get? b = some o) : (b, o) ∈ pinsAt fp h := List.mem_filterMap.mpr ⟨b, hb, by rw [e]; rfl⟩
theorem of_pinsAt {fp : List Addr} {h : Heap} {p : Addr × Obj} (hp : p ∈ pinsAt fp h) : p.1 ∈ fp ∧ h.get? p.1 = some p.2 := by
  obtain ⟨b, hb, e⟩ := List.mem_filterMap.mp hp
  cases q : h.get? b with
  | none => rw [q] at e; cases e
  | some o =>
    rw [q] at e
    have e' : (b, o) = p := Option.some.inj e
    subst e'
    exact ⟨hb, q⟩
theorem Inv.pinned {pins : List (Addr × Obj)} {σ : St} {H : Hp} {s : Shared} {fp : List Addr} (I : Inv X pins σ H s) (hf : ∀ b ∈ fp, FpOk X pins H b) (ho : ∀ b ∈ fp, ∃ o, s.heap.get? b = some o ∧ ∀ v, o.data ≠ .cell v) : Inv X (pins ++ pinsAt fp s.heap) σ H s :=
  I.pins_of fun p hp => (List.mem_append.mp hp).elim (fun z => I.pin p (List.mem_append_right _ z)) fun z => by
    obtain ⟨hb, e⟩ := of_pinsAt z
    obtain ⟨f0, f1, f2, _⟩ := hf p.1 hb
    obtain ⟨o, e', d⟩ := ho p.1 hb
    rw [e] at e'; cases e'
    exact ⟨e, f0, f1, f2, d⟩
theorem Inv.unpinned {pins pl : List (Addr × Obj)} {σ : St} {H : Hp} {s : Shared} (I : Inv X (pins ++ pl) σ H s) : Inv X pins σ H s := I.pins_of fun p hp => I.pin p (List.mem_append_right _ (List.mem_append_left _ hp))
theorem ps_for {iter : Expr} {body : List Stmt} {wi : TI} {g : TG} {tb : TS} {pos : Pos} (hp : PassesOwn (model X.prog X.w) X.A X.env X.xe) (hc : X.calm = true) (hi : PI X tg iter wi) (hg : PG X tg g) (hb : PSs X body tb)
    (hs : ∀ x, foldedSetIterable iter X.env x = pure x := by intro _; rfl) : PS X (.For tg iter body [] pos) (tFor wi g tb) := by
  intro pins s σ H D I h
  refine wpAny_For (thn (hi pins s σ H _ I h) fun v s1 h1 => thn h1 fun itv s2 h2 => ?_) hs
  obtain ⟨it, fp, tn, J, H2, e, I2, T, st2, f2, W, ⟨m0, w0⟩, turn⟩ := h2
  subst e
  -- what stays true of the iterator's objects through the loop
  have stat : ∀ {H' : Hp}, (∀ b ∈ fp, H' b = none) → ∀ b ∈ fp, FpOk X pins H' b := fun hn b hb => ⟨hn b hb, (f2 b hb).2⟩
  refine codeAny_forLoop_any (fun n s' => ∃ i σ' H', Inv X pins σ' H' s' ∧ tn i s'.heap ∧ (∀ b ∈ fp, H' b = none) ∧ W i n σ' H') ?_ m0 ⟨0, σ, H2, I2, st2, fun b hb => (f2 b hb).1, w0⟩
  rintro n s3 ⟨i, σ3, H3, I3, st3, fr3, w3⟩
  rcases turn i n σ3 H3 w3 with ⟨stop, qn⟩ | ⟨go, N, hN, step⟩
  · refine wpAny_passesOwn hp (thn (T.done X rfl rfl rfl hc i pins s3 σ3 H3 X.xe I3 (stat fr3) st3 stop) fun r s4 ⟨hr, I4⟩ => ?_)
    subst hr
    exact wpAny_execs_nil ⟨σ3, H3, I4, qn⟩
  · refine wpAny_passesOwn hp (thn (T.item X rfl rfl rfl hc i pins s3 σ3 H3 X.xe I3 (stat fr3) st3 go) fun r s4 ⟨u, hr, h4⟩ => ?_)
    subst hr
    refine wpAny_passesOwn hp (thn h4 fun _ s5 ⟨x, H5, I5, r5, y5, st5, fr5⟩ => ?_)
    have I5' := I5.pinned (stat fr5) (T.obj _ _ st5)
    refine wpAny_passesOwn hp (thn (hg _ s5 σ3 H5 x u _ I5' r5 (step x H5 y5)) fun _ s6 ⟨σ6, H6, I6, q6⟩ => ?_)
    refine wpAny_passesOwn hp (thn (hb _ s6 σ6 H6 _ I6 q6) fun f s7 q7 => ?_)
    have again : ∀ {σ7 : St} {H7 : Hp}, Inv X (pins ++ pinsAt fp s5.heap) σ7 H7 s7 → N σ7 H7 → ∃ m, m < n ∧ ∃ i σ' H', Inv X pins σ' H' s7 ∧ tn i s7.heap ∧ (∀ b ∈ fp, H' b = none) ∧ W i m σ' H' := fun {σ7 H7} I7 n7 => by
      obtain ⟨m', hm, w7⟩ := hN σ7 H7 n7
      refine ⟨m', hm, i + 1, σ7, H7, I7.unpinned, T.keep _ _ _ st5 fun b hb o e => (I7.pin (b, o) (List.mem_append_right _ (List.mem_append_right _ (mem_pinsAt hb e)))).1, fun b hb => ?_, w7⟩
      obtain ⟨o, e, d⟩ := T.obj _ _ st5 b hb
      exact (I7.pin (b, o) (List.mem_append_right _ (List.mem_append_right _ (mem_pinsAt hb e)))).2.1
    cases f with
    | next => obtain ⟨σ7, H7, I7, n7⟩ := q7; exact again I7 n7
    | cont => obtain ⟨σ7, H7, I7, n7⟩ := q7; exact again I7 n7
    | brk => obtain ⟨σ7, H7, I7, q7⟩ := q7; exact ⟨σ7, H7, I7.unpinned, q7⟩
    | ret v => obtain ⟨x7, σ7, H7, I7, r7, q7⟩ := q7; exact ⟨x7, σ7, H7, I7.unpinned, r7, q7⟩
end

/-! ### the forms one uses -/
/-- over a list that the body leaves as it is -/
theorem for_list {K : PySem.W.Frag} {a : Addr} {xs : List V} {g : TG} {tb : TS} {D : Ends} {σ : St} {H : Hp} (Pv : Nat → St → Hp → Prop) (h0 : Pv 0 σ H) (hl : ∀ i σ H, i ≤ xs.length → Pv i σ H → SqL K H a xs)
    (hs : ∀ i x σ H, xs[i]? = some x → Pv i σ H → g x σ H fun σ2 H2 => tb { D with nx := Pv (i + 1), ct := Pv (i + 1), bk := D.nx } σ2 H2) (hd : ∀ σ H, Pv xs.length σ H → D.nx σ H) :
    ∃ W : Nat → Nat → St → Hp → Prop, (∃ m, W 0 m σ H) ∧ ∀ i m σ H, W i m σ H →
      ((Itl K a).stop i H ∧ D.nx σ H) ∨ ((Itl K a).go i H ∧ ∃ N : St → Hp → Prop, (∀ σ' H', N σ' H' → ∃ m', m' < m ∧ W (i + 1) m' σ' H') ∧ ∀ x H', (Itl K a).yld i H x H' → g x σ H' fun σ2 H2 => tb { D with nx := N, ct := N, bk := D.nx } σ2 H2) := by
  refine ⟨fun i m σ H => m = xs.length - i ∧ i ≤ xs.length ∧ Pv i σ H, ⟨xs.length, by simp, Nat.zero_le _, h0⟩, ?_⟩
  rintro i m σ H ⟨rfl, hi, p⟩
  have q := hl i σ H hi p
  by_cases hlt : i < xs.length
  · refine .inr ⟨⟨xs, xs[i], q, by simp [hlt]⟩, Pv (i + 1), fun σ' H' p' => ⟨xs.length - (i + 1), by omega, rfl, hlt, p'⟩, fun x H' y => ?_⟩
    obtain ⟨e, y⟩ := y
    subst e
    exact hs i x σ _ (y xs q) p
  · have e : i = xs.length := by omega
    subst e
    exact .inl ⟨⟨xs, q, Nat.le_refl _⟩, hd σ H p⟩
theorem for_range {lo : Int} {n : Nat} {g : TG} {tb : TS} {D : Ends} {σ : St} {H : Hp} (Pv : Nat → St → Hp → Prop) (h0 : Pv 0 σ H)
    (hs : ∀ i σ H, i < n → Pv i σ H → g (.int (lo + i)) σ H fun σ2 H2 => tb { D with nx := Pv (i + 1), ct := Pv (i + 1), bk := D.nx } σ2 H2) (hd : ∀ σ H, Pv n σ H → D.nx σ H) :
    ∃ W : Nat → Nat → St → Hp → Prop, (∃ m, W 0 m σ H) ∧ ∀ i m σ H, W i m σ H →
      ((Itr lo n).stop i H ∧ D.nx σ H) ∨ ((Itr lo n).go i H ∧ ∃ N : St → Hp → Prop, (∀ σ' H', N σ' H' → ∃ m', m' < m ∧ W (i + 1) m' σ' H') ∧ ∀ x H', (Itr lo n).yld i H x H' → g x σ H' fun σ2 H2 => tb { D with nx := N, ct := N, bk := D.nx } σ2 H2) := by
  refine ⟨fun i m σ H => m = n - i ∧ i ≤ n ∧ Pv i σ H, ⟨n, by simp, Nat.zero_le _, h0⟩, ?_⟩
  rintro i m σ H ⟨rfl, hi, p⟩
  by_cases hlt : i < n
  · refine .inr ⟨hlt, Pv (i + 1), fun σ' H' p' => ⟨n - (i + 1), by omega, rfl, hlt, p'⟩, fun x H' y => ?_⟩
    obtain ⟨e, y⟩ := y
    subst e y
    exact hs i σ _ hlt p
  · have e : i = n := by omega
    subst e
    exact .inl ⟨Nat.le_refl _, hd σ H p⟩
end L2

namespace L2
open PySem PySem.Spec PyProof.Rows

abbrev R2 := V → V → Hp → VK → Prop
/-- a two-place operation on values: f is binaryOp op, inplaceOp op or compareOp op -/
def OpR (X : Cx) (f : Value → Value → Sem Value) (r : R2) : Prop :=
  ∀ (pins : List (Addr × Obj)) (s : Shared) (σ : St) (H : Hp) (x y : V) (v u : Value) (Q : VK), Inv X pins σ H s → RelV x v → RelV y u → r x y H Q →
    wpAny (model X.prog X.w) X.A (f v u) (EP X pins σ Q) X.xe s
/-- a one-place operation -/
def UnR (X : Cx) (f : Value → Sem Value) (r : V → Hp → VK → Prop) : Prop :=
  ∀ (pins : List (Addr × Obj)) (s : Shared) (σ : St) (H : Hp) (x : V) (v : Value) (Q : VK), Inv X pins σ H s → RelV x v → r x H Q →
    wpAny (model X.prog X.w) X.A (f v) (EP X pins σ Q) X.xe s
/-- a call of a value that is known (a builtin, a type) with values -/
def CallR (X : Cx) (f : Value) (r : List V → Hp → VK → Prop) : Prop :=
  ∀ (pins : List (Addr × Obj)) (s : Shared) (σ : St) (H : Hp) (xs : List V) (us : List Value) (Q : VK), Inv X pins σ H s → Vals xs us → r xs H Q →
    wpAny (model X.prog X.w) X.A (call f us) (EP X pins σ Q) X.xe s
/-- a value's truth -/
def TruR (X : Cx) (r : V → Hp → (Bool → Hp → Prop) → Prop) : Prop :=
  ∀ (pins : List (Addr × Obj)) (s : Shared) (σ : St) (H : Hp) (x : V) (v : Value) (Q : Bool → Hp → Prop), Inv X pins σ H s → RelV x v → r x H Q →
    wpAny (model X.prog X.w) X.A (truthy v) (TP X pins σ Q) X.xe s

def tOp (r : R2) (ta tb : TE) : TE := fun σ H Q => ta σ H fun x H1 => tb σ H1 fun y H2 => r x y H2 Q
def tUn (r : V → Hp → VK → Prop) (ta : TE) : TE := fun σ H Q => ta σ H fun x H1 => r x H1 Q
/-- ints in, under C, and a value out -/
def rI (C : Int → Int → Prop) (g : Int → Int → V) : R2 := fun x y H Q => ∃ i j, x = .int i ∧ y = .int j ∧ C i j ∧ Q (g i j) H
def rI0 (g : Int → Int → V) : R2 := fun x y H Q => ∃ i j, x = .int i ∧ y = .int j ∧ Q (g i j) H
def rU (g : Int → V) : V → Hp → VK → Prop := fun x H Q => ∃ i, x = .int i ∧ Q (g i) H

section
variable {X : Cx} {a b c : Expr} {ta tb tc : TE} {pos : Pos}

theorem binT (ha : PE X a ta) (hb : PE X b tb) {pins : List (Addr × Obj)} {s : Shared} {σ : St} {H : Hp} {R : V → V → Hp → Prop} (I : Inv X pins σ H s)
    (h : ta σ H fun x H1 => tb σ H1 fun y H2 => R x y H2) {Q : Value → Shared → Prop} {f : Value → Value → Sem Value}
    (hf : ∀ v u s2 x y H2, Inv X pins σ H2 s2 → RelV x v → RelV y u → R x y H2 → wpAny (model X.prog X.w) X.A (f v u) Q X.xe s2) :
    wpAny (model X.prog X.w) X.A (eval a X.env) (fun v s₁ => wpAny (model X.prog X.w) X.A (eval b X.env) (fun u s₂ => wpAny (model X.prog X.w) X.A (f v u) Q X.xe s₂) X.xe s₁) X.xe s := by
  refine thn (ha pins s σ H _ I h) fun v s1 ⟨x, H1, I1, r1, q1⟩ => ?_
  refine thn (hb pins s1 σ H1 _ I1 q1) fun u s2 ⟨y, H2, I2, r2, q2⟩ => ?_
  exact hf v u s2 x y H2 I2 r1 r2 q2

theorem pe_op {op : Operator} {r : R2} (ho : OpR X (binaryOp op) r) (ha : PE X a ta) (hb : PE X b tb) : PE X (.BinOp a op b pos) (tOp r ta tb) := by
  intro pins s σ H Q I h
  exact wpAny_BinOp (binT ha hb I h fun v u s2 x y H2 I2 rx ry q => ho pins s2 σ H2 x y v u Q I2 rx ry q)
theorem pe_un {op : UnaryOp} {r : V → Hp → VK → Prop} (ho : UnR X (unaryOp op) r) (ha : PE X a ta) : PE X (.UnaryOp op a pos) (tUn r ta) := by
  intro pins s σ H Q I h
  exact UnaryOp_ (thn (ha pins s σ H _ I h) fun v s1 ⟨x, H1, I1, r1, q1⟩ => ho pins s1 σ H1 x v Q I1 r1 q1)

/-! ### ints -/
theorem opI {f : Value → Value → Sem Value} {C : Int → Int → Prop} {g : Int → Int → Int}
    (rule : ∀ (i j : Int) (t u : Tok) (s : Shared) (Q : Value → Shared → Prop) (E : Value → Shared → Prop), C i j → Q (.int (g i j) s.toks) { s with toks := s.toks + 1 } → wpAny (model X.prog X.w) X.A (f (.int i t) (.int j u)) Q E s) :
    OpR X f (rI C fun i j => .int (g i j)) := by
  intro pins s σ H x y v u Q I rx ry h
  obtain ⟨i, j, rfl, rfl, hc, q⟩ := h
  obtain ⟨t, rfl⟩ := rx
  obtain ⟨t', rfl⟩ := ry
  exact rule i j t t' s _ _ hc ⟨.int (g i j), H, I.tok _, ⟨_, rfl⟩, q⟩
theorem opI0 {f : Value → Value → Sem Value} {g : Int → Int → Int}
    (rule : ∀ (i j : Int) (t u : Tok) (s : Shared) (Q : Value → Shared → Prop) (E : Value → Shared → Prop), Q (.int (g i j) s.toks) { s with toks := s.toks + 1 } → wpAny (model X.prog X.w) X.A (f (.int i t) (.int j u)) Q E s) :
    OpR X f (rI0 fun i j => .int (g i j)) := by
  intro pins s σ H x y v u Q I rx ry h
  obtain ⟨i, j, rfl, rfl, q⟩ := h
  obtain ⟨t, rfl⟩ := rx
  obtain ⟨t', rfl⟩ := ry
  exact rule i j t t' s _ _ ⟨.int (g i j), H, I.tok _, ⟨_, rfl⟩, q⟩
theorem opB0 {f : Value → Value → Sem Value} {g : Int → Int → Bool}
    (rule : ∀ (i j : Int) (t u : Tok) (s : Shared) (Q : Value → Shared → Prop) (E : Value → Shared → Prop), Q (.bool (g i j)) s → wpAny (model X.prog X.w) X.A (f (.int i t) (.int j u)) Q E s) :
    OpR X f (rI0 fun i j => .bl (g i j)) := by
  intro pins s σ H x y v u Q I rx ry h
  obtain ⟨i, j, rfl, rfl, q⟩ := h
  obtain ⟨t, rfl⟩ := rx
  obtain ⟨t', rfl⟩ := ry
  exact rule i j t t' s _ _ ⟨.bl (g i j), H, I, rfl, q⟩

def CDiv (i j : Int) : Prop := 0 < j ∧ j < 1073741824
def CPow (i j : Int) : Prop := 0 ≤ j ∧ j ≤ 1000000 ∧ i.natAbs < 2 ^ 64
def CMul (i j : Int) : Prop := (-(2 ^ 64) < i ∧ i < 2 ^ 64) ∨ (-(2 ^ 64) < j ∧ j < 2 ^ 64)
theorem CMul.ok {i j : Int} (h : CMul i j) : IntMulOk i j := by
  rcases h with ⟨h1, h2⟩ | ⟨h1, h2⟩
  · exact .of_left (intBits_le_64 h1 h2)
  · exact .of_right (intBits_le_64 h1 h2)
theorem two_pow_nn (k : Nat) : (0 : Int) ≤ 2 ^ k := by
  rw [two_pow_cast]
  exact Int.natCast_nonneg _

theorem op_add : OpR X (binaryOp .Add) (rI0 fun i j => .int (i + j)) := opI0 fun _ _ _ _ _ _ _ q => add_int q
theorem op_sub : OpR X (binaryOp .Sub) (rI0 fun i j => .int (i - j)) := opI0 fun _ _ _ _ _ _ _ q => sub_int q
theorem op_mul : OpR X (binaryOp .Mult) (rI CMul fun i j => .int (i * j)) := opI fun _ _ _ _ _ _ _ hc q => mul_int q hc.ok
/-- // by a positive divisor -/
theorem op_fdiv : OpR X (binaryOp .FloorDiv) (rI CDiv fun i j => .int (i / j)) := opI fun i j _ _ _ _ _ hc q => by
  have h1 : (0 : Int) < j := hc.1
  have h2 : j < 1073741824 := hc.2
  exact floordiv_int (by omega) (by rw [Int.fdiv_eq_ediv_of_nonneg i (by omega)]; exact q) (.inl (PyProof.noPylong_small (by omega)))
/-- % by a positive divisor of any size -/
theorem op_mod : OpR X (binaryOp .Mod) (rI (fun _ j => 0 < j) fun i j => .int (i % j)) := opI fun i j _ _ _ _ _ hc q => by
  have h1 : (0 : Int) < j := hc
  exact mod_int' (by omega) (by rw [Int.fmod_eq_emod_of_nonneg i (by omega)]; exact q)
theorem op_shl : OpR X (binaryOp .LShift) (rI CPow fun i j => .int (i * 2 ^ j.toNat)) := opI fun _ _ _ _ _ _ _ hc q => lshift_int_small hc.1 hc.2.1 hc.2.2 q
theorem op_shr : OpR X (binaryOp .RShift) (rI (fun _ j => 0 ≤ j) fun i j => .int (i / 2 ^ j.toNat)) := opI fun i j _ _ _ _ _ hc q =>
  rshift_int hc (by rw [Int.fdiv_eq_ediv_of_nonneg i (two_pow_nn _)]; exact q)
theorem op_and : OpR X (binaryOp .BitAnd) (rI0 fun i j => .int (Builtin.bitAnd i j)) := opI0 fun _ _ _ _ _ _ _ q => and_int q
theorem op_or : OpR X (binaryOp .BitOr) (rI0 fun i j => .int (Builtin.bitOr i j)) := opI0 fun _ _ _ _ _ _ _ q => or_int q


theorem unI {f : Value → Sem Value} {g : Int → Int}
    (rule : ∀ (i : Int) (t : Tok) (s : Shared) (Q : Value → Shared → Prop) (E : Value → Shared → Prop), Q (.int (g i) s.toks) { s with toks := s.toks + 1 } → wpAny (model X.prog X.w) X.A (f (.int i t)) Q E s) :
    UnR X f (rU fun i => .int (g i)) := by
  intro pins s σ H x v Q I rx h
  obtain ⟨i, rfl, q⟩ := h
  obtain ⟨t, rfl⟩ := rx
  exact rule i t s _ _ ⟨.int (g i), H, I.tok _, ⟨_, rfl⟩, q⟩
theorem un_neg : UnR X (unaryOp .USub) (rU fun i => .int (-i)) := unI fun _ _ _ _ _ q => neg_int q
theorem un_inv : UnR X (unaryOp .Invert) (rU fun i => .int (Builtin.bitNot i)) := unI fun _ _ _ _ _ q => invert_int q

/-! ### bools among ints: n += (a < b) -/
end

/-! ### comparisons -/
/-- the scalars that == tells apart as data does -/
def scal : V → V → Bool
  | .non, .non => true | .non, .int _ => true | .int _, .non => true | .non, .bl _ => true | .bl _, .non => true | .non, .str _ => true | .str _, .non => true
  | .int _, .int _ => true | .bl _, .bl _ => true | .str _, .str _ => true | .byt _, .byt _ => true
  | .int _, .str _ => true | .str _, .int _ => true | .bl _, .str _ => true | .str _, .bl _ => true
  | _, _ => false
def rEq : R2 := fun x y H Q => scal x y = true ∧ Q (.bl (decide (x = y))) H
def rNe : R2 := fun x y H Q => scal x y = true ∧ Q (.bl (!decide (x = y))) H

theorem dec_int {i j : Int} : decide (V.int i = V.int j) = (i == j) := by
  rw [Bool.eq_iff_iff]
  simp
theorem dec_bl {i j : Bool} : decide (V.bl i = V.bl j) = (i == j) := by
  rw [Bool.eq_iff_iff]
  simp
theorem dec_str {i j : Str} : decide (V.str i = V.str j) = (i == j) := by
  rw [Bool.eq_iff_iff]
  simp
theorem dec_byt {i j : Array UInt8} : decide (V.byt i = V.byt j) = (i.toList == j.toList) := by
  rw [Bool.eq_iff_iff]
  cases i
  cases j
  simp

section
variable {X : Cx} {a b c : Expr} {ta tb tc : TE} {pos : Pos}
theorem fin_bl {pins : List (Addr × Obj)} {σ : St} {H : Hp} {s : Shared} {Q : VK} {k k' : Bool} (I : Inv X pins σ H s) (q : Q (.bl k) H) (e : k = k') : EP X pins σ Q (.bool k') s := by
  subst e
  exact ⟨.bl k, H, I, rfl, q⟩
theorem op_eq : OpR X (compareOp .Eq) rEq := by
  intro pins s σ H x y v u Q I rx ry h
  obtain ⟨hs, q⟩ := h
  cases x with
  | non =>
    cases rx
    cases y with
    | non => cases ry; exact PySem.EqNone.eq_none_none (fin_bl I q (by simp))
    | bl j => cases ry; exact PySem.EqNone.eq_none_bool (fin_bl I q (by simp))
    | int j => obtain ⟨t', rfl⟩ := ry; exact PySem.EqNone.eq_none_int (fin_bl I q (by simp))
    | str j => obtain ⟨t', rfl⟩ := ry; exact PySem.EqNone.eq_none_str (fin_bl I q (by simp))
    | _ => exact absurd (show false = true from hs) Bool.false_ne_true
  | bl i =>
    cases rx
    cases y with
    | non => cases ry; exact PySem.EqNone.eq_bool_none (fin_bl I q (by simp))
    | bl j => cases ry; exact eq_bool (fin_bl I q dec_bl)
    | str j => obtain ⟨t', rfl⟩ := ry; exact PySem.EqMixed.eq_bool_str (fin_bl I q (by simp))
    | _ => exact absurd (show false = true from hs) Bool.false_ne_true
  | int i =>
    obtain ⟨t, rfl⟩ := rx
    cases y with
    | non => cases ry; exact PySem.EqNone.eq_int_none (fin_bl I q (by simp))
    | int j => obtain ⟨t', rfl⟩ := ry; exact eq_int (fin_bl I q dec_int)
    | str j => obtain ⟨t', rfl⟩ := ry; exact PySem.EqMixed.eq_int_str (fin_bl I q (by simp))
    | _ => exact absurd (show false = true from hs) Bool.false_ne_true
  | str i =>
    obtain ⟨t, rfl⟩ := rx
    cases y with
    | non => cases ry; exact PySem.EqNone.eq_str_none (fin_bl I q (by simp))
    | bl j => cases ry; exact PySem.EqMixed.eq_str_bool (fin_bl I q (by simp))
    | int j => obtain ⟨t', rfl⟩ := ry; exact PySem.EqMixed.eq_str_int (fin_bl I q (by simp))
    | str j => obtain ⟨t', rfl⟩ := ry; exact eq_str (fin_bl I q dec_str)
    | _ => exact absurd (show false = true from hs) Bool.false_ne_true
  | byt i =>
    obtain ⟨t, rfl⟩ := rx
    cases y with
    | byt j => obtain ⟨t', rfl⟩ := ry; exact PySem.W.eq_bytes (fin_bl I q dec_byt)
    | _ => exact absurd (show false = true from hs) Bool.false_ne_true
  | _ => cases y <;> exact absurd (show false = true from hs) Bool.false_ne_true
theorem op_ne : OpR X (compareOp .NotEq) rNe := by
  intro pins s σ H x y v u Q I rx ry h
  obtain ⟨hs, q⟩ := h
  cases x with
  | non =>
    cases rx
    cases y with
    | non => cases ry; exact PySem.EqNone.ne_none_none (fin_bl I q (by simp))
    | bl j => cases ry; exact PySem.EqNone.ne_none_bool (fin_bl I q (by simp))
    | int j => obtain ⟨t', rfl⟩ := ry; exact PySem.EqNone.ne_none_int (fin_bl I q (by simp))
    | str j => obtain ⟨t', rfl⟩ := ry; exact PySem.EqNone.ne_none_str (fin_bl I q (by simp))
    | _ => exact absurd (show false = true from hs) Bool.false_ne_true
  | bl i =>
    cases rx
    cases y with
    | non => cases ry; exact PySem.EqNone.ne_bool_none (fin_bl I q (by simp))
    | bl j => cases ry; exact ne_bool (fin_bl I q (congrArg not dec_bl))
    | str j => obtain ⟨t', rfl⟩ := ry; exact PySem.EqMixed.ne_bool_str (fin_bl I q (by simp))
    | _ => exact absurd (show false = true from hs) Bool.false_ne_true
  | int i =>
    obtain ⟨t, rfl⟩ := rx
    cases y with
    | non => cases ry; exact PySem.EqNone.ne_int_none (fin_bl I q (by simp))
    | int j => obtain ⟨t', rfl⟩ := ry; exact ne_int (fin_bl I q (congrArg not dec_int))
    | str j => obtain ⟨t', rfl⟩ := ry; exact PySem.EqMixed.ne_int_str (fin_bl I q (by simp))
    | _ => exact absurd (show false = true from hs) Bool.false_ne_true
  | str i =>
    obtain ⟨t, rfl⟩ := rx
    cases y with
    | non => cases ry; exact PySem.EqNone.ne_str_none (fin_bl I q (by simp))
    | bl j => cases ry; exact PySem.EqMixed.ne_str_bool (fin_bl I q (by simp))
    | int j => obtain ⟨t', rfl⟩ := ry; exact PySem.EqMixed.ne_str_int (fin_bl I q (by simp))
    | str j => obtain ⟨t', rfl⟩ := ry; exact ne_str (fin_bl I q (congrArg not dec_str))
    | _ => exact absurd (show false = true from hs) Bool.false_ne_true
  | byt i =>
    obtain ⟨t, rfl⟩ := rx
    cases y with
    | byt j => obtain ⟨t', rfl⟩ := ry; exact PySem.W.ne_bytes (fin_bl I q (congrArg not dec_byt))
    | _ => exact absurd (show false = true from hs) Bool.false_ne_true
  | _ => cases y <;> exact absurd (show false = true from hs) Bool.false_ne_true

theorem op_lt : OpR X (compareOp .Lt) (rI0 fun i j => .bl (decide (i < j))) := opB0 fun _ _ _ _ _ _ _ q => lt_int q
theorem op_le : OpR X (compareOp .LtE) (rI0 fun i j => .bl (decide (i ≤ j))) := opB0 fun _ _ _ _ _ _ _ q => le_int q
theorem op_gt : OpR X (compareOp .Gt) (rI0 fun i j => .bl (decide (j < i))) := opB0 fun _ _ _ _ _ _ _ q => gt_int q




theorem nomark (b : Expr) {op : CmpOp} (h : op ≠ .In := by decide) (h2 : op ≠ .NotIn := by decide) : behindInMarks op b = false := by
  have e1 : (op == CmpOp.In) = false := by cases op <;> first | rfl | exact absurd rfl h
  have e2 : (op == CmpOp.NotIn) = false := by cases op <;> first | rfl | exact absurd rfl h2
  cases b <;> simp [behindInMarks, e1, e2]
/-- a comparison as a value; hm: nomark b, or (for in, not in) by with_unfolding_all rfl -/
theorem pe_cmpR {op : CmpOp} {r : R2} (ho : OpR X (compareOp op) r) (ha : PE X a ta) (hb : PE X b tb) (hm : behindInMarks op b = false) : PE X (.Compare a [op] [b] pos) (tOp r ta tb) := by
  intro pins s σ H Q I h
  exact wpAny_Compare1 (binT ha hb I h fun v u s2 x y H2 I2 rx ry q => ho pins s2 σ H2 x y v u Q I2 rx ry q) hm
/-- a reading of a value as a test -/
def tTest (t : TE) : TT := fun σ H Q => t σ H fun x H' => ∃ k, x = .bl k ∧ Q k H'
theorem pt_cmpR {op : CmpOp} {r : R2} (ho : OpR X (compareOp op) r) (ha : PE X a ta) (hb : PE X b tb) (hm : behindInMarks op b = false) : PT X (.Compare a [op] [b] pos) (tTest (tOp r ta tb)) := by
  intro pins s σ H Q I h
  refine wpAny_isTrue_Compare1 (thn (ha pins s σ H _ I h) fun v s1 ⟨x, H1, I1, r1, q1⟩ => thn (hb pins s1 σ H1 _ I1 q1) fun u s2 ⟨y, H2, I2, r2, q2⟩ =>
    thn (ho pins s2 σ H2 x y v u _ I2 r1 r2 q2) fun c s3 ⟨z, H3, I3, r3, k, e, q3⟩ => ?_) hm
  subst e
  cases r3
  exact wpAny_truthy_bool ⟨H3, I3, q3⟩
/-- a op1 b op2 c -/
def tChain (r r' : R2) (ta tb tc : TE) : TE := fun σ H Q => ta σ H fun x H1 => tb σ H1 fun y H2 => r x y H2 fun z H3 => ∃ k, z = .bl k ∧
  (if k = true then tc σ H3 fun w' H4 => r' y w' H4 Q else Q (.bl false) H3)
theorem pe_chain {op op' : CmpOp} {r r' : R2} (ho : OpR X (compareOp op) r) (ho' : OpR X (compareOp op') r') (ha : PE X a ta) (hb : PE X b tb) (hc : PE X c tc)
    (hm : lastMarks [op, op'] [b, c] = false := by with_unfolding_all rfl) : PE X (.Compare a [op, op'] [b, c] pos) (tChain r r' ta tb tc) := by
  intro pins s σ H Q I h
  refine Compare_chain (thn (ha pins s σ H _ I h) fun v s1 ⟨x, H1, I1, r1, q1⟩ => chain_link (thn (hb pins s1 σ H1 _ I1 q1) fun u s2 ⟨y, H2, I2, r2, q2⟩ =>
    thn (ho pins s2 σ H2 x y v u _ I2 r1 r2 q2) fun d s3 ⟨z, H3, I3, r3, k, e, q3⟩ => ?_)) hm
  subst e
  cases r3
  refine wpAny_truthy_bool ?_
  cases k with
  | false => exact ite_ff ⟨.bl false, H3, I3, rfl, q3⟩
  | true => exact ite_tt (chain_last (thn (hc pins s3 σ H3 _ I3 q3) fun w' s4 ⟨z', H4, I4, r4, q4⟩ => ho' pins s4 σ H4 y z' u w' Q I4 r2 r4 q4))

/-! ### truth -/
/-- a value's truth by the abstract heap -/
def TruV (K : PySem.W.Frag) (x : V) (H : Hp) (k : Bool) : Prop :=
  match x with
  | .non => k = false
  | .bl b => k = b
  | .int i => k = (i != 0)
  | .str y => y.length ≤ sizeLine ∧ k = ((y.length : Int) != 0)
  | .byt y => y.size ≤ sizeLine ∧ k = ((y.size : Int) != 0)
  | .ref p => (∃ xs, SqL K H p xs ∧ k = !xs.isEmpty) ∨ (∃ xs, SqT K H p xs ∧ k = !xs.isEmpty) ∨ ∃ kvs, H p = some (.dK kvs) ∧ k = !kvs.isEmpty
  | _ => False
theorem isEmpty_kv {κ : Type} {kvs : List (κ × V)} {vs : List (κ × Value)} (r : KV kvs vs) : (!vs.isEmpty) = !kvs.isEmpty := by
  cases r <;> rfl
theorem isEmpty_of {xs : List V} {its : List Value} (r : Vals xs its) : (!its.toArray.isEmpty) = !xs.isEmpty := by
  cases r <;> simp
theorem line63 : (sizeLine : Nat) < 2 ^ 63 := by rw [sizeLine_eq]; decide
theorem tru_ok : TruR X (fun x H Q => ∃ k, TruV X.K x H k ∧ Q k H) := by
  intro pins s σ H x v Q I rx h
  obtain ⟨k, e, q⟩ := h
  have hl := line63
  have hs : sizeLine = 16777216 := sizeLine_eq
  cases x with
  | non =>
    cases rx
    have e' : k = false := e
    subst e'
    exact truthy_none ⟨H, I, q⟩
  | bl b =>
    cases rx
    have e' : k = b := e
    subst e'
    exact wpAny_truthy_bool ⟨H, I, q⟩
  | int i =>
    obtain ⟨t, rfl⟩ := rx
    have e' : k = (i != 0) := e
    subst e'
    exact PySem.P.truthy_int ⟨H, I, q⟩
  | str y =>
    obtain ⟨t, rfl⟩ := rx
    obtain ⟨hy, e'⟩ : y.length ≤ sizeLine ∧ k = ((y.length : Int) != 0) := e
    subst e'
    exact PySem.P.truthy_str (by omega) ⟨H, I.tok _, q⟩
  | byt y =>
    obtain ⟨t, rfl⟩ := rx
    obtain ⟨hy, e'⟩ : y.size ≤ sizeLine ∧ k = ((y.size : Int) != 0) := e
    subst e'
    exact PySem.W.truthy_bytes (by omega) ⟨H, I.tok _, q⟩
  | ref p =>
    cases rx
    have e' : (∃ xs, SqL X.K H p xs ∧ k = !xs.isEmpty) ∨ (∃ xs, SqT X.K H p xs ∧ k = !xs.isEmpty) ∨ ∃ kvs, H p = some (.dK kvs) ∧ k = !kvs.isEmpty := e
    rcases e' with ⟨xs, hx, e'⟩ | ⟨xs, hx, e'⟩ | ⟨kvs, hx, e'⟩
    · subst e'
      obtain ⟨its, r, pl, hz⟩ := I.list hx
      have hlen := r.length
      exact wpAny_truthy_list pl.isList (by simp only [List.size_toArray]; omega) ⟨H, I.tok _, by rw [isEmpty_of r]; exact q⟩
    · subst e'
      obtain ⟨its, r, pl, hz⟩ := I.tuple hx
      have hlen := r.length
      exact truthy_tuple pl (by simp only [List.size_toArray]; omega) ⟨H, I.tok _, by rw [isEmpty_of r]; exact q⟩
    · subst e'
      obtain ⟨hz, hS, vs, r, m⟩ : kvs.length ≤ sizeLine ∧ (p == sysModules) = false ∧ ∃ vs, KV kvs vs ∧ s.heap.DictOf (mixKind X.prog X.w) p vs := I.hok p _ hx
      have hlen : kvs.length = vs.length := Paired.length r
      exact wpAny_truthy_dict hS m (by omega) ⟨H, I.tok _, by rw [isEmpty_kv r]; exact q⟩
  | _ => exact (show False from e).elim
/-- any expression whose test is its value's truth (a name, a call, a subscript, a field ..: he by fun _ => rfl) -/
theorem pt_truth (ha : PE X a ta) (he : ∀ whole, isTrue a X.env whole = (do let v ← whole; standAt a.pos; holding [v] (truthy v))) :
    PT X a (fun σ H Q => ta σ H fun x H' => ∃ k, TruV X.K x H' k ∧ Q k H') := by
  intro pins s σ H Q I h
  exact isTrue_plain (thn (ha pins s σ H _ I h) fun v s1 ⟨x, H1, I1, r1, q1⟩ => tru_ok pins s1 σ H1 x v Q I1 r1 q1) (he _)

/-! ### strs and bytes -/


/-! ### scalar builtins, by CallR -/
theorem vals1 {x : V} {us : List Value} (r : Vals [x] us) : ∃ u, us = [u] ∧ RelV x u := by
  cases r with
  | cons r1 r2 => cases r2; exact ⟨_, rfl, r1⟩
theorem vals2 {x y : V} {us : List Value} (r : Vals [x, y] us) : ∃ u w', us = [u, w'] ∧ RelV x u ∧ RelV y w' := by
  cases r with
  | cons r1 r2 =>
    cases r2 with
    | cons r3 r4 => cases r4; exact ⟨_, _, rfl, r1, r3⟩
end
end L2

namespace L2
open PySem PySem.Spec PyProof.Rows

/-! ### an instance, its attributes a map -/
structure ObjM (h : Heap) (x dx C : Addr) (mA : Str → Option Value) : Prop where
  obj : h.get? x = some (PySem.W.instObj C dx)
  ns : h.Ns1 dx mA
  ne : dx ≠ x

theorem lookIn_ns {h : Heap} {dx : Addr} {mA : Str → Option Value} (n : h.Ns1 dx mA) : ∃ od, h.get? dx = some od ∧ ∀ name, PySem.W.lookIn name od = some (mA name) := by
  obtain ⟨o, es, ep, ho, hd, hk, _, hm⟩ := n
  refine ⟨o, ho, fun name => ?_⟩
  have e := hm name
  unfold nsFind findBy at e
  rw [← Array.find?_toList] at e
  unfold PySem.W.lookIn
  rw [hd]
  dsimp only
  split
  · rename_i y q
    rw [q] at e
    exact congrArg some e
  · rename_i q
    rw [q] at e
    have a : es.toList.any (·.refKey) = false := by
      rw [List.any_eq_false]
      intro y hy
      obtain ⟨z, t, hkey⟩ := hk y (Array.mem_toList_iff.mp hy)
      simp [DictEntry.refKey, hkey]
    have a' : ¬ es.toList.any (·.refKey) = true := by rw [a]; exact Bool.false_ne_true
    rw [if_neg a']
    exact congrArg some e

theorem ObjM.look {h : Heap} {x dx C : Addr} {mA : Str → Option Value} (I : ObjM h x dx C mA) : ∃ od, PySem.W.InstAt h x (PySem.W.instObj C dx) C (some od) ∧ ∀ name, PySem.W.lookIn name od = some (mA name) :=
  let ⟨od, ho, hl⟩ := lookIn_ns I.ns
  ⟨od, ⟨I.obj, rfl, rfl, ho⟩, hl⟩

section
variable {prog : Program} {w : World} {A : Around} {E : Value → Shared → Prop} {s : Shared} {K : PySem.W.Frag} {x dx C f : Addr} {mA : Str → Option Value} {name : Str} {v : Value}

theorem get_map {expr : Bool} {Q : Value → Shared → Prop} (X : K.In s.heap) (I : ObjM s.heap x dx C mA) (hg : PySem.W.plainGet K C name = true) (hh : PySem.W.hasDictIn K C = true)
    (ha : PySem.W.findIn K (.ref C) name = some none) (hv : mA name = some v) (hv' : PySem.W.handedIn v = true) (h : Q v { s with toks := s.toks + 1 }) :
    wpAny (model prog w) A (getAttr (.ref x) name expr) Q E s := by
  obtain ⟨od, J, hl⟩ := I.look
  exact PySem.W.get_value X J (PySem.W.plainGet_of hg).1 (PySem.W.findObj_own hh ha rfl (by rw [hl, hv])) hv' h


theorem get_meth {pl : Sem Bool} {Q : Value × List Value → Shared → Prop} (X : K.In s.heap) (I : ObjM s.heap x dx C mA) (hg : PySem.W.plainGet K C name = true)
    (hf : PySem.W.findIn K (.ref C) name = some (some (.ref f))) (ht : PySem.W.isFn K (.ref f) = true) (hv : mA name = none) (h : Q (.ref f, [.ref x]) s) :
    wpAny (model prog w) A (getMethod (.ref x) name pl) Q E s := by
  obtain ⟨od, J, hl⟩ := I.look
  exact PySem.W.method_fn X J (PySem.W.plainGet_of hg).1 (PySem.W.plainGet_of hg).2 hf (beq_iff_eq.mp ht) (by show (PySem.W.lookIn name od).map (·.isSome) = some false; rw [hl, hv]; rfl) h

theorem set_map {ns : List Str} {Q : Unit → Shared → Prop} (X : K.In s.heap) (I : ObjM s.heap x dx C mA)
    (hs : PySem.W.findIn K (.ref C) "__setattr__" = some (some (.builtin "object.__setattr__"))) (hp : PySem.W.plainOver K C = true) (ht : PySem.W.takerIn K C name = some none) (hh : PySem.W.hasDictIn K C = true)
    (hw : PySem.Within mA ns) (hsz : ns.length ≤ sizeLine)
    (h : ∀ h', ObjM h' x dx C (fun y => if y = name then some v else mA y) → Heap.SameBut dx s.heap h' → Q () { s with heap := h', toks := s.toks + 2 }) :
    wpAny (model prog w) A (setAttr (.ref x) name v) Q E s := by
  obtain ⟨od, J, hl⟩ := I.look
  refine PySem.W.set_plain X J hs (PySem.W.osa_open (s := { s with toks := s.toks + 1 }) (r := none) X J hp ht fun b => ?_)
  obtain ⟨cd, hc, hd'⟩ := PySem.W.any_some hh
  have hx : s.heap.get? x = some ⟨.ref C, some dx, .plain, #[]⟩ := I.obj
  refine wpAny_bind (wpAny_pure (wpAny_bind (wpAny_bind (wpAny_loadPart hx (wpAny_bind (PySem.W.Looks.here (s := { s with toks := s.toks + 1 }) (PySem.W.looks_clsIn X hc) ?_))))))
  rw [hd']
  refine wpAny_pure (a := some dx) (wpAny_bind (wpAny_pure (wpAny_bind ?_)))
  refine wpAny_nsSet1 (s := { s with toks := s.toks + 1 }) I.ns fun h' hn2 hs2 => ?_
  obtain ⟨oD, esD, epD, hoD, hdD, hcD⟩ := hn2.count (PySem.Within.cons name v hw)
  refine wpAny_bind (wpAny_lookBehind hoD (by rw [hdD]; exact pastItsLine_dict (Nat.le_trans hcD (by rw [List.length_cons]; omega))) ?_)
  exact wpAny_pure (h _ ⟨(hs2.2 _ (Ne.symm I.ne)).trans I.obj, hn2, I.ne⟩ hs2)

/-- C(..): the dict at the heap's end, the instance behind it; then its __init__ -/
theorem make_map {R : Result → Shared → Prop} {vs : List Value} {kw : List (Str × Value)} (X : K.In s.heap) (hm : PySem.W.makesIn K C = true)
    (hi : PySem.W.findIn K (.ref C) "__init__" = some (some (.ref f))) (hf : PySem.W.typeIn K (.ref f) = some (.type "function"))
    (h : codeAny (model prog w) (A.under (.builtin "type.__call__" ⟨.ref C :: vs, kw⟩)) (.call (.ref f) ⟨.ref (s.heap.objs.size + 1) :: vs, kw⟩) (PySem.W.InitBack (s.heap.objs.size + 1) R)
      { s with heap := (s.heap.push PySem.W.emptyDict).push (PySem.W.instObj C s.heap.objs.size) }) :
    codeAny (model prog w) A (.call (.ref C) ⟨vs, kw⟩) R s := by
  obtain ⟨hh, g, d, t, os⟩ := s
  exact PySem.W.make_core (PySem.W.makes_of X hm) (PySem.W.looks_findIn X hi) (fun self => PySem.W.bind_fn X self hf) (.inl rfl) h
end

/-! ### the attributes as a list of pairs -/
def putF (f : Str) (v : V) : List (Str × V) → List (Str × V)
  | [] => [(f, v)]
  | (g, x) :: r => if g = f then (g, v) :: r else (g, x) :: putF f v r
theorem lookup_putF (f g : Str) (v : V) : ∀ fs : List (Str × V), (putF f v fs).lookup g = if g = f then some v else fs.lookup g
  | [] => by
    show List.lookup g [(f, v)] = _
    by_cases h : g = f
    · have hb : (g == f) = true := beq_iff_eq.mpr h
      simp only [List.lookup, hb, if_pos h]
    · have hb : (g == f) = false := beq_eq_false_iff_ne.mpr h
      simp only [List.lookup, hb, if_neg h]
  | (k, x) :: r => by
    have ih := lookup_putF f g v r
    rw [show putF f v ((k, x) :: r) = (if k = f then (k, v) :: r else (k, x) :: putF f v r) from rfl]
    by_cases hk : k = f
    · rw [if_pos hk]
      by_cases h : g = k
      · have hb : (g == k) = true := beq_iff_eq.mpr h
        simp only [List.lookup, hb, if_pos (h.trans hk)]
      · have hb : (g == k) = false := beq_eq_false_iff_ne.mpr h
        simp only [List.lookup, hb, if_neg (fun e : g = f => h (e.trans hk.symm))]
    · rw [if_neg hk]
      by_cases h : g = k
      · have hb : (g == k) = true := beq_iff_eq.mpr h
        simp only [List.lookup, hb, if_neg (fun e : g = f => hk (h.symm.trans e))]
      · have hb : (g == k) = false := beq_eq_false_iff_ne.mpr h
        simp only [List.lookup, hb]
        exact ih
theorem keys_putF (f : Str) (v : V) : ∀ fs : List (Str × V), f ∈ (putF f v fs).map (·.1) ∧ ∀ g, g ∈ fs.map (·.1) → g ∈ (putF f v fs).map (·.1)
  | [] => ⟨by simp [putF], fun g h => by simp at h⟩
  | (k, x) :: r => by
    obtain ⟨i1, i2⟩ := keys_putF f v r
    rw [show putF f v ((k, x) :: r) = (if k = f then (k, v) :: r else (k, x) :: putF f v r) from rfl]
    by_cases hk : k = f
    · rw [if_pos hk]
      subst hk
      exact ⟨by simp, fun g h => by simpa using h⟩
    · rw [if_neg hk]
      refine ⟨?_, fun g h => ?_⟩
      · rw [List.map_cons]
        exact List.mem_cons_of_mem _ i1
      · rw [List.map_cons] at h ⊢
        rcases List.mem_cons.mp h with e | e
        · exact List.mem_cons.mpr (.inl e)
        · exact List.mem_cons_of_mem _ (i2 g e)
theorem length_putF (f : Str) (v : V) : ∀ fs : List (Str × V), (putF f v fs).length ≤ fs.length + 1
  | [] => by simp [putF]
  | (k, x) :: r => by
    have ih := length_putF f v r
    rw [show putF f v ((k, x) :: r) = (if k = f then (k, v) :: r else (k, x) :: putF f v r) from rfl]
    by_cases hk : k = f
    · rw [if_pos hk, List.length_cons, List.length_cons]; omega
    · rw [if_neg hk, List.length_cons, List.length_cons]; omega

theorem RelO.some_of {v : V} {o : Option Value} (r : RelO (some v) o) : ∃ u, o = some u ∧ RelV v u := by
  cases o with
  | none => exact (show False from r).elim
  | some u => exact ⟨u, rfl, r⟩
theorem RelO.none_of {o : Option Value} (r : RelO none o) : o = none := by
  cases o with
  | none => rfl
  | some u => exact (show False from r).elim
theorem handed_of {v : V} {u : Value} (r : RelV v u) : PySem.W.handedIn u = true := by
  cases v with
  | non => cases (show u = Value.none from r); rfl
  | bl b => cases (show u = Value.bool b from r); rfl
  | int i => obtain ⟨t, e⟩ := (show ∃ t, u = Value.int i t from r); cases e; rfl
  | str x => obtain ⟨t, e⟩ := (show ∃ t, u = Value.str x t from r); cases e; rfl
  | byt b => obtain ⟨t, e⟩ := (show ∃ t, u = Value.bytes b t from r); cases e; rfl
  | flt b => obtain ⟨t, e⟩ := (show ∃ t, u = Value.float b t from r); cases e; rfl
  | ref a => cases (show u = Value.ref a from r); rfl
  | ty n => cases (show u = Value.type n from r); rfl

section
variable {P : Program} {w : World} {H H' : Hp} {h h' : Heap} {a C dx : Addr} {fs fs' : List (Str × V)}
theorem ins_get (hok : HOk P w H h) (e : H a = some (.ins C dx fs)) : ∃ mA, ObjM h a dx C mA ∧ (∀ f, RelO (fs.lookup f) (mA f)) ∧ PySem.Within mA (fs.map (·.1)) ∧ fs.length ≤ 1000 ∧ H dx = some (.own a) := by
  obtain ⟨d, z, ne, ob, mA, n, r, q⟩ := (show ObjOk P w H h a (.ins C dx fs) from hok a _ e)
  exact ⟨mA, ⟨ob, n, ne⟩, r, q, z, d⟩
end

/-! ### what of the text a class must have -/
structure Cls (K : PySem.W.Frag) (C : Addr) : Prop where
  pg : PySem.W.plainGet K C Str.empty = true
  hd : PySem.W.hasDictIn K C = true
  po : PySem.W.plainOver K C = true
  sa : PySem.W.findIn K (.ref C) "__setattr__" = some (some (.builtin "object.__setattr__"))
theorem Cls.get {K : PySem.W.Frag} {C : Addr} (c : Cls K C) (f : Str) : PySem.W.plainGet K C f = true := c.pg
/-- no class of it has the name -/
def NoAttr (K : PySem.W.Frag) (C : Addr) (f : Str) : Prop := PySem.W.findIn K (.ref C) f = some none
theorem NoAttr.taker {K : PySem.W.Frag} {C : Addr} {f : Str} (n : NoAttr K C f) : PySem.W.takerIn K C f = some none := by
  unfold PySem.W.takerIn
  rw [show PySem.W.findIn K (.ref C) f = some none from n]
  rfl
/-- a method: a plain def of the class or of one above it -/
structure Meth (K : PySem.W.Frag) (C : Addr) (m : Str) (f : Addr) : Prop where
  at_ : PySem.W.findIn K (.ref C) m = some (some (.ref f))
  fn : PySem.W.isFn K (.ref f) = true
  kp : PySem.W.keepIn K (.ref f) = true

section
variable {X : Cx} {pins : List (Addr × Obj)} {σ : St} {H : Hp} {s : Shared} {a C dx : Addr} {fs : List (Str × V)} {f : Str} {v : V} {A : Around} {E : Value → Shared → Prop}

theorem getattr_ok {b : Bool} {Q : Value → Shared → Prop} (I : Inv X pins σ H s) (e : H a = some (.ins C dx fs)) (c : Cls X.K C) (n : NoAttr X.K C f) (l : fs.lookup f = some v)
    (h : ∀ u s', Inv X pins σ H s' → RelV v u → Q u s') : wpAny (model X.prog X.w) A (getAttr (.ref a) f b) Q E s := by
  obtain ⟨mA, O, r, _, _, _⟩ := ins_get I.hok e
  obtain ⟨u, hu, ru⟩ := RelO.some_of (v := v) (o := mA f) (by rw [← l]; exact r f)
  exact get_map I.kIn O (c.get f) c.hd n hu (handed_of ru) (h u _ (I.tok _) ru)


theorem getmeth_ok {m : Str} {g : Addr} {pl : Sem Bool} {Q : Value × List Value → Shared → Prop} (I : Inv X pins σ H s) (e : H a = some (.ins C dx fs)) (c : Cls X.K C) (k : Meth X.K C m g) (l : fs.lookup m = none)
    (h : Q (.ref g, [.ref a]) s) : wpAny (model X.prog X.w) A (getMethod (.ref a) m pl) Q E s := by
  obtain ⟨mA, O, r, _, _, _⟩ := ins_get I.hok e
  have hn : mA m = none := RelO.none_of (by rw [← l]; exact r m)
  exact get_meth I.kIn O (c.get m) k.at_ k.fn hn h

theorem setattr_ok {y : V} {u : Value} {Q : Unit → Shared → Prop} (I : Inv X pins σ H s) (e : H a = some (.ins C dx fs)) (c : Cls X.K C) (n : NoAttr X.K C f) (hl : fs.length < 1000) (ry : RelV y u)
    (h : ∀ s', Inv X pins σ (upd H a (.ins C dx (putF f y fs))) s' → Q () s') : wpAny (model X.prog X.w) A (setAttr (.ref a) f u) Q E s := by
  obtain ⟨mA, O, r, wi, _, ho⟩ := ins_get I.hok e
  have hz : (fs.map (·.1)).length ≤ sizeLine := by rw [List.length_map, sizeLine_eq]; omega
  refine set_map I.kIn O c.sa c.po n.taker c.hd wi hz fun h' O' sb => h _ ?_
  have hd : ∃ o, h'.get? dx = some o := let ⟨o, _, _, e', _⟩ := O'.ns; ⟨o, e'⟩
  refine I.write (x := a) (e := dx) (by rw [e]; exact True.intro) (.inr ho) (fun b q hb z => (sb.2 b hb).trans z) hd ?_
  refine ⟨by rw [upd_ne O.ne]; exact ho, ?_, O.ne, O'.obj, _, O'.ns, fun g => ?_, fun g hg => ?_⟩
  · have := length_putF f y fs; omega
  · show RelO ((putF f y fs).lookup g) (if g = f then some u else mA g)
    rw [lookup_putF]
    by_cases q : g = f
    · rw [if_pos q, if_pos q]; exact ry
    · rw [if_neg q, if_neg q]; exact r g
  · by_cases q : g = f
    · rw [q]; exact (keys_putF f y fs).1
    · refine (keys_putF f y fs).2 g (wi g fun z => hg ?_)
      show (if g = f then some u else mA g) = none
      rw [if_neg q]; exact z

/-- a new instance, tracked, without attributes -/
theorem Inv.made (I : Inv X pins σ H s) : Inv X pins σ (upd (upd H s.heap.objs.size (.own (s.heap.objs.size + 1))) (s.heap.objs.size + 1) (.ins C s.heap.objs.size []))
    { s with heap := (s.heap.push PySem.W.emptyDict).push (PySem.W.instObj C s.heap.objs.size) } := by
  have e1 : (s.heap.push PySem.W.emptyDict).get? s.heap.objs.size = some PySem.W.emptyDict := Heap.get?_push_size s.heap rfl
  have e2 : ((s.heap.push PySem.W.emptyDict).push (PySem.W.instObj C s.heap.objs.size)).get? (s.heap.objs.size + 1) = some (PySem.W.instObj C s.heap.objs.size) := by
    have := Heap.get?_push_size (s.heap.push PySem.W.emptyDict) (o := PySem.W.instObj C s.heap.objs.size) rfl
    rwa [Heap.size_push] at this
  have e3 : (s.heap.push PySem.W.emptyDict).Ns s.heap.objs.size (fun _ => none) := ⟨PySem.W.emptyDict, #[], _, e1, rfl, (fun e he => absurd he (by simp)), fun _ => rfl⟩
  have I1 := I.laid (a := s.heap.objs.size) (o := .own (s.heap.objs.size + 1)) (h' := s.heap.push PySem.W.emptyDict) (t' := s.toks) (fun b u q => Heap.get?_push_of_some _ q) (Nat.le_refl _) ⟨_, e1⟩
  refine I1.laid (a := s.heap.objs.size + 1) (o := .ins C s.heap.objs.size []) (t' := s.toks) (fun b u q => Heap.get?_push_of_some _ q) (Nat.le_of_eq (Heap.size_push _ _)) ?_
  have ne : s.heap.objs.size ≠ s.heap.objs.size + 1 := Nat.ne_of_lt (Nat.lt_succ_self _)
  refine ⟨by rw [upd_ne ne, upd_same], Nat.zero_le _, ne, e2, fun _ => none, (Heap.Ns1.of_empty e3).at fun o q => Heap.get?_push_of_some _ q, fun _ => True.intro, fun y hy => absurd rfl hy⟩

/-- e.f where nothing but the object is asked: through attributeBase (super) and the last hold -/
theorem attr_of {prog : Program} {w : World} {env : Env} {e : Expr} {f : Str} {pos : Pos} {s : Shared} {Q : Value → Shared → Prop} (hb : attributeBase e f env (eval e env) = eval e env)
    (h : wpAny (model prog w) A (eval e env) (fun o s₁ => wpAny (model prog w) A (getAttr o f true) Q E s₁) E s) : wpAny (model prog w) A (eval (.Attribute e f pos) env) Q E s :=
  Attribute_any_ h (by rw [arm_eval_Attribute, hb])
end

/-! ### readings and rules -/
/-- e.f, an attribute of the instance -/
def tFld (K : PySem.W.Frag) (ta : TE) (f : Str) : TE := fun σ H Q => ta σ H fun x H1 => ∃ a C dx fs v, x = .ref a ∧ H1 a = some (.ins C dx fs) ∧ Cls K C ∧ NoAttr K C f ∧ fs.lookup f = some v ∧ Q v H1
/-- e.f = value -/
def sFld (K : PySem.W.Frag) (ta tv : TE) (f : Str) : TS := fun D σ H => tv σ H fun y H1 => ta σ H1 fun x H2 => ∃ a C dx fs, x = .ref a ∧ H2 a = some (.ins C dx fs) ∧ Cls K C ∧ NoAttr K C f ∧ fs.length < 1000 ∧
  D.nx σ (upd H2 a (.ins C dx (putF f y fs)))

section
variable {X : Cx} {o e value : Expr} {f : Str} {pos pos' tpos : Pos} {ta tv : TE}
theorem pe_fld (he : PE X e ta) (hb : attributeBase e f X.env (eval e X.env) = eval e X.env) : PE X (.Attribute e f pos) (tFld X.K ta f) := by
  intro pins s σ H Q I h
  refine attr_of hb (thn (he pins s σ H _ I h) fun u s1 ⟨x, H1, I1, rx, a, C, dx, fs, v, ex, ea, c, n, l, q⟩ => ?_)
  subst ex
  obtain rfl : u = Value.ref a := rx
  exact getattr_ok I1 ea c n l fun u' s2 I2 ru => ⟨v, H1, I2, ru, q⟩
theorem ps_fld (ha : PE X o ta) (hv : PE X value tv) (hs : swapsWith value (some (.Attribute o f pos')) pos.line X.env = pure false) : PS X (.Assign [.Attribute o f pos'] value pos) (sFld X.K ta tv f) := by
  intro pins s σ H D I h
  refine plainObj_wpAny_Assign_Attribute (thn (hv pins s σ H _ I h) fun u s1 ⟨y, H1, I1, ry, q⟩ => thn (ha pins s1 σ H1 _ I1 q) fun ov s2 ⟨x, H2, I2, rx, a, C, dx, fs, ex, ea, c, n, l, q2⟩ => ?_) hs
  subst ex
  obtain rfl : ov = Value.ref a := rx
  exact setattr_ok I2 ea c n l ry fun s3 I3 => ⟨σ, _, I3, q2⟩

end

/-! ### isinstance -/
section
variable {X : Cx} {pins : List (Addr × Obj)} {σ : St} {H : Hp} {s : Shared} {A : Around} {E : Value → Shared → Prop} {Q : Value → Shared → Prop} {c : Value} {b : Bool}
/-- the type of a value, as the fragment's deciders take it; for an instance its class -/
inductive TyOf (K : PySem.W.Frag) (H : Hp) : V → Value → Prop where
  | non : TyOf K H .non (.type "NoneType")
  | bl (x : Bool) : TyOf K H (.bl x) (.type "bool")
  | int (i : Int) : TyOf K H (.int i) (.type "int")
  | str (x : Str) : TyOf K H (.str x) (.type "str")
  | flt (x : UInt64) : TyOf K H (.flt x) (.type "float")
  | lst {a : Addr} {xs : List V} (e : H a = some (.lst xs)) : TyOf K H (.ref a) (.type "list")
  | frz {a : Addr} {o : Obj} {xs : List V} (e : H a = some (.frz o (.lst xs))) : TyOf K H (.ref a) (.type "list")
  | tup {a : Addr} {xs : List V} (e : H a = some (.tup xs)) : TyOf K H (.ref a) (.type "tuple")
  | dK {a : Addr} {kvs : List (Key × V)} (e : H a = some (.dK kvs)) : TyOf K H (.ref a) (.type "dict")
  | dT {a : Addr} {kvs : List (List Key × V)} (e : H a = some (.dT kvs)) : TyOf K H (.ref a) (.type "dict")
  | ins {a C dx : Addr} {fs : List (Str × V)} (e : H a = some (.ins C dx fs)) (cl : Cls K C) (ha : PySem.W.findIn K (.ref C) "__class__" = some (some (.builtin "object.__class__")))
      (hn : PySem.W.specialIn K (.builtin "object.__class__") "__get__" = some (some (.builtin "getset_descriptor.__get__"))) (htk : PySem.W.takesIn K (.builtin "object.__class__") = some true)
      (hm : PySem.W.mroIn K C (.type "object") = some true) : TyOf K H (.ref a) (.ref C)
/-- isinstance(x, c) for one class c, a built-in or an own one: kitOne's answer -/
theorem isinst_ok {x : V} {u t : Value} (I : Inv X pins σ H s) (rx : RelV x u) (ty : TyOf X.K H x t) (e : PySem.W.kitOne X.K t c = some b) (h : ∀ tk, Q (.bool b) { s with toks := tk }) :
    wpAny (model X.prog X.w) A (call (.builtin "isinstance") [u, c]) Q E s := by
  cases ty with
  | non => cases (show u = Value.none from rx); exact PySem.W.kia_one PySem.W.kitx_none I.kIn True.intro e (fun z => nomatch z) h
  | bl y => cases (show u = Value.bool y from rx); exact PySem.W.kia_one PySem.W.kitx_bool I.kIn True.intro e (fun z => nomatch z) h
  | int i => obtain ⟨t, q⟩ := (show ∃ t, u = Value.int i t from rx); cases q; exact PySem.W.kia_one PySem.W.kitx_int I.kIn True.intro e (fun z => nomatch z) h
  | str y => obtain ⟨t, q⟩ := (show ∃ t, u = Value.str y t from rx); cases q; exact PySem.W.kia_one PySem.W.kitx_str I.kIn True.intro e (fun z => nomatch z) h
  | flt y => obtain ⟨t, q⟩ := (show ∃ t, u = Value.float y t from rx); cases q; exact PySem.W.kia_one PySem.W.kitx_float I.kIn True.intro e (fun z => nomatch z) h
  | @lst a xs ea =>
    cases (show u = Value.ref a from rx)
    obtain ⟨_, _, n, _, h1⟩ := (show ObjOk X.prog X.w H s.heap a (.lst xs) from I.hok a _ ea)
    exact PySem.W.kia_one PySem.W.kitx_list I.kIn ⟨_, h1, rfl⟩ e (fun z => nomatch z) h
  | @frz a ob xs ea =>
    cases (show u = Value.ref a from rx)
    obtain ⟨_, _, _, n, _, h1⟩ := (show ObjOk X.prog X.w H s.heap a (.frz ob (.lst xs)) from I.hok a _ ea)
    exact PySem.W.kia_one PySem.W.kitx_list I.kIn ⟨_, h1, rfl⟩ e (fun z => nomatch z) h
  | @tup a xs ea =>
    cases (show u = Value.ref a from rx)
    obtain ⟨_, _, _, p⟩ := (show ObjOk X.prog X.w H s.heap a (.tup xs) from I.hok a _ ea)
    obtain ⟨o, h1, h2, _⟩ := p
    exact PySem.W.kia_one PySem.W.kitx_tuple I.kIn ⟨o, h1, h2⟩ e (fun z => nomatch z) h
  | @dK a kvs ea =>
    cases (show u = Value.ref a from rx)
    obtain ⟨_, _, vs, _, p⟩ := (show ObjOk X.prog X.w H s.heap a (.dK kvs) from I.hok a _ ea)
    obtain ⟨o, es, ep, h1, h2, _⟩ := p
    exact PySem.W.kia_one PySem.W.kitx_dict I.kIn ⟨o, h1, h2.1⟩ e (fun z => nomatch z) h
  | @dT a kvs ea =>
    cases (show u = Value.ref a from rx)
    obtain ⟨_, _, xs, _, o, es, ep, h1, h2, _⟩ := (show ObjOk X.prog X.w H s.heap a (.dT kvs) from I.hok a _ ea)
    exact PySem.W.kia_one PySem.W.kitx_dict I.kIn ⟨o, h1, h2.1⟩ e (fun z => nomatch z) h
  | @ins a C dx fs ea cl ha hn htk hm =>
    cases (show u = Value.ref a from rx)
    obtain ⟨mA, O, _⟩ := ins_get I.hok ea
    obtain ⟨od, J, _⟩ := O.look
    exact PySem.W.kia_one (PySem.W.kitx_own (cl.get _) cl.hd ha hn htk hm) I.kIn J e (fun z => nomatch z) h
end
end L2

namespace L2
open PySem PySem.Spec PyProof.Rows

/-! ### room -/
structure Room (k : Nat) (A : Around) : Prop where
  hd : A.handled = none
  dp : A.depth + 3 * k + 5 < recursionLimit
  un : A.units + 16 * k + 200 < cLine
theorem Room.mono {j k : Nat} {A : Around} (r : Room k A) (h : j ≤ k) : Room j A := ⟨r.hd, by have := r.dp; omega, by have := r.un; omega⟩
theorem Room.deeper {k : Nat} {A : Around} (r : Room (k + 1) A) (env : Env) : Room k (A.deeper env) :=
  ⟨r.hd, by have := r.dp; show A.depth + 1 + 3 * k + 5 < _; omega, by have := r.un; show A.units + 3 + 16 * k + 200 < _; omega⟩
theorem make_depth {A : Around} {C : Addr} {us : List Value} {kw : List (Str × Value)} : (A.under (.builtin "type.__call__" ⟨.ref C :: us, kw⟩)).depth = A.depth + 1 := by
  first | rfl | simp [Around.under, Code.weight, Code.isCreation, Code.isGuard, Code.isCaller, Code.frames, Code.isFrame, guardIds]
theorem make_units {A : Around} {C : Addr} {us : List Value} {kw : List (Str × Value)} : (A.under (.builtin "type.__call__" ⟨.ref C :: us, kw⟩)).units = A.units + 1 := by
  first | rfl | simp [Around.under, Code.cUnits, Code.frames, Code.isFrame]
theorem Room.make {k : Nat} {A : Around} (r : Room (k + 1) A) (C : Addr) (us : List Value) (kw : List (Str × Value)) : Room k (A.under (.builtin "type.__call__" ⟨.ref C :: us, kw⟩)) :=
  ⟨r.hd, by have := r.dp; rw [make_depth]; omega, by have := r.un; rw [make_units]; omega⟩
theorem Room.depth {k : Nat} {A : Around} (r : Room k A) : A.depth < recursionLimit := by have := r.dp; omega
theorem Room.units {k : Nat} {A : Around} (r : Room k A) : A.units + 64 < cLine := by have := r.un; omega

/-! ### argument lists and displays -/
def tNil : TA := fun _ H Q => Q [] H
def tCons (ta : TE) (tr : TA) : TA := fun σ H Q => ta σ H fun x H1 => tr σ H1 fun xs H2 => Q (x :: xs) H2
section
variable {X : Cx} {e : Expr} {es : List Expr} {te : TE} {t : TA} {pos : Pos}
theorem pa_nil : PA X [] tNil := fun _ _ _ _ H Q I h => Calls.spliced_nil ⟨[], H, I, .nil, h⟩
theorem pa_cons (ha : PE X e te) (hr : PA X es t) (hs : starEach (e :: es) X.env = (false, eval e X.env) :: starEach es X.env := by rfl) : PA X (e :: es) (tCons te t) := by
  intro pos pins s σ H Q I h
  rw [hs]
  show wpAny _ _ (spliced ((false, eval e X.env) :: backTo pos (starEach es X.env))) _ _ s
  refine Calls.spliced_cons (thn (ha pins s σ H _ I h) fun u s1 ⟨x, H1, I1, r1, q1⟩ => ?_)
  exact thn (hr pos pins s1 σ H1 _ I1 q1) fun us s2 ⟨xs, H2, I2, r2, q2⟩ => ⟨x :: xs, H2, I2, .cons r1 r2, q2⟩

/-- a tuple, a list of written items -/
def tTup (t : TA) : TE := fun σ H Q => t σ H fun xs H1 => xs.length ≤ sizeLine ∧ ∀ p, H1 p = none → Q (.ref p) (upd H1 p (.tup xs))
def tLst (t : TA) : TE := fun σ H Q => t σ H fun xs H1 => xs.length ≤ sizeLine ∧ ∀ p, H1 p = none → Q (.ref p) (upd H1 p (.lst xs))
theorem pe_tup {x1} (h : PA X es t) : PE X (.Tuple es x1 pos) (tTup t) := by
  intro pins s σ H Q I hq
  refine wpAny_Tuple_spliced (thn (h pos pins s σ H _ I hq) fun us s1 ⟨xs, H1, I1, r, z, q⟩ => ⟨by rw [← r.length]; exact z, ?_⟩)
  have hf : H1 s1.heap.objs.size = none := I1.hok.fresh (Nat.le_refl _)
  refine ⟨.ref s1.heap.objs.size, upd H1 s1.heap.objs.size (.tup xs), I1.laid (t' := s1.toks) (fun b u e => Heap.get?_push_of_some _ e) (Nat.le_refl _) ?_, rfl, q _ hf⟩
  exact ⟨z, us, r, ⟨_, Heap.get?_push_size _ rfl, rfl, _, rfl⟩⟩
theorem pe_lst (h : PA X es t) : PE X (.List es pos) (tLst t) := by
  intro pins s σ H Q I hq
  refine wpAny_List_spliced (thn (h pos pins s σ H _ I hq) fun us s1 ⟨xs, H1, I1, r, z, q⟩ => ⟨by rw [← r.length]; exact z, ?_⟩)
  have hf : H1 s1.heap.objs.size = none := I1.hok.fresh (Nat.le_refl _)
  refine ⟨.ref s1.heap.objs.size, upd H1 s1.heap.objs.size (.lst xs), I1.laid (t' := s1.toks) (fun b u e => Heap.get?_push_of_some _ e) (Nat.le_refl _) ?_, rfl, q _ hf⟩
  exact ⟨z, us, 0, r, Heap.get?_push_size _ rfl⟩
end

/-! ### what a def promises -/
/-- a def's promise: the bound arguments in the parameters' order, the heap, the wanted end, the wanted exception -/
abbrev Sp := List V → Hp → VK → XK → Prop
/-- how an exception lies behind a call (file 08 gives it): the callers' frames, abstract heap and state ahead of the call, the wish, the exception, the state -/
abbrev CXT := List Env → Hp → Shared → XK → Value → Shared → Prop

/-- the state at a call -/
structure Env0 (P : Program) (w : World) (K : PySem.W.Frag) (mg : Str → Option Value) (base : Heap) (A : Around) (outer : List Env) (s : Shared) (H : Hp) : Prop where
  frames : A.frames = some outer
  mod : Mod K mg base
  bs : ∀ b o, base.get? b = some o → s.heap.get? b = some o ∧ H b = none
  bsz : base.objs.size ≤ s.heap.objs.size
  funs : s.heap.FunFrames base outer
  frf : ∀ b ∈ frs outer, H b = none
  hok : HOk P w H s.heap
  bare : AllBare s.gens
/-- a call's end -/
def CE (outer : List Env) (P : Program) (w : World) (H : Hp) (s : Shared) (Q : VK) (u : Value) (s' : Shared) : Prop :=
  ∃ v H', s'.os = s.os ∧ AllBare s'.gens ∧ Un (frs outer) [] H H' s.heap s'.heap ∧ HOk P w H' s'.heap ∧ RelV v u ∧ Q v H'
def CR (CX : CXT) (outer : List Env) (P : Program) (w : World) (H : Hp) (s : Shared) (Q : VK) (E : XK) (r : Result) (s' : Shared) : Prop :=
  match r with
  | .ok (.ret u) => CE outer P w H s Q u s'
  | .ok _ => False
  | .error e => CX outer H s E e s'
structure FnOk (P : Program) (w : World) (K : PySem.W.Frag) (mg : Str → Option Value) (base : Heap) (CX : CXT) (k : Nat) (f : Addr) (fd : FuncData) (ps : List Str) (sp : Sp) : Prop where
  len : ∀ vs H Q E, sp vs H Q E → vs.length = ps.length
  run : ∀ (A : Around) (outer : List Env) (s : Shared) (H : Hp) (args : Args) (us : List Value) (vs : List V) (Q : VK) (E : XK), Room k A → Env0 P w K mg base A outer s H → BindsTo s fd args (ps.zip us) → Vals vs us → sp vs H Q E →
    codeAny (model P w) A (.call (.ref f) args) (CR CX outer P w H s Q E) s

theorem Env0.make {P : Program} {w : World} {K : PySem.W.Frag} {mg : Str → Option Value} {base : Heap} {A : Around} {outer : List Env} {s : Shared} {H : Hp} (e : Env0 P w K mg base A outer s H) (C : Addr) (us : List Value) (kw : List (Str × Value)) :
    Env0 P w K mg base (A.under (.builtin "type.__call__" ⟨.ref C :: us, kw⟩)) outer s H := ⟨by first | exact e.frames | (simpa [Around.under, Code.envs, Code.isFrame, pushEnvs] using e.frames), e.mod, e.bs, e.bsz, e.funs, e.frf, e.hok, e.bare⟩

section
variable {X : Cx} {pins : List (Addr × Obj)} {σ : St} {H : Hp} {s s' : Shared}
/-- from a body: what a callee wants -/
theorem Inv.env0 (I : Inv X pins σ H s) : Env0 X.prog X.w X.K X.mg X.base X.A X.stack s H :=
  ⟨I.ok.frames, I.ok.mod, I.bs, Nat.le_trans I.ok.bsz I.sz, I.stack, I.stkFree, I.hok, I.bare⟩
/-- behind a call -/
theorem Inv.after {Q : VK} {u : Value} (I : Inv X pins σ H s) (h : CE X.stack X.prog X.w H s Q u s') : EP X pins σ Q u s' := by
  obtain ⟨v, H', os, bare, un, hok, r, q⟩ := h
  obtain ⟨hh, g, d, t, os'⟩ := s'
  obtain rfl : os' = s.os := os
  exact ⟨v, H', I.call (h' := hh) (g' := g) (d' := d) (t' := t) (ch := []) un hok bare (fun b z => absurd z (by simp)), r, q⟩
end

/-! ### calls -/
/-- f(..): the written arguments, then the defaults dvs; E: what is wanted of an exception -/
def tCall (sp : Sp) (dvs : List V) (E : XK) (t : TA) : TE := fun σ H Q => t σ H fun vs H1 => sp (vs ++ dvs) H1 Q E
/-- o.m(..) of an instance of the class at C -/
def tMeth (C : Addr) (m : Str) (sp : Sp) (dvs : List V) (E : XK) (ta : TE) (t : TA) : TE := fun σ H Q => ta σ H fun x H1 => ∃ a dx fs, x = .ref a ∧ H1 a = some (.ins C dx fs) ∧ fs.lookup m = none ∧
  t σ H1 fun vs H2 => sp (x :: (vs ++ dvs)) H2 Q E
/-- C(..): a new instance and its dict, then __init__ -/
def tMake (C : Addr) (sp : Sp) (dvs : List V) (E : XK) (t : TA) : TE := fun σ H Q => t σ H fun vs H1 => ∀ x dx, H1 x = none → H1 dx = none → dx ≠ x →
  sp (.ref x :: (vs ++ dvs)) (upd (upd H1 dx (.own x)) x (.ins C dx [])) (fun v H2 => v = .non ∧ Q (.ref x) H2) E

/-- how the parameters are bound: us the positional arguments, kw the keywords' values by name, ds the defaults that fill up -/
def Binds (K : PySem.W.Frag) (fd : FuncData) (ps : List Str) (ds : List Value) : Prop :=
  ∀ (s : Shared) (us : List Value), K.In s.heap → (us ++ ds).length = ps.length → BindsTo s fd ⟨us, []⟩ (ps.zip (us ++ ds))
/-- every parameter is given -/
theorem Binds.all {K : PySem.W.Frag} {fd : FuncData} {ps : List Str} (h : ∀ us : List Value, us.length = ps.length → bindArgs fd ⟨us, []⟩ = pure (ps.zip us)) : Binds K fd ps [] := fun s us _ hl => by
  rw [List.append_nil] at hl ⊢
  exact .of_eq (h us hl)

/-- an exception of a callee reaches what this body wants of exceptions -/
def Passes (CX : CXT) (X : Cx) (E : XK) : Prop := ∀ (pins : List (Addr × Obj)) (σ : St) (H : Hp) (s : Shared) (e : Value) (s' : Shared), Inv X pins σ H s → CX X.stack H s E e s' → X.xe e s'

section
variable {X : Cx} {CX : CXT} {k : Nat} {f C : Addr} {fd : FuncData} {ps : List Str} {sp : Sp} {dvs : List V} {ds : List Value} {E : XK} {x m : Str} {p pos apos : Pos} {e o : Expr} {es : List Expr} {ta : TE} {t : TA}

/-- the callee runs -/
theorem run_fn {pins : List (Addr × Obj)} {σ : St} {H : Hp} {s : Shared} {Q : VK} {us : List Value} {vs : List V} (F : FnOk X.prog X.w X.K X.mg X.base CX k f fd ps sp) (hr : Room k X.A) (hb : Binds X.K fd ps ds) (hd : Vals dvs ds) (hx : Passes CX X E)
    (I : Inv X pins σ H s) (r : Vals vs us) (h : sp (vs ++ dvs) H Q E) : wpAny (model X.prog X.w) X.A (call (.ref f) us) (EP X pins σ Q) X.xe s := by
  have r2 : Vals (vs ++ dvs) (us ++ ds) := r.append hd
  have hl : (us ++ ds).length = ps.length := by rw [← r2.length]; exact F.len _ _ _ _ h
  refine wpAny_call (codeAny_mono (F.run X.A X.stack s H ⟨us, []⟩ (us ++ ds) (vs ++ dvs) Q E hr I.env0 (hb s us I.kIn hl) r2 h) fun r s' hq => ?_)
  cases r with
  | error e => exact hx pins σ H s e s' I hq
  | ok fl =>
    cases fl with
    | ret u => exact I.after hq
    | next => exact False.elim hq
    | brk => exact False.elim hq
    | cont => exact False.elim hq

theorem pe_call (F : FnOk X.prog X.w X.K X.mg X.base CX k f fd ps sp) (hr : Room k X.A) (hg : Gl X x) (hm : X.mg x = some (.ref f)) (hk : PySem.W.keepIn X.K (.ref f) = true) (hb : Binds X.K fd ps ds) (hd : Vals dvs ds) (hx : Passes CX X E)
    (ha : PA X (e :: es) t) (hdb : (x == ("__debug__" : Str)) = false := by decide) (he : starEach (e :: es) X.env = (false, eval e X.env) :: starEach es X.env := by rfl) (hpl : (backTo pos (starEach es X.env)).any (·.1) = false := by rfl) :
    PE X (.Call (.Name x p) (e :: es) [] pos) (tCall sp dvs E t) := by
  intro pins s σ H Q I h
  refine wpAny_Call_Name_kw (ld_glob I hg hm ?_ hdb)
  refine PySem.W.callWith_K (h₀ := X.base) I.ok.mod.kin hk (thn (ha pos pins s σ H _ I h) fun us s1 ⟨vs, H1, I1, r, q⟩ => ⟨I1.kIn, ?_⟩) he hpl
  exact run_fn F hr hb hd hx I1 r q

/-- o.m() -/
theorem pe_meth0 {pl : Sem Bool} (he : PE X o ta) (c : Cls X.K C) (hm : Meth X.K C m f) (F : FnOk X.prog X.w X.K X.mg X.base CX k f fd ps sp) (hr : Room k X.A) (hb : Binds X.K fd ps ds) (hd : Vals dvs ds) (hx : Passes CX X E)
    (ht : eval (.Call (.Attribute o m apos) [] [] pos) X.env = (do
      let ov ← eval o X.env
      standAt apos.atName
      let (f, first) ← holding [ov] (getMethod ov m pl)
      callWith pos f first (backTo pos (starEach [] X.env)) (backToKw pos (keywordEach [] X.env))) := by rfl) :
    PE X (.Call (.Attribute o m apos) [] [] pos) (tMeth C m sp dvs E ta tNil) := by
  intro pins s σ H Q I h
  refine PySem.W.methodCall_KW (pl := pl) (thn (he pins s σ H _ I h) fun u s1 ⟨x, H1, I1, rx, a, dx, fs, ex, ea, l, q⟩ => ?_) ht
  subst ex
  obtain rfl : u = Value.ref a := rx
  refine getmeth_ok I1 ea c hm l ?_
  exact PySem.W.callWith_K0 (first := [.ref a]) I1.kIn hm.kp (run_fn (us := [.ref a]) (vs := [.ref a]) F hr hb hd hx I1 (.cons rfl .nil) q)

/-- what a class must have to be made -/
structure Mk (K : PySem.W.Frag) (C f : Addr) : Prop where
  makes : PySem.W.makesIn K C = true
  init : PySem.W.findIn K (.ref C) "__init__" = some (some (.ref f))
  fn : PySem.W.isFn K (.ref f) = true
  kp : PySem.W.keepIn K (.ref C) = true

theorem run_make {pins : List (Addr × Obj)} {σ : St} {H : Hp} {s : Shared} {Q : VK} {us : List Value} {vs : List V} (M : Mk X.K C f) (F : FnOk X.prog X.w X.K X.mg X.base CX k f fd ps sp) (hr : Room (k + 1) X.A) (hb : Binds X.K fd ps ds) (hd : Vals dvs ds)
    (hx : Passes CX X E) (I : Inv X pins σ H s) (r : Vals vs us)
    (h : ∀ x dx, H x = none → H dx = none → dx ≠ x → sp (.ref x :: (vs ++ dvs)) (upd (upd H dx (.own x)) x (.ins C dx [])) (fun v H2 => v = .non ∧ Q (.ref x) H2) E) :
    wpAny (model X.prog X.w) X.A (call (.ref C) us) (EP X pins σ Q) X.xe s := by
  have hq := h (s.heap.objs.size + 1) s.heap.objs.size (I.hok.fresh (Nat.le_succ _)) (I.hok.fresh (Nat.le_refl _)) (Nat.ne_of_lt (Nat.lt_succ_self _))
  have I2 := Inv.made (C := C) I
  have r2 : Vals (V.ref (s.heap.objs.size + 1) :: (vs ++ dvs)) (Value.ref (s.heap.objs.size + 1) :: (us ++ ds)) := .cons rfl (r.append hd)
  have hl : (Value.ref (s.heap.objs.size + 1) :: us ++ ds).length = ps.length := by
    have e := r2.length
    rw [F.len _ _ _ _ hq] at e
    exact e.symm
  refine wpAny_call (make_map (f := f) I.kIn M.makes M.init (beq_iff_eq.mp M.fn) (codeAny_mono (F.run _ X.stack _ _ ⟨Value.ref (s.heap.objs.size + 1) :: us, []⟩ (Value.ref (s.heap.objs.size + 1) :: (us ++ ds)) _ _ E (hr.make C us [])
    (I2.env0.make C us []) (hb _ (Value.ref (s.heap.objs.size + 1) :: us) I2.kIn hl) r2 hq) fun r s' hq' => ?_))
  cases r with
  | error e => exact hx pins σ _ _ e s' I2 hq'
  | ok fl =>
    cases fl with
    | ret u =>
      obtain ⟨v, H', I3, rv, ev, q3⟩ := I2.after hq'
      subst ev
      exact ⟨rv, ⟨V.ref (s.heap.objs.size + 1), H', I3, rfl, q3⟩⟩
    | next => exact False.elim hq'
    | brk => exact False.elim hq'
    | cont => exact False.elim hq'
theorem pe_make (M : Mk X.K C f) (F : FnOk X.prog X.w X.K X.mg X.base CX k f fd ps sp) (hr : Room (k + 1) X.A) (hg : Gl X x) (hm : X.mg x = some (.ref C)) (hb : Binds X.K fd ps ds) (hd : Vals dvs ds) (hx : Passes CX X E)
    (ha : PA X (e :: es) t) (hdb : (x == ("__debug__" : Str)) = false := by decide) (he : starEach (e :: es) X.env = (false, eval e X.env) :: starEach es X.env := by rfl) (hpl : (backTo pos (starEach es X.env)).any (·.1) = false := by rfl) :
    PE X (.Call (.Name x p) (e :: es) [] pos) (tMake C sp dvs E t) := by
  intro pins s σ H Q I h
  refine wpAny_Call_Name_kw (ld_glob I hg hm ?_ hdb)
  refine PySem.W.callWith_K (h₀ := X.base) I.ok.mod.kin M.kp (thn (ha pos pins s σ H _ I h) fun us s1 ⟨vs, H1, I1, r, q⟩ => ⟨I1.kIn, ?_⟩) he hpl
  exact run_make M F hr hb hd hx I1 r q
end

/-! ### keywords -/
section
variable {X : Cx} {CX : CXT} {k : Nat} {f C : Addr} {fd : FuncData} {ps ks : List Str} {sp : Sp} {E : XK} {x m : Str} {p pos apos kpos : Pos} {e o : Expr} {es : List Expr} {kws : List Keyword} {te ta : TE} {t tk : TA} {nm : Option Str}

variable {g : List Value → List Value → List Value} {gV : List V → List V → List V}
end

/-! ### a def's body keeps its promise -/
/-- names: the parameters first -/
structure FnScope (N P : List Str) (sc : Scope) : Prop where
  kind : sc.kind = .function
  co : sc.isCoroutine = false
  gen : sc.isGenerator = false
  nd : N.Nodup
  pre : N.take P.length = P
  par : ∀ x ∈ P, sc.names.lookup x = some .local ∨ sc.names.lookup x = some .cell
  nofree : ∀ y ∈ sc.names, y.2 ≠ .free

theorem bindL_out {kindOf : Str → Option NameKind} {x : Str} : ∀ {binds : List (Str × Value)} {m : Str → Option Value}, (∀ v, (x, v) ∉ binds) → bindL kindOf binds m x = m x
  | [], _, _ => rfl
  | (n, v) :: r, m, h => by
    unfold bindL
    rw [bindL_out fun w hw => h w (List.mem_cons_of_mem _ hw)]
    split
    · have : x ≠ n := by rintro rfl; exact h v List.mem_cons_self
      simp [this]
    · rfl
theorem bindC_out {kindOf : Str → Option NameKind} {x : Str} : ∀ {binds : List (Str × Value)} {m : Str → Option Value}, (∀ v, (x, v) ∉ binds) → bindC kindOf binds m x = m x
  | [], _, _ => rfl
  | (n, v) :: r, m, h => by
    unfold bindC
    rw [bindC_out fun w hw => h w (List.mem_cons_of_mem _ hw)]
    split
    · rfl
    · have : x ≠ n := by rintro rfl; exact h v List.mem_cons_self
      simp [this]
theorem bindL_get {kindOf : Str → Option NameKind} {x : Str} {v : Value} : ∀ {P : List Str} {vs : List Value} {i : Nat} {m : Str → Option Value}, P.Nodup → P[i]? = some x → vs[i]? = some v → kindOf x = some .local →
    bindL kindOf (P.zip vs) m x = some v
  | [], _, _, _, _, h, _, _ => by simp at h
  | _ :: _, [], _, _, _, _, h, _ => by simp at h
  | p :: P, w :: vs, 0, m, nd, h1, h2, hk => by
    simp at h1 h2; subst h1; subst h2
    show bindL kindOf ((p, w) :: P.zip vs) m p = _
    unfold bindL
    rw [bindL_out fun v hv => (List.nodup_cons.mp nd).1 (List.of_mem_zip hv).1, if_pos hk]
    simp
  | p :: P, w :: vs, i + 1, m, nd, h1, h2, hk => by
    show bindL kindOf ((p, w) :: P.zip vs) m x = _
    unfold bindL
    exact bindL_get (i := i) (List.nodup_cons.mp nd).2 (by simpa using h1) (by simpa using h2) hk
theorem bindC_get {kindOf : Str → Option NameKind} {x : Str} {v : Value} : ∀ {P : List Str} {vs : List Value} {i : Nat} {m : Str → Option Value}, P.Nodup → P[i]? = some x → vs[i]? = some v → kindOf x ≠ some .local →
    bindC kindOf (P.zip vs) m x = some v
  | [], _, _, _, _, h, _, _ => by simp at h
  | _ :: _, [], _, _, _, _, h, _ => by simp at h
  | p :: P, w :: vs, 0, m, nd, h1, h2, hk => by
    simp at h1 h2; subst h1; subst h2
    show bindC kindOf ((p, w) :: P.zip vs) m p = _
    unfold bindC
    rw [bindC_out fun v hv => (List.nodup_cons.mp nd).1 (List.of_mem_zip hv).1, if_neg hk]
    simp
  | p :: P, w :: vs, i + 1, m, nd, h1, h2, hk => by
    show bindC kindOf ((p, w) :: P.zip vs) m x = _
    unfold bindC
    exact bindC_get (i := i) (List.nodup_cons.mp nd).2 (by simpa using h1) (by simpa using h2) hk

/-- the names' values at the entry -/
def start (N : List Str) (vs : List V) : St := vs.map some ++ List.replicate (N.length - vs.length) none

/-- the context of a def's body, at its entry; an exception leaves the frame, then lies as CX says -/
def cxOf (CX : CXT) (P : Program) (w : World) (K : PySem.W.Frag) (mg : Str → Option Value) (base : Heap) (N : List Str) (qual : Str) (scope : Scope) (f : Addr) (cd : Value) (A : Around) (outer : List Env) (s : Shared) (H : Hp) (E : XK) : Cx where
  prog := P
  w := w
  K := K
  mg := mg
  base := base
  A := A.deeper (envOfC qual scope s.heap.objs.size f cd)
  N := N
  s₀ := s
  H₀ := H
  env := envOfC qual scope s.heap.objs.size f cd
  outer := outer
  stack := envOfC qual scope s.heap.objs.size f cd :: outer
  ex := []
  calm := true
  fn := fun _ => true
  pn := []
  xe := fun e s' => wpAny (model P w) (A.deeper (envOfC qual scope s.heap.objs.size f cd)) (leaving (envOfC qual scope s.heap.objs.size f cd) e) (fun _ s'' => CX outer H s E e s'') (fun e' s'' => CX outer H s E e' s'') s'

theorem cell_has {sc : Scope} {n : Nat} {x : Str} (h : sc.names.lookup x = some .cell) : ∃ c, (cellsFrom n sc.names []).lookup x = some c := by
  have q := PySem.W.cellsFrom_some sc.names n [] (.inl h)
  exact Option.isSome_iff_exists.mp q

theorem inv_start {CX : CXT} {P : Program} {w : World} {K : PySem.W.Frag} {mg : Str → Option Value} {base : Heap} {N ps : List Str} {qual : Str} {scope : Scope} {f : Addr} {cd : Value} {A : Around} {outer : List Env} {s s1 : Shared} {H : Hp} {E : XK} {us : List Value} {vs : List V}
    (S : FnScope N ps scope) (hd : A.handled = none) (e0 : Env0 P w K mg base A outer s H) (hl : vs.length = ps.length) (r : Vals vs us)
    (x : InCallC s s.heap.objs.size (bindL (envOfC qual scope s.heap.objs.size f cd).kindOf (ps.zip us) fun _ => none) (cellsFrom (s.heap.objs.size + 1) scope.names []) (bindC (envOfC qual scope s.heap.objs.size f cd).kindOf (ps.zip us) fun _ => none) s1) :
    Inv (cxOf CX P w K mg base N qual scope f cd A outer s H E) [] (start N vs) H s1 := by
  have hpl : ps.length ≤ N.length := by have := congrArg List.length S.pre; rw [List.length_take] at this; omega
  obtain ⟨h1, tk, rfl, hk⟩ := x.done
  have noA : ∀ b : Addr, b ∉ (cxOf CX P w K mg base N qual scope f cd A outer s H E).ex := fun b z => absurd (show b ∈ ([] : List Addr) from z) (by simp)
  refine ⟨⟨e0.mod, S.kind, rfl, rfl, Nat.le_refl _, fun y z c h1 h2 => ?_, fun y hy => ?_, fun y c _ h => ?_, fun _ => hd, Around.frames_deeper e0.frames, .inr ⟨rfl, rfl⟩, fun b z => absurd z (noA b), e0.bs, e0.bsz, fun b _ _ => noA b, fun b z => absurd z (noA b), e0.funs, e0.frf⟩,
    rfl, e0.bare, Un.kept hk, ⟨_, x.toInCall.ns, fun i y v h1 h2 h3 => ?_⟩, fun y c h => ⟨_, x.cell y c h⟩, e0.hok.fresh (Nat.le_refl _), fun y c h => ?_, fun p hp => absurd (show p ∈ ([] : List (Addr × Obj)) from hp) (by simp), e0.hok.kept hk, ?_⟩
  · exact name_of_addr x.apart (PySem.mem_of_lookup h1) (PySem.mem_of_lookup h2)
  · have hy : scope.names.lookup y = some .cell ∨ scope.names.lookup y = some .free := hy
    rcases hy with hy | hy
    · exact cell_has hy
    · exact absurd rfl (S.nofree _ (PySem.mem_of_lookup hy))
  · exact Nat.le_of_lt (x.above y c (PySem.mem_of_lookup h))
  · have hi : i < vs.length := by
      unfold start at h2
      by_cases hi : i < vs.length
      · exact hi
      · rw [List.getElem?_append_right (by simpa using hi)] at h2
        rw [List.getElem?_replicate] at h2
        split at h2 <;> cases h2
    have ha : vs[i]? = some v := by
      unfold start at h2
      rw [List.getElem?_append_left (by simpa using hi), List.getElem?_map] at h2
      cases e : vs[i]? with
      | none => rw [e] at h2; cases h2
      | some a => rw [e] at h2; cases h2; rfl
    obtain ⟨u, hu, rv⟩ := r.get ha
    have hp : ps[i]? = some y := by
      rw [← S.pre, List.getElem?_take_of_lt (by omega)]; exact h1
    have ndP : ps.Nodup := by rw [← S.pre]; exact S.nd.sublist (List.take_sublist _ _)
    refine ⟨u, rv, ?_⟩
    rcases S.par y (List.mem_of_getElem? hp) with k | k
    · exact .inl ⟨k, bindL_get ndP hp hu k⟩
    · obtain ⟨c, e⟩ := cell_has (n := s.heap.objs.size + 1) k
      refine .inr ⟨.inl k, c, e, ?_⟩
      have q := x.cell y c e
      rw [bindC_get ndP hp hu (by show scope.names.lookup y ≠ _; rw [k]; decide)] at q
      exact q
  · exact e0.hok.fresh (Nat.le_of_lt (x.above y c (PySem.mem_of_lookup h)))
  · unfold start
    show _ = N.length
    rw [List.length_append, List.length_map, List.length_replicate]
    omega

/-- THE RULE: a def (or a method) of the text, by its body. The body's reading t is chosen for each entry; it is run at the parameters' values -/
theorem fn_of {CX : CXT} {P : Program} {w : World} {K : PySem.W.Frag} {mg : Str → Option Value} {base : Heap} {k : Nat} {f : Addr} {name qual : Str} {params : Arguments} {body : List Stmt} {scope : Scope} {dV kV doc pm cdv ct oc : Value} {an od : Option Addr}
    {osl : Array (Option Value)} {N ps : List Str} {sp : Sp} (lk : K.lookup f = some ⟨oc, od, .func (PySem.W.fnOf name qual params body scope dV kV doc pm an cdv ct), osl⟩) (hcd : PySem.W.codeIn K cdv qual = true) (S : FnScope N ps scope)
    (len : ∀ vs H Q E, sp vs H Q E → vs.length = ps.length)
    (hbody : ∀ (A : Around) (outer : List Env) (s : Shared) (H : Hp) (vs : List V) (Q : VK) (E : XK), Room k (A.deeper (envOfC qual scope s.heap.objs.size f cdv)) → sp vs H Q E →
      ∃ t, PSs (cxOf CX P w K mg base N qual scope f cdv A outer s H E) body t ∧ t { nx := fun _ H' => Q .non H', rt := Q } (start N vs) H) :
    FnOk P w K mg base CX (k + 1) f (PySem.W.fnOf name qual params body scope dV kV doc pm an cdv ct) ps sp := by
  refine ⟨len, fun A outer s H args us vs Q E hr e0 hb r hsp => ?_⟩
  have hl := len _ _ _ _ hsp
  have KX : K.In s.heap := e0.mod.kin.keeps fun b o e => (e0.bs b o e).1
  have lim : s.heap.NoLimit := e0.mod.nolimit.keeps fun b o e => (e0.bs b o e).1
  have hkind : ∀ y ∈ ps.zip us, scope.names.lookup y.1 = some .local ∨ (scope.names.lookup y.1 = some .cell ∧ ((cellsFrom (s.heap.objs.size + 1) scope.names []).lookup y.1).isSome = true) := fun ⟨n, v⟩ hy => by
    rcases S.par n (List.of_mem_zip hy).1 with q | q
    · exact .inl q
    · exact .inr ⟨q, PySem.W.cellsFrom_some _ _ _ (.inl q)⟩
  refine codeAny_call_function hr.depth (KX _ _ lk) rfl S.co S.gen rfl (PySem.W.codeRec_of KX hcd) (hb _ _ _ _ ?_)
  refine wpAny_newFunctionEnv_cells S.kind hkind fun env he s1 x => ?_
  subst he
  refine ⟨lim.keeps x.toInCall.keep, codeAny_func ?_⟩
  obtain ⟨t, ht, hq⟩ := hbody A outer s H vs Q E (hr.deeper _) hsp
  have I : Inv (cxOf CX P w K mg base N qual scope f cdv A outer s H E) [] (start N vs) H s1 := inv_start S hr.hd e0 hl r x
  refine wpAny_mono (ht [] s1 (start N vs) H _ I hq) (fun fl s' hs => ?_) fun e s' hs => hs
  have fin : ∀ {σ' : St} {H' : Hp} {v : V} {u : Value}, Inv (cxOf CX P w K mg base N qual scope f cdv A outer s H E) [] σ' H' s' → RelV v u → Q v H' → CE outer P w H s Q u s' :=
    fun {σ' H' v u} J rv q => ⟨v, H', J.os, J.bare, J.base, J.hok, rv, q⟩
  cases fl with
  | ret u =>
    obtain ⟨v, σ', H', J, rv, q⟩ := hs
    exact fin J rv q
  | next =>
    obtain ⟨σ', H', J, q⟩ := hs
    exact fin (v := V.non) (u := Value.none) J rfl q
  | brk =>
    obtain ⟨_, _, _, q⟩ := hs
    exact False.elim q
  | cont =>
    obtain ⟨_, _, _, q⟩ := hs
    exact False.elim q
end L2

namespace L2
open PySem PySem.Spec PyProof.Rows
section
variable {X : Cx} {x : Str} {p pos : Pos} {e : Expr} {es : List Expr} {t : TA} {id T : String} {r : List V → Hp → VK → Prop}

def tCB (r : List V → Hp → VK → Prop) (t : TA) : TE := fun σ H Q => t σ H fun vs H1 => r vs H1 Q
/-- f(e, ..), f a built-in function -/
theorem pe_callB (hc : CallR X (.builtin id) r) (hg : Gl X x) (hm : X.mg x = none) (hv : bootBuiltins x = some (.builtin id)) (ha : PA X (e :: es) t) (hn : x ≠ "__name__" := by decide) (hdb : (x == ("__debug__" : Str)) = false := by decide)
    (he : starEach (e :: es) X.env = (false, eval e X.env) :: starEach es X.env := by rfl) (hpl : (backTo pos (starEach es X.env)).any (·.1) = false := by rfl) : PE X (.Call (.Name x p) (e :: es) [] pos) (tCB r t) := by
  intro pins s σ H Q I h
  refine wpAny_Call_Name_kw (ld_blt I hg hm hv ?_ hn hdb)
  exact PyProof.Rows.callWith_builtin1 (thn (ha pos pins s σ H _ I h) fun us s1 ⟨vs, H1, I1, r1, q1⟩ => hc pins s1 σ H1 vs us Q I1 r1 q1) he hpl
/-- T(e, ..), T a built-in type -/
theorem pe_callTy (hc : CallR X (.type T) r) (hg : Gl X x) (hm : X.mg x = none) (hv : bootBuiltins x = some (.type T)) (ha : PA X (e :: es) t) (hn : x ≠ "__name__" := by decide) (hdb : (x == ("__debug__" : Str)) = false := by decide)
    (he : starEach (e :: es) X.env = (false, eval e X.env) :: starEach es X.env := by rfl) (hpl : (backTo pos (starEach es X.env)).any (·.1) = false := by rfl) : PE X (.Call (.Name x p) (e :: es) [] pos) (tCB r t) := by
  intro pins s σ H Q I h
  refine wpAny_Call_Name_kw (ld_blt I hg hm hv ?_ hn hdb)
  exact PyProof.Rows.callWith_type1 (thn (ha pos pins s σ H _ I h) fun us s1 ⟨vs, H1, I1, r1, q1⟩ => hc pins s1 σ H1 vs us Q I1 r1 q1) he hpl
end
end L2

namespace HT
open PySem PyProof.Rows



section
open PySem.SeqAt
open PySem.AutoSeq1 (wpAny_loadPart')
open PySem.MeetsSeq PySem.MeetsSeq2 PySem.MeetsSeq3

end

section
variable {prog : Program} {w : World} {A : Around} {E : Value → Shared → Prop} {s : Shared}



/-! ### t[a:b], not the whole -/

end
end HT

namespace L2
open PySem PySem.Spec PyProof.Rows

/-! ### the parts of a slice -/


section
variable {X : Cx} {e : Expr} {te : TE} {lo hi : Option Expr} {tl th : TO} {pos p2 : Pos}




/-! ### t < u, t + u -/
end
end L2

namespace L2
open PySem PySem.Spec PyProof.Rows

/-! ### places -/
/-- the place that an index of any sign means -/
def ixN (n : Nat) (i : Int) : Option Nat := if 0 ≤ i then (if i < n then some i.toNat else none) else if -(n : Int) ≤ i then some (i + n).toNat else none
def atI {α : Type} (xs : List α) (i : Int) : Option α := (ixN xs.length i).bind fun j => xs[j]?
theorem ixN_seq {n : Nat} {i : Int} {j : Nat} (h : ixN n i = some j) : seqIndex? i n = some j ∧ j < n ∧ -(n : Int) ≤ i ∧ i < n := by
  unfold ixN at h
  by_cases h0 : 0 ≤ i
  · rw [if_pos h0] at h
    by_cases h1 : i < n
    · rw [if_pos h1] at h
      have e : i.toNat = j := Option.some.inj h
      exact ⟨by rw [seqIndex_of h0 h1, e], by omega, by omega, h1⟩
    · rw [if_neg h1] at h; cases h
  · rw [if_neg h0] at h
    by_cases h1 : -(n : Int) ≤ i
    · rw [if_pos h1] at h
      have e : (i + n).toNat = j := Option.some.inj h
      exact ⟨by rw [seqIndex_neg (by omega) h1, e], by omega, h1, by omega⟩
    · rw [if_neg h1] at h; cases h
theorem atI_get {α : Type} {xs : List α} {i : Int} {v : α} (h : atI xs i = some v) : ∃ j, seqIndex? i xs.length = some j ∧ xs[j]? = some v ∧ j < xs.length ∧ -(xs.length : Int) ≤ i ∧ i < xs.length := by
  unfold atI at h
  cases e : ixN xs.length i with
  | none => rw [e] at h; cases h
  | some j =>
    rw [e] at h
    obtain ⟨h1, h2, h3, h4⟩ := ixN_seq e
    exact ⟨j, h1, h, h2, h3, h4⟩
theorem atI_nat {α : Type} {xs : List α} {j : Nat} {v : α} (h : xs[j]? = some v) : atI xs (j : Int) = some v := by
  have hj : j < xs.length := (List.getElem?_eq_some_iff.mp h).1
  have e : ixN xs.length (j : Int) = some j := by
    unfold ixN
    rw [if_pos (by omega), if_pos (by omega)]; simp
  unfold atI; rw [e]; exact h

/-! ### what may be subscripted -/
/-- what stands as an index of a plain subscript -/
def PlainIx (b : Expr) : Prop := ∀ o i, subscripted b false o i = operate [o, i] (getItem o i)
/-- a subscript by values -/
def IxR (X : Cx) (r : R2) : Prop :=
  ∀ (value slice : Expr) (pins : List (Addr × Obj)) (s : Shared) (σ : St) (H : Hp) (x y : V) (v u : Value) (Q : VK), Inv X pins σ H s → RelV x v → RelV y u → r x y H Q →
    subscripted slice false v u = operate [v, u] (getItem v u) → wpAny (model X.prog X.w) X.A (subscriptTail value slice v u) (EP X pins σ Q) X.xe s
/-- a call of a builtin's method by values: the receiver, the arguments -/
def MtR (X : Cx) (id : String) (r : V → List V → Hp → VK → Prop) : Prop :=
  ∀ (pins : List (Addr × Obj)) (s : Shared) (σ : St) (H : Hp) (x : V) (xs : List V) (v : Value) (us : List Value) (Q : VK), Inv X pins σ H s → RelV x v → Vals xs us → r x xs H Q →
    wpAny (model X.prog X.w) X.A (call (.builtin id) (v :: us)) (EP X pins σ Q) X.xe s
section
variable {X : Cx} {a b : Expr} {ta tb : TE} {pos : Pos}
/-- a[b] -/
theorem pe_ix {r : R2} (hr : IxR X r) (ha : PE X a ta) (hb : PE X b tb) (hs : PlainIx b) : PE X (.Subscript a b pos) (tOp r ta tb) := by
  intro pins s σ H Q I h
  exact Subscript_ (binT ha hb I h fun v u s2 x y H2 I2 rx ry q => hr a b pins s2 σ H2 x y v u Q I2 rx ry q (hs _ _))

def rIxL (K : PySem.W.Frag) : R2 := fun x y H Q => ∃ p xs i v, x = .ref p ∧ y = .int i ∧ SqL K H p xs ∧ atI xs i = some v ∧ Q v H
def rIxT (K : PySem.W.Frag) : R2 := fun x y H Q => ∃ p xs i v, x = .ref p ∧ y = .int i ∧ SqT K H p xs ∧ atI xs i = some v ∧ Q v H
theorem ix_list : IxR X (rIxL X.K) := by
  intro value slice pins s σ H x y v u Q I rx ry h hs
  obtain ⟨p, xs, i, z, rfl, rfl, hq, he, q⟩ := h
  cases rx
  obtain ⟨t, rfl⟩ := ry
  obtain ⟨its, r, pl, hz⟩ := I.list hq
  obtain ⟨j, h1, h2, h3, h4, h5⟩ := atI_get he
  obtain ⟨w, ew, rw'⟩ := r.get h2
  have hl := r.length
  have hn := line63
  have fin : EP X pins σ Q w s := ⟨z, H, I, rw', q⟩
  by_cases h0 : 0 ≤ i
  · have hj : i.toNat = j := by
      rw [seqIndex_of h0 h5] at h1
      exact Option.some.inj h1
    exact item_listR pl.isList h0 (by omega) (by rw [hj]; simpa using ew) fin hs
  · have hj : (i + (its.toArray.size : Int)).toNat = j := by
      rw [seqIndex_neg (by omega) h4] at h1
      rw [List.size_toArray, ← hl]
      exact Option.some.inj h1
    exact subscriptTail_builtinR (x := w) pl.isList.typeIs slot_list_getitem.lookup
      (wpAny_getItem_list_neg (Q := fun r s' => r = w ∧ EP X pins σ Q r s') pl.isList (by omega) (by rw [List.size_toArray] <;> omega) (by omega) (by rw [hj]; simpa using ew) ⟨rfl, fin⟩) hs
theorem ix_tup : IxR X (rIxT X.K) := by
  intro value slice pins s σ H x y v u Q I rx ry h hs
  obtain ⟨p, xs, i, z, rfl, rfl, hq, he, q⟩ := h
  cases rx
  obtain ⟨t, rfl⟩ := ry
  obtain ⟨its, r, pl, hz⟩ := I.tuple hq
  obtain ⟨j, h1, h2, h3, h4, h5⟩ := atI_get he
  obtain ⟨w, ew, rw'⟩ := r.get h2
  have hl := r.length
  have hn := line63
  have fin : EP X pins σ Q w s := ⟨z, H, I, rw', q⟩
  exact subscriptTail_builtinR (x := w) pl.typeIs slot_tuple_getitem.lookup
    (getItem_tuple (j := j) (Q := fun r s' => r = w ∧ EP X pins σ Q r s') pl (by omega) (by omega) (by rw [List.size_toArray, ← hl]; exact h1) (by simpa using ew) ⟨rfl, fin⟩) hs

/-! ### xs[i] = v, any sign -/

/-! ### slices -/

/-! ### in, not in: flat items -/

/-! ### len, list(x), tuple(x) of any list or tuple that is read -/
theorem call_len_seq : CallR X (.builtin "len") (fun xs H Q => ∃ p ys, xs = [.ref p] ∧ (SqL X.K H p ys ∨ SqT X.K H p ys) ∧ Q (.int ys.length) H) := by
  intro pins s σ H xs us Q I r h
  obtain ⟨p, ys, rfl, hq, q⟩ := h
  obtain ⟨u, rfl, rx⟩ := vals1 r
  cases rx
  have hn := line63
  rcases hq with hq | hq
  · obtain ⟨its, r', pl, hz⟩ := I.list hq
    have hlen := r'.length
    exact Calls.call_len_list pl.isList (by simp only [List.size_toArray] <;> omega) ⟨.int ys.length, H, I.tok _, ⟨s.toks + 1, by rw [List.size_toArray, hlen]⟩, q⟩
  · obtain ⟨its, r', pl, hz⟩ := I.tuple hq
    have hlen := r'.length
    exact len_tuple pl (by simp only [List.size_toArray] <;> omega) ⟨.int ys.length, H, I.tok _, ⟨s.toks + 1, by rw [List.size_toArray, hlen]⟩, q⟩
theorem call_list_of : CallR X (.type "list") (fun xs H Q => ∃ p ys, xs = [.ref p] ∧ (SqL X.K H p ys ∨ SqT X.K H p ys) ∧ ∀ l, H l = none → Q (.ref l) (upd H l (.lst ys))) := by
  intro pins s σ H xs us Q I r h
  obtain ⟨p, ys, rfl, hq, q⟩ := h
  obtain ⟨u, rfl, rx⟩ := vals1 r
  cases rx
  have fin : ∀ (its : List Value), Vals ys its → ys.length ≤ sizeLine → ∀ (h' : Heap) (c' : Nat), (∀ b o', s.heap.get? b = some o' → h'.get? b = some o') →
      h'.get? s.heap.objs.size = some { cls := .type "list", dict := none, data := .seq its.toArray c', slots := #[] } → EP X pins σ Q (.ref s.heap.objs.size) { s with heap := h' } := fun its r' hz h' c' kp e =>
    ⟨.ref s.heap.objs.size, _, I.laid (t' := s.toks) kp (Nat.le_refl _) (show ObjOk X.prog X.w _ h' _ (.lst ys) from ⟨hz, its, c', r', e⟩), rfl, q _ (I.hok.fresh (Nat.le_refl _))⟩
  rcases hq with hq | hq
  · obtain ⟨its, r', pl, hz⟩ := I.list hq
    have hlen := r'.length
    obtain ⟨o, ho, hc, n, hd⟩ := pl.isList
    exact call_list_seq p (.inl rfl) ho hc hd (fun h' c' kp e => fin its r' hz h' c' kp e) (by simp only [List.size_toArray] <;> omega)
  · obtain ⟨its, r', pl, hz⟩ := I.tuple hq
    have hlen := r'.length
    obtain ⟨o, ho, hc, n, hd⟩ := pl
    exact call_list_seq p (.inr rfl) ho hc hd (fun h' c' kp e => fin its r' hz h' c' kp e) (by simp only [List.size_toArray] <;> omega)
theorem call_tuple_of : CallR X (.type "tuple") (fun xs H Q => ∃ p ys, xs = [.ref p] ∧ ((SqL X.K H p ys ∧ ∀ l, H l = none → Q (.ref l) (upd H l (.tup ys))) ∨ (SqT X.K H p ys ∧ Q (.ref p) H))) := by
  intro pins s σ H xs us Q I r h
  obtain ⟨p, ys, rfl, h⟩ := h
  obtain ⟨u, rfl, rx⟩ := vals1 r
  cases rx
  rcases h with ⟨hq, q⟩ | ⟨hq, q⟩
  · obtain ⟨its, r', pl, hz⟩ := I.list hq
    have hlen := r'.length
    refine call_tuple_list pl.isList (fun h' kp => ?_) (by simp only [List.size_toArray] <;> omega)
    have I1 : Inv X pins σ H { s with heap := h' } := I.kept (t' := s.toks) kp
    have I2 : Inv X pins σ (upd H h'.objs.size (.tup ys)) { s with heap := h'.push { cls := .type "tuple", data := .seq its.toArray } } :=
      I1.laid (t' := s.toks) (fun b o e => Heap.get?_push_of_some _ e) (Nat.le_refl _) (show ObjOk X.prog X.w _ _ _ (.tup ys) from ⟨hz, its, r', IsTup.new _ _⟩)
    exact ⟨.ref h'.objs.size, _, I2, rfl, q _ (I1.hok.fresh (Nat.le_refl _))⟩
  · obtain ⟨its, r', pl, hz⟩ := I.tuple hq
    exact call_tuple_same pl ⟨.ref p, H, I, rfl, q⟩

/-! ### the call of a builtin's method: o.m(..) -/
/-- the value is of that builtin type -/
def tyV (K : PySem.W.Frag) (T : String) (x : V) (H : Hp) : Prop := match x with
  | .str _ => T = "str"
  | .int _ => T = "int"
  | .ref p => (T = "list" ∧ ∃ xs, SqL K H p xs) ∨ (T = "tuple" ∧ ∃ o, K.lookup p = some o ∧ o.cls = .type "tuple" ∧ o.dict = none) ∨
      (T = "dict" ∧ ((∃ kvs, H p = some (.dK kvs)) ∨ ∃ kvs, H p = some (.dT kvs))) ∨ (T = "set" ∧ ∃ S n, H p = some (.set S n))
  | _ => False
theorem tyV_is {pins : List (Addr × Obj)} {σ : St} {H : Hp} {s : Shared} {T : String} {x : V} {v : Value} (I : Inv X pins σ H s) (r : RelV x v) (ty : tyV X.K T x H) :
    s.TypeIs v T ∧ ∀ a, v = .ref a → ∃ ob, s.heap.get? a = some ob ∧ ob.dict = none := by
  cases x with
  | str z =>
    obtain ⟨t, rfl⟩ := r
    cases (show T = "str" from ty)
    exact ⟨typeIs_str s z t, fun _ e => nomatch e⟩
  | int i =>
    obtain ⟨t, rfl⟩ := r
    cases (show T = "int" from ty)
    exact ⟨typeIs_int s i t, fun _ e => nomatch e⟩
  | ref p =>
    cases r
    rcases ty with ⟨rfl, xs, hq⟩ | ⟨rfl, o, hk, hc, hd⟩ | ⟨rfl, hk⟩ | ⟨rfl, S, n, hk⟩
    · obtain ⟨its, _, pl, _⟩ := I.list hq
      refine ⟨pl.isList.typeIs, fun a e => ?_⟩
      cases e
      obtain ⟨o, n, e, c, hd, _⟩ := pl
      exact ⟨o, e, hd⟩
    · refine ⟨⟨o, I.kIn p o hk, hc⟩, fun a e => ?_⟩
      cases e
      exact ⟨o, I.kIn _ o hk, hd⟩
    · have z : ∃ o, s.heap.get? p = some o ∧ o.ExactDict := by
        rcases hk with ⟨kvs, hk⟩ | ⟨kvs, hk⟩
        · obtain ⟨_, _, _, _, o, _, _, e, ex, _⟩ := I.hok p _ hk
          exact ⟨o, e, ex⟩
        · obtain ⟨_, _, _, _, o, _, _, e, ex, _⟩ := I.hok p _ hk
          exact ⟨o, e, ex⟩
      obtain ⟨o, e, ex⟩ := z
      refine ⟨⟨o, e, ex.1⟩, fun a e2 => ?_⟩
      cases e2
      exact ⟨o, e, ex.2.1⟩
    · obtain ⟨o, _, _, _, e, ex, _⟩ := I.hok p _ hk
      refine ⟨⟨o, e, ex.1⟩, fun a e2 => ?_⟩
      cases e2
      exact ⟨o, e, ex.2.1⟩
  | _ => exact False.elim ty
def tBM (K : PySem.W.Frag) (T : String) (r : V → List V → Hp → VK → Prop) (to : TE) (t : TA) : TE := fun σ H Q => to σ H fun x H1 => tyV K T x H1 ∧ t σ H1 fun xs H2 => r x xs H2 Q
variable {o e : Expr} {es : List Expr} {to : TE} {t : TA} {name : Str} {apos cpos : Pos} {T id : String} {r : V → List V → Hp → VK → Prop}
theorem pe_bm (pa : PlainAttrs T) (slot : Slot T name id) (hty : typeOf (.builtin id) = pure (.type "method_descriptor")) (hm : MtR X id r) (ho : PE X o to) (ha : PA X (e :: es) t)
    (hbase : attributeBase o name X.env (eval o X.env) = eval o X.env := by rfl)
    (hfew : ((backTo cpos (starEach (e :: es) X.env)).all (fun x => !x.1) && (backToKw cpos (keywordEach [] X.env)).all (fun x => x.1.isSome)
      && decide ((e :: es).length + ([] : List Keyword).length + (if ([] : List Keyword).isEmpty then 0 else 1) < 30)) = true := by rfl)
    (hline : (apos.endLine == cpos.line) = true := by rfl) (hs : starEach (e :: es) X.env = (false, eval e X.env) :: starEach es X.env := by rfl) (hplain : (backTo cpos (starEach es X.env)).any (·.1) = false := by rfl) :
    PE X (.Call (.Attribute o name apos) (e :: es) [] cpos) (tBM X.K T r to t) := by
  intro pins s σ H Q I h
  refine wpAny_Call_method_late hbase hfew hline rfl (thn (ho pins s σ H _ I h) fun v s1 ⟨x, H1, I1, r1, ty, q1⟩ => ?_)
  obtain ⟨h1, h2⟩ := tyV_is I1 r1 ty
  refine ⟨T, id, pa, slot, hty, h1, h2, ?_⟩
  have hA := ha cpos pins s1 σ H1 _ I1 q1
  rw [hs] at hA ⊢
  refine Calls.callWith_builtin (by show (false || (backTo cpos (starEach es X.env)).any (·.1)) = false; rw [hplain] <;> rfl) (Calls.evalArgs_plain ?_)
  exact thn hA fun us s2 ⟨vs, H2, I2, r2, q2⟩ => hm pins s2 σ H2 x vs v us Q I2 r1 r2 q2
/- xs.append(e), list.index on a module's tuple .. are MtR facts of 06m -/
end
end L2

namespace L2
open PySem PySem.Spec PyProof.Rows

def MtM (X : Cx) (id : String) (r : V → List V → Hp → VK → Prop) : Prop :=
  ∀ (pins : List (Addr × Obj)) (s : Shared) (σ : St) (H : Hp) (x : V) (xs : List V) (v : Value) (us : List Value) (Q : VK), Inv X pins σ H s → RelV x v → Vals xs us → r x xs H Q →
    wpAny (model X.prog X.w) X.A (call (.builtin id) (v :: us)) (EP X pins σ Q) X.xe s

/-! ### lists of values -/
theorem Vals.one : ∀ {x : V} {us : List Value}, Vals [x] us → ∃ u, us = [u] ∧ RelV x u
  | _, _, .cons r .nil => ⟨_, rfl, r⟩

section
variable {X : Cx} {pins : List (Addr × Obj)} {σ : St} {H : Hp} {s : Shared} {l b : Addr} {xs ys zs : List V}

/-! ### the two steps: a tracked list is rewritten, a new list is laid -/
theorem Inv.lset {its its' : List Value} {n : Nat} {f : Array Value → Array Value} {t' : Nat} (I : Inv X pins σ H s) (hH : H l = some (.lst xs))
    (e : s.heap.get? l = some { cls := .type "list", data := .seq its.toArray n }) (hf : f its.toArray = its'.toArray) (hv : Vals ys its') (hz : ys.length ≤ sizeLine) :
    Inv X pins σ (upd H l (.lst ys)) { s with heap := s.heap.update l (Obj.mapSeq f), toks := t' } := by
  have q := PySem.IsL.update e f
  rw [hf] at q
  refine I.write (x := l) (e := l) (by rw [hH]; exact trivial) (.inl rfl) (fun b' u hb hu => (Heap.get?_update_other s.heap (Obj.mapSeq f) (Ne.symm hb)).trans hu) ⟨_, q⟩ ?_
  exact ⟨hz, its', _, hv, q⟩
theorem Inv.lnew {its : List Value} {t' : Nat} (I : Inv X pins σ H s) (hv : Vals ys its) (hz : ys.length ≤ sizeLine) :
    Inv X pins σ (upd H s.heap.objs.size (.lst ys)) { s with heap := s.heap.push { cls := .type "list", data := .seq its.toArray }, toks := t' } :=
  I.laid (fun _ _ q => Heap.get?_push_of_some _ q) (Nat.le_refl _) ⟨hz, its, 0, hv, Heap.get?_push_size _ rfl⟩
theorem Inv.fresh (I : Inv X pins σ H s) : H s.heap.objs.size = none := I.hok.fresh (Nat.le_refl _)
theorem Inv.lstM (I : Inv X pins σ H s) (hH : H l = some (.lst xs)) : xs.length ≤ sizeLine ∧ ∃ (its : List Value) (n : Nat), Vals xs its ∧ xs.length = its.length ∧ s.heap.get? l = some { cls := .type "list", data := .seq its.toArray n } := by
  obtain ⟨z, its, n, r, e⟩ := I.hok l _ hH
  exact ⟨z, its, n, r, r.length, e⟩

theorem notLongL {n : Nat} (h : n ≤ sizeLine) : Builtin.List.listTooLong n = false := by
  unfold Builtin.List.listTooLong
  exact decide_eq_false (by omega)
end

section
variable {X : Cx}

/-! ### methods -/
def rAppend : V → List V → Hp → VK → Prop := fun x vs H Q => ∃ l xs y, x = .ref l ∧ vs = [y] ∧ H l = some (.lst xs) ∧ xs.length < sizeLine ∧ Q .non (upd H l (.lst (xs ++ [y])))
theorem mt_append : MtM X "list.append" rAppend := by
  intro pins s σ H x vs v us Q I rx rv h
  obtain ⟨l, xs, y, rfl, rfl, hH, hz, q⟩ := h
  cases rx
  obtain ⟨u, rfl, ru⟩ := rv.one
  obtain ⟨z, its, n, r, hl, e⟩ := I.lstM hH
  refine call_meets F.slot_list_append ⟨_, e, rfl⟩ F.entry_list_append (F.args_list_append_2 _ _) (PySem.list_append l its.toArray n u (by rw [List.size_toArray]; omega)) ⟨e, ?_⟩
  refine ⟨.non, _, I.lset (its' := its ++ [u]) hH e (by simp) (r.append (.cons ru .nil)) ?_, rfl, q⟩
  rw [List.length_append, List.length_singleton]
  omega

def rExtend : V → List V → Hp → VK → Prop := fun x vs H Q => ∃ l b xs zs, x = .ref l ∧ vs = [.ref b] ∧ H l = some (.lst xs) ∧ H b = some (.lst zs) ∧ xs.length + zs.length ≤ sizeLine ∧ Q .non (upd H l (.lst (xs ++ zs)))
theorem mt_extend : MtM X "list.extend" rExtend := by
  intro pins s σ H x vs v us Q I rx rv h
  obtain ⟨l, b, xs, zs, rfl, rfl, hH, hB, hz, q⟩ := h
  cases rx
  obtain ⟨u, rfl, ru⟩ := rv.one
  cases ru
  obtain ⟨z, its, n, r, hl, e⟩ := I.lstM hH
  obtain ⟨z2, its2, n2, r2, hl2, e2⟩ := I.lstM hB
  have hsz : its.toArray.size + its2.toArray.size ≤ sizeLine := by rw [List.size_toArray, List.size_toArray]; omega
  have hlong : ¬ (!its.toArray.isEmpty && Builtin.List.listTooLong (its.toArray.size + its2.toArray.size)) = true := by
    rw [notLongL hsz, Bool.and_false]
    exact Bool.false_ne_true
  refine call_meets F.slot_list_extend ⟨_, e, rfl⟩ F.entry_list_extend (F.args_list_extend_2 _ _)
    (AutoSeq1.list_extend_list_list_0 l its.toArray n b its2.toArray n2 hlong (by rw [List.size_toArray]; omega) (by omega)) ⟨e, e2, ?_⟩
  refine ⟨.non, _, I.lset (its' := its ++ its2) hH e (by simp) (r.append r2) ?_, rfl, q⟩
  rw [List.length_append]
  omega





/-! ### list + list, list += list, list * int -/
def rCat : R2 := fun x y H Q => ∃ l b xs zs, x = .ref l ∧ y = .ref b ∧ H l = some (.lst xs) ∧ H b = some (.lst zs) ∧ xs.length + zs.length ≤ sizeLine ∧ ∀ p, H p = none → Q (.ref p) (upd H p (.lst (xs ++ zs)))
theorem op_cat : OpR X (binaryOp .Add) rCat := by
  intro pins s σ H x y v u Q I rx ry h
  obtain ⟨l, b, xs, zs, rfl, rfl, hH, hB, hz, q⟩ := h
  cases rx
  cases ry
  obtain ⟨z, its, n, r, hl, e⟩ := I.lstM hH
  obtain ⟨z2, its2, n2, r2, hl2, e2⟩ := I.lstM hB
  refine PySem.P.add_list e e2 ?_ (by rw [List.size_toArray, List.size_toArray]; omega)
  have ea : its.toArray ++ its2.toArray = (its ++ its2).toArray := by simp
  rw [ea]
  exact ⟨.ref _, _, I.lnew (t' := s.toks) (r.append r2) (by rw [List.length_append]; omega), rfl, q _ I.fresh⟩

/-! ### del xs[i] -/
end

/-! ### xs[a:b] = ys -/
section
variable {prog : Program} {w : World} {A : Around} {E : Value → Shared → Prop} {s : Shared}
end

section
variable {X : Cx}
end
end L2

namespace Att
open PySem PySem.W PySem.Calls PyProof.Rows

/-! ### the script -/
theorem ints_of_wellAll {P : Params} {h : Heap} : ∀ (ns : List Int) (vs : List Value), WellAll P h vs (ns.map WData.int) → IntsAre vs ns := by
  intro ns
  induction ns with
  | nil =>
    intro vs w
    rw [List.map_nil] at w
    cases w
    exact .nil
  | cons n ns ih =>
    intro vs w
    rw [List.map_cons] at w
    cases w with
    | cons a b =>
      cases a
      exact .cons _ _ (ih _ b)

theorem script_of {l : OpenLaw} {n : Nat} (hn : l.most = some n) {P : Params} {h : Heap} {args : List WData} {vals : List Value}
    (hpre : l.row.toRowW.claim.pre args = true) (hwl : WellAll P h vals args) :
    ∃ a vs ns, vals = [Value.ref a] ∧ args = [WData.list (ns.map WData.int)] ∧ h.get? a = some { cls := .type "list", data := .seq vs.toArray } ∧ IntsAre vs ns ∧ ns.length ≤ n := by
  have hsh : WShape.hasAll [] args [.list .int] = true := (pre_splitW hpre).1
  have hc : l.pre.holds [] { args := args } = true := (pre_splitW hpre).2
  obtain ⟨d, r, rfl, h1, h2⟩ := hasAllW_cons hsh
  obtain rfl := hasAllW_nil h2
  obtain ⟨xs, rfl, h3⟩ := hasW_list h1
  obtain ⟨ns, rfl⟩ := items_int h3
  have hlen : ns.length ≤ n := by
    unfold OpenLaw.pre at hc
    have h4 : (WTm.not (.lt (.lit (.int (n : Int))) (.len (.arg 0)))).holds [] { args := [.list (ns.map .int)] } = true := by
      have h4 := (holds_andW hc).1
      rw [hn] at h4
      exact h4
    have h5 := condW_of h4 (w_not (w_lt w_lit (w_len_list (w_arg rfl))))
    rw [List.length_map] at h5
    refine Nat.le_of_not_lt fun q => ?_
    have q' : (n : Int) < ((ns.length : Nat) : Int) := by omega
    first
      | (rw [decide_eq_true q'] at h5; exact absurd h5 (by decide))
      | (simp at h5; omega)
  cases hwl with
  | cons w1 w2 =>
    cases w2
    cases w1 with
    | list ho hall => exact ⟨_, _, ns, rfl, rfl, ho, ints_of_wellAll ns _ hall, hlen⟩

theorem post_true (l : OpenLaw) (args : List WData) : l.row.toRowW.claim.post args (.bool true) args = true :=
  postW_of (r := l.row.toRowW) (X := (true == true))
    (show WShape.has [] (.bool true) .bool = true by first | rfl | decide | simp [WShape.has, WShape.arms, WShape.armsAll])
    (show (WTm.eq .res (.lit (.bool true))).value [] { args := args, res := some (.bool true), after := args } = some (.bool (true == true)) from w_eq_bool (w_res rfl) w_lit) rfl

/-! ### the attachment: holds_open's last premise (the goal 'hc' behind k_head) from a wpAny of the law's body -/

/-- the same from a codeAny of the CALL (for a layer whose function contracts speak of calls) -/
theorem attach_call {l : OpenLaw} {n : Nat} {q : Program} {loose : List Str} {XP : (Str → Option Value) → Heap → Prop} {YP : World → Heap → Prop} {d : DefRec}
    (hn : l.most = some n) (hdf : d.params.defaults = [])
    (call : ∀ (w : World) (s₀ s₁ : Shared) (mg mb : Str → Option Value) (fa : Addr) (o : Obj) (pm cd doc : Value) (a : Addr) (vs : List Value) (ns : List Int),
      Ground q loose [] XP w s₀ mg mb s₁.heap → YP w s₁.heap →
      s₁.heap.get? fa = some o → o.data = .func (docDef d.name d.params d.body d.scope pm cd doc) → s₁.heap.CodeRec cd d.name → mg d.name = some (.ref fa) →
      s₁.heap.get? a = some { cls := .type "list", data := .seq vs.toArray } → IntsAre vs ns → ns.length ≤ n → s₁.gens = #[] →
      codeAny (model l.prog w) callerA (.call (.ref fa) ⟨[.ref a], []⟩) (fun r s' => r = .ok (.ret (.bool true)) ∧ OldK s₁.heap s'.heap ∧ s'.os = s₁.os ∧ AllBare s'.gens) s₁) :
    WalkO q loose XP YP l.row.toRowW d [] (fun f vs => PySem.call f vs) := by
  intro w s₀ s₁ mg mb G Y fa o pm cd doc dV kV ho hd hcd hD hmg hg args vals as hpre hlay hrd hwl hlo
  obtain rfl : dV = .none := Dflts.none hD hdf
  obtain rfl : kV = .none := Dflts.noKw hD
  obtain ⟨a, vs, ns, rfl, rfl, hobj, hints, hlen⟩ := script_of hn hpre hwl
  refine enter_call (codeAny_mono (call w s₀ s₁ mg mb fa o pm cd doc a vs ns G Y ho (fd_plain hd) hcd hmg hobj hints hlen hg) fun r s' hq => ?_)
  obtain ⟨rfl, h2, h3, h4⟩ := hq
  exact ⟨.inl ⟨.bool true, .bool true, [], rfl, fun _ => rfl, .bool true, post_true l _, fun _ => ⟨List.Pairwise.nil, fun _ hm => (nomatch hm)⟩⟩, h2, h3, h4⟩


/-! ### rules over ANY heap (no ledger) from facts about the written part K: the library's own take a ledger (News) for what they write -/
section
variable {prog : Program} {w : World} {A : Around} {E : Value → Shared → Prop} {s : Shared} {K : Frag}





/-! the whole heap as the ledger: makes every rule that writes through a ledger a rule over any heap -/

end
end Att

namespace L2
open PySem PySem.Spec PyProof.Rows

theorem vals_ints : ∀ {vs : List Value} {ns : List Int}, IntsAre vs ns → Vals (ns.map V.int) vs
  | _, _, .nil => .nil
  | _, _, .cons n t h => .cons ⟨t, rfl⟩ (vals_ints h)

/-- nothing is tracked but the script, known to the object (or it is an object of the module) -/
def Only (H : Hp) : Prop := ∀ b, H b = none ∨ ∃ o xs, H b = some (.frz o (.lst xs))

/-- THE HEAD: the law's promise, at the heap behind the top. F, the promise of the law's def, may use that base is part of the heap (so K.In base, base.Ns mainGlobals mg stand in Mod) -/
theorem law_call {P : Program} {w : World} {K : PySem.W.Frag} {mg mb : Str → Option Value} {CX : CXT} {k : Nat} {fa a : Addr} {fd : FuncData} {x : Str} {sp : Sp} {s₁ : Shared} {vs : List Value} {ns : List Int}
    (KX : K.In s₁.heap) (hns : s₁.heap.Ns mainGlobals mg) (hb : s₁.heap.Ns builtinsNs mb) (hbb : ∀ x : Str, x ≠ "__name__" → mb x = bootBuiltins x) (hlim : s₁.heap.NoLimit) (hg : s₁.gens = #[])
    (ha : s₁.heap.get? a = some { cls := .type "list", data := .seq vs.toArray }) (hi : IntsAre vs ns) (hl : ns.length ≤ sizeLine) (hr : Room k callerA)
    (F : ∀ base : Heap, K.In base → base.Ns mainGlobals mg → FnOk P w K mg base CX k fa fd [x] sp) (hbind : ∀ (s : Shared) (u : Value), BindsTo s fd ⟨[u], []⟩ [(x, u)])
    (hsp : ∀ H : Hp, Only H → SqL K H a (ns.map V.int) → sp [.ref a] H (fun v _ => v = .bl true) fun _ _ _ => False)
    (hCX : ∀ H e s', CX [] H s₁ (fun _ _ _ => False) e s' → False) :
    codeAny (model P w) callerA (.call (.ref fa) ⟨[.ref a], []⟩) (fun r s' => r = .ok (.ret (.bool true)) ∧ OldK s₁.heap s'.heap ∧ s'.os = s₁.os ∧ AllBare s'.gens) s₁ := by
  have rv := vals_ints hi
  have lenV := hi.length
  -- from an abstract heap in which nothing but the script may be tracked
  have core : ∀ H : Hp, Only H → SqL K H a (ns.map V.int) → HOk P w H s₁.heap → (∀ b, H b ≠ none → b = a) → (H a ≠ none → K.lookup a = none) →
      codeAny (model P w) callerA (.call (.ref fa) ⟨[.ref a], []⟩) (fun r s' => r = .ok (.ret (.bool true)) ∧ OldK s₁.heap s'.heap ∧ s'.os = s₁.os ∧ AllBare s'.gens) s₁ := by
    intro H hO hS hok hA hK
    have base_of : ∀ {b : Addr} {o : Obj}, s₁.heap.get? b = some o → H b = none → (hidT s₁.heap H).get? b = some o := fun e n => hidT_get e n
    have noA : ∀ {b : Addr} {o : Obj} {es : Array DictEntry} {ep : Nat}, s₁.heap.get? b = some o → o.data = .dict es ep → H b = none := fun {b o es ep} e d => by
      cases q : H b with
      | none => rfl
      | some u =>
        have e' : b = a := hA b (by rw [q]; simp)
        subst e'
        rw [ha] at e; cases e
        have d' : Data.seq vs.toArray _ = Data.dict es ep := d
        cases d'
    have nsK : ∀ {b : Addr} {m : Str → Option Value}, s₁.heap.Ns b m → (hidT s₁.heap H).Ns b m := fun {b m} ⟨o, es, ep, e, d, r⟩ => ⟨o, es, ep, base_of e (noA e d), d, r⟩
    have hKb : K.In (hidT s₁.heap H) := fun b o e => base_of (KX b o e) (by
      cases q : H b with
      | none => rfl
      | some u =>
        have e' : b = a := hA b (by rw [q]; simp)
        subst e'
        rw [hK (by rw [q]; simp)] at e; cases e)
    have hM : Mod K mg (hidT s₁.heap H) := ⟨hKb, nsK hns, ⟨mb, nsK hb, hbb⟩, let ⟨mc, h1, h2⟩ := hlim; ⟨mc, nsK h1, h2⟩⟩
    have e0 : Env0 P w K mg (hidT s₁.heap H) callerA [] s₁ H := ⟨rfl, hM, fun b o e => of_hidT e, Nat.le_of_eq (hidT_size _ _), trivial, fun b hb => absurd (show b ∈ ([] : List Addr) from hb) (by simp), hok, .of_eq hg⟩
    refine codeAny_mono ((F _ hKb (nsK hns)).run callerA [] s₁ H ⟨[.ref a], []⟩ [.ref a] [.ref a] _ _ hr e0 (hbind s₁ (.ref a)) (.cons rfl .nil) (hsp H hO hS)) fun r s' h => ?_
    cases r with
    | error e => exact (hCX H e s' h).elim
    | ok fl =>
      cases fl with
      | next => exact False.elim h
      | brk => exact False.elim h
      | cont => exact False.elim h
      | ret u =>
        obtain ⟨v, H', os, bare, un, hok', r', q⟩ := h
        have q' : v = .bl true := q
        subst q'
        obtain rfl : u = Value.bool true := r'
        refine ⟨rfl, OldK.of_keep fun b o e => ?_, os, bare⟩
        cases q : H b with
        | none => exact un.keep b o e q (by intro z; exact absurd (show b ∈ ([] : List Addr) from z) (by simp)) (by simp)
        | some u =>
          rcases hO b with z | ⟨ob, xs, z⟩
          · rw [q] at z; cases z
          · have z2 := un.frzs b ob _ z
            obtain ⟨e1, _⟩ := hok b _ z
            obtain ⟨e2, _⟩ := hok' b _ z2
            rw [e] at e1; cases e1
            exact e2
  cases hk : K.lookup a with
  | some o =>
    -- the script is one of the module's own objects
    have e := KX a o hk
    rw [ha] at e
    cases e
    refine core (fun _ => none) (fun _ => .inl rfl) (.inr ⟨_, vs.toArray, _, hk, rfl, rfl, rfl, by rw [List.size_toArray, lenV]; exact hl, by simpa using rv⟩) (fun b u z => by have z' : (none : Option HO) = some u := z; cases z') (fun b z => absurd rfl z) fun z => absurd rfl z
  | none =>
    refine core (fun b => if b = a then some (.frz { cls := .type "list", data := .seq vs.toArray } (.lst (ns.map V.int))) else none) (fun b => ?_) (.inl (.inr ⟨{ cls := .type "list", data := .seq vs.toArray }, if_pos rfl⟩)) (fun b u z => ?_) (fun b z => ?_) fun _ => hk
    · by_cases hb : b = a
      · exact .inr ⟨_, _, if_pos hb⟩
      · exact .inl (if_neg hb)
    · by_cases hb : b = a
      · have z' := (if_pos hb).symm.trans z
        cases z'
        subst hb
        exact ⟨ha, by rw [List.length_map]; exact hl, vs, _, rv, ha⟩
      · have z' := (if_neg hb).symm.trans z
        cases z'
    · by_cases hb : b = a
      · exact hb
      · exact absurd (if_neg hb) z
end L2

namespace L2
open PySem PySem.Spec PyProof.Rows


/-- the goal that k_head leaves (case hc), from the law's promise. F gives the function object fd (K's own) once, then the promise over every base -/
theorem walk_of {l : PySem.W.OpenLaw} {n k : Nat} {q : Program} {loose : List Str} {XP : (Str → Option Value) → Heap → Prop} {YP : World → Heap → Prop} {d : DefRec} {K : Params → PySem.W.Frag} {CX : World → CXT} {sp : World → Sp} {x : Str}
    (hn : l.most = some n) (hn2 : n ≤ sizeLine) (hdf : d.params.defaults = []) (hr : Room k callerA)
    (hY : ∀ (w : World) (h : Heap), YP w h → (K w.params).In h)
    (F : ∀ (w : World) (mg : Str → Option Value) (fa : Addr) (h : Heap), (K w.params).In h → h.Ns mainGlobals mg → mg d.name = some (.ref fa) →
      ∃ fd : FuncData, (∀ (s : Shared) (u : Value), BindsTo s fd ⟨[u], []⟩ [(x, u)]) ∧
        ∀ base : Heap, (K w.params).In base → base.Ns mainGlobals mg → FnOk l.prog w (K w.params) mg base (CX w) k fa fd [x] (sp w))
    (hsp : ∀ (w : World) (H : Hp) (a : Addr) (ns : List Int), ns.length ≤ n → Only H → SqL (K w.params) H a (ns.map V.int) → sp w [.ref a] H (fun v _ => v = .bl true) fun _ _ _ => False)
    (hCX : ∀ (w : World) (H : Hp) (s : Shared) (e : Value) (s' : Shared), CX w [] H s (fun _ _ _ => False) e s' → False) :
    PySem.W.WalkO q loose XP YP l.row.toRowW d [] (fun f vs => PySem.call f vs) := by
  refine Att.attach_call hn hdf fun w s₀ s₁ mg mb fa o pm cd doc a vs ns G Y ho hd hcd hmg hobj hints hlen hg => ?_
  have KX := hY w _ Y
  obtain ⟨fd, hb, hF⟩ := F w mg fa _ KX G.T.g hmg
  exact law_call KX G.T.g G.T.b G.T.builtins G.T.nolimit hg hobj hints (Nat.le_trans hlen hn2) hr hF hb (fun H hO hS => hsp w H a ns hlen hO hS) fun H e s' => hCX w H s₁ e s'
end L2

/- THE LAST THEOREM (shape; LID, My.* are yours):
   My.Adr: a structure of the addresses that your layer names (classes, functions); My.Txt K t: a structure (Prop) of the equations over K;
   My.txt_mk : {K} {implicit addresses ..} (e1 : nsIn K mainGlobals "law" = some (some (.ref f))) (e2 : K.lookup f = some ⟨oc, od, .func (fnOf "law" "law" params body scope dV kV doc pm an cdv ct), sl⟩) (e3 : codeIn K cdv "law" = true) .. : ∃ t, My.Txt K t

set_option maxRecDepth 100000 in
set_option maxHeartbeats 0 in
theorem PySem.Challenge.cw_LID_holds : PySem.Challenge.rw_LID.Holds := by
  w_on; o_law; k_head; (case hw => w_witness2)
  k_fill
  refine L2.walk_of (l := PySem.Challenge.rw_LID) (n := 63) (k := 40) (x := "script") (CX := fun w => ..) (sp := fun _ => My.sp_law) rfl (by decide) rfl ⟨rfl, by decide, by decide⟩ (fun w h Y => PySem.W.kIn_of Y) ?F ?S ?C
  case F =>
    intro w mg fa h KX G hmg
    have T : ∃ t, My.Txt (L2.KOf KX) t := by
      dsimp only [L2.KOf]                          -- K must stand as «<heap const> w.params» for k_is
      refine' My.txt_mk ?e1 ?e2 ?e3 ..
      (case e1 => PySem.W.k_is)                    -- in the order: a name -> its address -> its object -> its parts
      (case e2 => PySem.W.k_is)
      ..
    obtain ⟨t, T⟩ := T
    have e0 := hmg.symm.trans (PySem.W.mg_of KX G T.law)
    cases e0                                       -- fa is the law's own address
    exact ⟨_, fun s u => .of_eq rfl, fun base kb nb => My.law_fn T kb nb⟩     -- if «.of_eq rfl» comes too early: refine' ⟨_, ?b, fun base kb nb => My.law_fn T kb nb⟩; exact fun s u => .of_eq rfl
  case S => exact fun w H a ns hl hO hS => ..
  case C => exact ..
(the tactic k_is has no namespace: write k_is) -/

/-! SHORT WORDS over the layer: a def of the text, its body, what a loop and a test want. -/
namespace L2
open PySem PySem.Spec PyProof.Rows

/-! ### the text by places -/
/-- the j-th statement of a class's body -/
def inClass (s : Stmt) (j : Nat) : Stmt := match s with
  | .ClassDef _ _ _ body _ _ _ _ _ _ _ => body.getD j (.Pass ⟨0, 0, 0, 0⟩)
  | _ => .Pass ⟨0, 0, 0, 0⟩
def defArgs (s : Stmt) : Arguments := match s with
  | .FunctionDef _ a _ _ _ _ _ _ _ _ => a
  | _ => { posonlyargs := [], args := [], vararg := none, kwonlyargs := [], kw_defaults := [], kwarg := none, defaults := [] }
def defBody (s : Stmt) : List Stmt := match s with
  | .FunctionDef _ _ b _ _ _ _ _ _ _ => b
  | _ => []
def defScope (s : Stmt) : Scope := match s with
  | .FunctionDef _ _ _ _ _ _ sc _ _ _ => sc
  | _ => { kind := .function, names := [], isGenerator := false, isCoroutine := false }

/-! ### no exception leaves a def -/
abbrev CX0 : CXT := fun _ _ _ _ _ _ => False
abbrev E0 : XK := fun _ _ _ => False
theorem pass0 {X : Cx} : Passes CX0 X E0 := fun _ _ _ _ _ _ _ h => h.elim

/-! ### a def (or method) of the text as it stands behind the top -/
structure Fun (K : PySem.W.Frag) (x qual : Str) (st : Stmt) (f : Addr) (fd : FuncData) : Prop where
  ex : ∃ (oc : Value) (od : Option Addr) (kV doc pm : Value) (an : Option Addr) (cdv ct : Value) (osl : Array (Option Value)),
    fd = PySem.W.fnOf x qual (defArgs st) (defBody st) (defScope st) .none kV doc pm an cdv ct ∧ K.lookup f = some ⟨oc, od, .func fd, osl⟩ ∧ PySem.W.codeIn K cdv qual = true
  kp : PySem.W.keepIn K (.ref f) = true
section
variable {P : Program} {w : World} {K : PySem.W.Frag} {mg : Str → Option Value} {base : Heap}
/-- THE RULE for a def: its body as a term of rules, and the reading of that term -/
theorem Fun.ok {x qual : Str} {st : Stmt} {f : Addr} {fd : FuncData} {N ps : List Str} {k : Nat} {sp : Sp} (F : Fun K x qual st f fd) (S : FnScope N ps (defScope st)) (len : ∀ vs H Q E, sp vs H Q E → vs.length = ps.length)
    (hbody : ∀ (cdv : Value) (A : Around) (outer : List Env) (s : Shared) (H : Hp) (vs : List V) (Q : VK) (E : XK), Room k (A.deeper (envOfC qual (defScope st) s.heap.objs.size f cdv)) → sp vs H Q E →
      ∃ t, PSs (cxOf CX0 P w K mg base N qual (defScope st) f cdv A outer s H E).nox (defBody st) t ∧ t { nx := fun _ H' => Q .non H', rt := Q } (start N vs) H) : FnOk P w K mg base CX0 (k + 1) f fd ps sp := by
  obtain ⟨oc, od, kV, doc, pm, an, cdv, ct, osl, rfl, lk, hcd⟩ := F.ex
  refine fn_of lk hcd S len fun A outer s H vs Q E hr hsp => ?_
  obtain ⟨t, h, q⟩ := hbody cdv A outer s H vs Q E hr hsp
  exact ⟨t, h.nox, q⟩
/-- how its arguments bind (no defaults): h is «fun _ _ _ _ _ _ us hl => match us, hl with | [_, _], _ => rfl», one _ a parameter -/
theorem Fun.binds {x qual : Str} {st : Stmt} {f : Addr} {fd : FuncData} {ps : List Str} (F : Fun K x qual st f fd)
    (h : ∀ (kV doc pm : Value) (an : Option Addr) (cdv ct : Value) (us : List Value), us.length = ps.length → bindArgs (PySem.W.fnOf x qual (defArgs st) (defBody st) (defScope st) .none kV doc pm an cdv ct) ⟨us, []⟩ = pure (ps.zip us)) : Binds K fd ps [] := by
  obtain ⟨oc, od, kV, doc, pm, an, cdv, ct, osl, rfl, lk, hcd⟩ := F.ex
  exact .all (h kV doc pm an cdv ct)
theorem fun_mk {x qual : Str} {st : Stmt} {f : Addr} {oc : Value} {od an : Option Addr} {osl : Array (Option Value)} {kV doc pm cdv ct : Value} (l : K.lookup f = some ⟨oc, od, .func (PySem.W.fnOf x qual (defArgs st) (defBody st) (defScope st) .none kV doc pm an cdv ct), osl⟩)
    (c : PySem.W.codeIn K cdv qual = true) (k : PySem.W.keepIn K (.ref f) = true) : Fun K x qual st f (PySem.W.fnOf x qual (defArgs st) (defBody st) (defScope st) .none kV doc pm an cdv ct) := ⟨⟨oc, od, kV, doc, pm, an, cdv, ct, osl, rfl, l, c⟩, k⟩
end
theorem hu_of {A : Around} {k : Nat} (hr : Room k A) : A.units + 1 < cLine := Nat.lt_of_le_of_lt (Nat.add_le_add_left (by decide : 1 ≤ 64) _) hr.units
theorem small1000 {n : Nat} (h : n ≤ 1000) : n < sizeLine := Nat.lt_of_le_of_lt h (by decide)

/-! ### expressions in short: the name that stands in the i-th slot -/
section
variable {X : Cx}
theorem pv (i : Nat) {x : Str} {pos : Pos} (hN : X.N[i]? = some x := by rfl) (hv : Vis X.env.scope x := by first | exact Or.inl rfl | exact Or.inr (Or.inl rfl) | exact Or.inr (Or.inr rfl)) (hd : (x == ("__debug__" : Str)) = false := by decide)
    (hcd : (x == ("__classdict__" : Str)) = false := by decide) : PE X (.Name x pos) (tVar i) := pe_var hN hv hd hcd
end

/-! ### tests -/
theorem iteF {A B : Prop} (h : B) : if false = true then A else B := by
  rw [if_neg Bool.false_ne_true]
  exact h
theorem iteT {A B : Prop} (h : A) : if true = true then A else B := by
  rw [if_pos rfl]
  exact h
theorem ite2 {c A B : Prop} [Decidable c] (h1 : c → A) (h2 : ¬ c → B) : if c then A else B := by
  by_cases h : c
  · rw [if_pos h]
    exact h1 h
  · rw [if_neg h]
    exact h2 h

/-! ### heaps -/
/-- all that was tracked is as it was -/
def Same (H H' : Hp) : Prop := ∀ b o, H b = some o → H' b = some o
theorem Same.refl (H : Hp) : Same H H := fun _ _ h => h
theorem Same.trans {H H1 H2 : Hp} (a : Same H H1) (b : Same H1 H2) : Same H H2 := fun c o h => b c o (a c o h)
theorem Same.free {H H' : Hp} (e : Same H H') {l : Addr} (h : H' l = Option.none) : H l = Option.none := by
  cases q : H l with
  | none => rfl
  | some o =>
    rw [e l o q] at h
    cases h
theorem Same.seq {K : PySem.W.Frag} {H H' : Hp} {a : Addr} {xs : List V} (e : Same H H') (h : SqL K H a xs) : SqL K H' a xs := by
  rcases h with (h | ⟨o, h⟩) | h
  · exact .inl (.inl (e _ _ h))
  · exact .inl (.inr ⟨o, e _ _ h⟩)
  · exact .inr h

end L2

set_option maxHeartbeats 4000000
namespace L2
open PySem PySem.Spec PyProof.Rows

/-! ### lists of pairs as tables -/
section
variable {κ : Type} [DecidableEq κ]
def valV (kvs : List (κ × V)) (k : κ) : Option V := (kvs.find? fun kv => decide (kv.1 = k)).map (·.2)
theorem valV_nil {k : κ} : valV ([] : List (κ × V)) k = none := rfl
/-- in its place, or at the end -/
def putK (kvs : List (κ × V)) (k : κ) (v : V) : List (κ × V) :=
  if (kvs.any fun kv => decide (kv.1 = k)) = true then kvs.map (fun kv => if kv.1 = k then (kv.1, v) else kv) else kvs ++ [(k, v)]

theorem valV_pos {p : κ × V} {r : List (κ × V)} {k : κ} (e : p.1 = k) : valV (p :: r) k = some p.2 := by simp [valV, List.find?_cons, e]
theorem valV_neg {p : κ × V} {r : List (κ × V)} {k : κ} (e : ¬ p.1 = k) : valV (p :: r) k = valV r k := by simp [valV, List.find?_cons, e]
theorem valV_any (k : κ) : ∀ kvs : List (κ × V), (kvs.any fun kv => decide (kv.1 = k)) = (valV kvs k).isSome
  | [] => rfl
  | p :: r => by
    rw [List.any_cons]
    by_cases e : p.1 = k
    · simp only [valV_pos e, decide_eq_true e, Bool.true_or, Option.isSome_some]
    · rw [valV_neg e, decide_eq_false e, Bool.false_or]; exact valV_any k r
theorem valV_map (k j : κ) (y : V) : ∀ kvs : List (κ × V), valV (kvs.map fun kv => if kv.1 = k then (kv.1, y) else kv) j = (valV kvs j).map fun x => if j = k then y else x
  | [] => rfl
  | p :: r => by
    have ih := valV_map k j y r
    rw [List.map_cons]
    by_cases h : p.1 = k
    · rw [if_pos h]
      by_cases e : p.1 = j
      · rw [valV_pos (p := (p.1, y)) e, valV_pos e, Option.map_some, if_pos (e.symm.trans h)]
      · rw [valV_neg (p := (p.1, y)) e, valV_neg e, ih]
    · rw [if_neg h]
      by_cases e : p.1 = j
      · rw [valV_pos (p := p) e, valV_pos e, Option.map_some, if_neg (fun z => h (e.trans z))]
      · rw [valV_neg (p := p) e, valV_neg e, ih]
theorem valV_snoc (k j : κ) (y : V) : ∀ kvs : List (κ × V), valV kvs k = none → valV (kvs ++ [(k, y)]) j = if j = k then some y else valV kvs j
  | [], _ => by
    by_cases e : k = j
    · rw [if_pos e.symm]; exact valV_pos (p := (k, y)) e
    · rw [if_neg (fun z => e z.symm)]; exact valV_neg (p := (k, y)) e
  | p :: r, hn => by
    rw [List.cons_append]
    have hk : ¬ p.1 = k := fun z => by rw [valV_pos z] at hn; cases hn
    rw [valV_neg hk] at hn
    have ih := valV_snoc k j y r hn
    by_cases e : p.1 = j
    · rw [valV_pos e, valV_pos e, if_neg (fun z => hk (e.trans z))]
    · rw [valV_neg e, valV_neg e, ih]
theorem valV_put (kvs : List (κ × V)) (k j : κ) (y : V) : valV (putK kvs k y) j = if j = k then some y else valV kvs j := by
  unfold putK
  by_cases a : (kvs.any fun kv => decide (kv.1 = k)) = true
  · rw [if_pos a, valV_map]
    rw [valV_any] at a
    by_cases e : j = k
    · obtain ⟨x, hx⟩ := Option.isSome_iff_exists.mp a
      rw [if_pos e, e, hx, Option.map_some, if_pos rfl]
    · rw [if_neg e]
      cases valV kvs j with
      | none => rfl
      | some x => rw [Option.map_some, if_neg e]
  · rw [if_neg a]
    refine valV_snoc k j y kvs ?_
    rw [valV_any] at a
    cases q : valV kvs k with
    | none => rfl
    | some x => rw [q] at a; exact (a rfl).elim
theorem length_putK (kvs : List (κ × V)) (k : κ) (v : V) : (putK kvs k v).length ≤ kvs.length + 1 := by
  unfold putK
  split
  · rw [List.length_map]; omega
  · rw [List.length_append, List.length_cons, List.length_nil]; omega

theorem RelO.isSome_eq {o : Option V} {u : Option Value} (r : RelO o u) : o.isSome = u.isSome := by
  cases o with
  | none => cases u with
    | none => rfl
    | some _ => exact (show False from r).elim
  | some _ => cases u with
    | none => exact (show False from r).elim
    | some _ => rfl

/-- raw tables of the same keys -/
theorem KV.val {kvs : List (κ × V)} {vs : List (κ × Value)} (r : KV kvs vs) (k : κ) : RelO (valV kvs k) (valueAt vs k) := by
  unfold KV at r
  induction r with
  | nil => exact True.intro
  | @cons p q ps qs h t ih =>
    obtain ⟨h1, h2⟩ := h
    by_cases e : p.1 = k
    · have e' : q.1 = k := h1.symm.trans e
      have b : valueAt (q :: qs) k = some q.2 := by simp [valueAt, List.find?_cons, e']
      rw [valV_pos e, b]; exact h2
    · have e' : ¬ q.1 = k := fun z => e (h1.trans z)
      have b : valueAt (q :: qs) k = valueAt qs k := by simp [valueAt, List.find?_cons, e']
      rw [valV_neg e, b]; exact ih
theorem KV.any {kvs : List (κ × V)} {vs : List (κ × Value)} (r : KV kvs vs) (k : κ) : (kvs.any fun kv => decide (kv.1 = k)) = vs.any fun kv => decide (kv.1 = k) := by
  unfold KV at r
  induction r with
  | nil => rfl
  | cons h t ih => rw [List.any_cons, List.any_cons, ih, h.1]
theorem KV.repl {kvs : List (κ × V)} {vs : List (κ × Value)} (r : KV kvs vs) (k : κ) {y : V} {u : Value} (ry : RelV y u) :
    KV (kvs.map fun kv => if kv.1 = k then (kv.1, y) else kv) (vs.map fun kv => if kv.1 = k then (kv.1, u) else kv) := by
  unfold KV at r ⊢
  induction r with
  | nil => exact .nil
  | @cons p q ps qs h t ih =>
    rw [List.map_cons, List.map_cons]
    refine .cons ?_ ih
    obtain ⟨h1, h2⟩ := h
    by_cases e : p.1 = k
    · rw [if_pos e, if_pos (h1.symm.trans e)]; exact ⟨h1, ry⟩
    · rw [if_neg e, if_neg (fun z => e (h1.trans z))]; exact ⟨h1, h2⟩
theorem KV.put {kvs : List (κ × V)} {vs : List (κ × Value)} (r : KV kvs vs) (k : κ) {y : V} {u : Value} (ry : RelV y u) : KV (putK kvs k y) (stored vs k u) := by
  unfold putK stored
  rw [r.any k]
  by_cases e : (vs.any fun kv => decide (kv.1 = k)) = true
  · rw [if_pos e, if_pos e]; exact r.repl k ry
  · rw [if_neg e, if_neg e]; exact Paired.snoc r ⟨rfl, ry⟩
theorem KV.length {kvs : List (κ × V)} {vs : List (κ × Value)} (r : KV kvs vs) : kvs.length = vs.length := Paired.length r
end


/-! ### a tracked dict, its keys ints and texts or tuples of these -/
theorem kV_is {P : Program} {w : World} {k : Key} {u : Value} (r : RelV (kV k) u) : (mixKind P w).is k u = true := by
  cases k with
  | inl i => obtain ⟨t, e⟩ := (show ∃ t, u = Value.int i t from r); subst e; exact mixKind_int P w i t
  | inr x => obtain ⟨t, e⟩ := (show ∃ t, u = Value.str x t from r); subst e; exact mixKind_str P w x t
theorem items_are {P : Program} {w : World} : ∀ {ks : List Key} {us : List Value}, Vals (ks.map kV) us → ItemsAre (mixKind P w) ks us
  | [], _, r => by rw [List.map_nil] at r; cases r; exact .nil
  | k :: ks, _, r => by
    rw [List.map_cons] at r
    cases r with
    | cons h t => exact .cons (kV_is h) (items_are t)

/-- raw entries of a dict with tuple keys -/
abbrev KT (H : Hp) : List (List Key × V) → List (List Key × Addr × Value) → Prop := Paired fun p q => p.1 = q.1 ∧ H q.2.1 = some (.tup (p.1.map kV)) ∧ RelV p.2 q.2.2
theorem KT.val {H : Hp} {kvs : List (List Key × V)} {xs : List (List Key × Addr × Value)} (r : KT H kvs xs) (k : List Key) : RelO (valV kvs k) ((atKey xs k).map (·.2)) := by
  induction r with
  | nil => exact True.intro
  | @cons p q ps qs h t ih =>
    obtain ⟨h1, _, h2⟩ := h
    by_cases e : p.1 = k
    · have e' : q.1 = k := h1.symm.trans e
      have b : atKey (q :: qs) k = some q.2 := by simp [atKey, List.find?_cons, e']
      rw [valV_pos e, b]; exact h2
    · have e' : ¬ q.1 = k := fun z => e (h1.trans z)
      have b : atKey (q :: qs) k = atKey qs k := by simp [atKey, List.find?_cons, e']
      rw [valV_neg e, b]; exact ih
theorem KT.repl {H : Hp} {kvs : List (List Key × V)} {xs : List (List Key × Addr × Value)} (r : KT H kvs xs) (k : List Key) {y : V} {u : Value} (ry : RelV y u) :
    KT H (kvs.map fun kv => if kv.1 = k then (kv.1, y) else kv) (xs.map (putAt k u)) := by
  induction r with
  | nil => exact .nil
  | @cons p q ps qs h t ih =>
    rw [List.map_cons, List.map_cons]
    refine .cons ?_ ih
    obtain ⟨h1, h2, h3⟩ := h
    unfold putAt
    by_cases e : p.1 = k
    · rw [if_pos e, if_pos (h1.symm.trans e)]; exact ⟨h1, h2, ry⟩
    · rw [if_neg e, if_neg (fun z => e (h1.trans z))]; exact ⟨h1, h2, h3⟩
theorem KT.put {H : Hp} {kvs : List (List Key × V)} {xs : List (List Key × Addr × Value)} (r : KT H kvs xs) (k : List Key) {b : Addr} {y : V} {u : Value} (hb : H b = some (.tup (k.map kV))) (ry : RelV y u) :
    KT H (putK kvs k y) (storedH xs k b u) := by
  have e : (kvs.any fun kv => decide (kv.1 = k)) = (atKey xs k).isSome := by
    rw [valV_any, (r.val k).isSome_eq, Option.isSome_map]
  unfold putK storedH
  rw [e]
  by_cases q : (atKey xs k).isSome = true
  · rw [if_pos q, if_pos q]; exact r.repl k ry
  · rw [if_neg q, if_neg q]; exact Paired.snoc r ⟨rfl, hb, ry⟩
theorem KT.keeps {H H' : Hp} {kvs : List (List Key × V)} {xs : List (List Key × Addr × Value)} (r : KT H kvs xs) (ht : ∀ b ys, H b = some (.tup ys) → H' b = some (.tup ys)) : KT H' kvs xs :=
  Paired.mapP r fun _ _ z => ⟨z.1, ht _ _ z.2.1, z.2.2⟩

section
variable {P : Program} {w : World} {H : Hp} {h : Heap} {a : Addr}
theorem rd_of {u : HO} (ok : HOk P w H h) (e : Rd H a u) : ObjOk P w H h a u := e.ok ok
theorem dk_rd {kvs : List (Key × V)} (ok : HOk P w H h) (e : Rd H a (.dK kvs)) : kvs.length ≤ sizeLine ∧ (a == sysModules) = false ∧ ∃ vs, KV kvs vs ∧ h.DictOf (mixKind P w) a vs :=
  show ObjOk P w H h a (.dK kvs) from rd_of ok e
theorem dk_of {kvs : List (Key × V)} (ok : HOk P w H h) (e : H a = some (.dK kvs)) : kvs.length ≤ sizeLine ∧ (a == sysModules) = false ∧ ∃ vs, KV kvs vs ∧ h.DictOf (mixKind P w) a vs := dk_rd ok (.inl e)
/-- a tracked tuple of ints and texts is a key -/
theorem key_of {ks : List Key} (ok : HOk P w H h) (e : H a = some (.tup (ks.map kV))) : (tupleKind (mixKind P w)).is h ks a := by
  obtain ⟨_, its, r, o, h1, h2, n, h3⟩ := (show ObjOk P w H h a (.tup (ks.map kV)) from ok a _ e)
  exact ⟨o, its.toArray, n, h1, h2, h3, by simpa using items_are r⟩
theorem dt_rd {kvs : List (List Key × V)} (ok : HOk P w H h) (e : Rd H a (.dT kvs)) : kvs.length ≤ sizeLine ∧ (a == sysModules) = false ∧
    ∃ xs, KT H kvs xs ∧ h.DictOfH (tupleKind (mixKind P w)) a xs := by
  obtain ⟨z, y, xs, r, o, es, ep, h1, h2, h3, h4, h5⟩ := (show ObjOk P w H h a (.dT kvs) from rd_of ok e)
  refine ⟨z, y, xs, r, o, es, ep, h1, h2, h3, h4, fun x hx => ?_, h5⟩
  have all : ∀ {l : List (List Key × V)} {m : List (List Key × Addr × Value)}, KT H l m → ∀ x ∈ m, (tupleKind (mixKind P w)).is h x.1 x.2.1 := by
    intro l m q
    induction q with
    | nil => intro x hx; exact nomatch hx
    | @cons p q ps qs hq t ih =>
      intro x hx
      rcases List.mem_cons.mp hx with e | hx
      · subst e
        exact key_of ok (by rw [← hq.1]; exact hq.2.1)
      · exact ih x hx
  exact all r x hx
theorem dt_of {kvs : List (List Key × V)} (ok : HOk P w H h) (e : H a = some (.dT kvs)) : kvs.length ≤ sizeLine ∧ (a == sysModules) = false ∧
    ∃ xs, KT H kvs xs ∧ h.DictOfH (tupleKind (mixKind P w)) a xs := dt_rd ok (.inl e)
end

/-- what the dict at a holds at the key y -/
def DGet (H : Hp) (a : Addr) (y : V) (r : Option V) : Prop :=
  (∃ kvs k, Rd H a (.dK kvs) ∧ y = kV k ∧ r = valV kvs k) ∨ ∃ kvs k b, Rd H a (.dT kvs) ∧ y = .ref b ∧ H b = some (.tup (k.map kV)) ∧ r = valV kvs k
/-- the heap behind a[y] = v -/
def DPut (H : Hp) (a : Addr) (y v : V) (H' : Hp) : Prop :=
  (∃ kvs k, H a = some (.dK kvs) ∧ y = kV k ∧ kvs.length < sizeLine ∧ H' = upd H a (.dK (putK kvs k v))) ∨
  ∃ kvs k b, H a = some (.dT kvs) ∧ y = .ref b ∧ H b = some (.tup (k.map kV)) ∧ kvs.length < sizeLine ∧ H' = upd H a (.dT (putK kvs k v))
theorem DGet.t {H : Hp} {a b : Addr} {kvs : List (List Key × V)} {k : List Key} (e : H a = some (.dT kvs)) (eb : H b = some (.tup (k.map kV))) : DGet H a (.ref b) (valV kvs k) := .inr ⟨kvs, k, b, .inl e, rfl, eb, rfl⟩
theorem DPut.t {H : Hp} {a b : Addr} {kvs : List (List Key × V)} {k : List Key} {v : V} (e : H a = some (.dT kvs)) (eb : H b = some (.tup (k.map kV))) (hl : kvs.length < sizeLine) :
    DPut H a (.ref b) v (upd H a (.dT (putK kvs k v))) := .inr ⟨kvs, k, b, e, rfl, eb, hl, rfl⟩


section
variable {X : Cx} {pins : List (Addr × Obj)} {σ : St} {H : Hp} {s : Shared} {a : Addr} {y v : V} {u r : Value} {o : Option V} {A : Around} {E : Value → Shared → Prop}

theorem Inv.big (I : Inv X pins σ H s) : sysModules < s.heap.objs.size := by
  have h : mainGlobals < s.heap.objs.size := (I.mod.glob.keeps I.bk).lt
  exact Nat.lt_trans (by decide) h

/-- y in d -/
theorem d_in {Q : Value → Shared → Prop} (hu : A.units + 1 < cLine) (I : Inv X pins σ H s) (g : DGet H a y o) (ry : RelV y u) (h : ∀ s', Inv X pins σ H s' → Q (.bool o.isSome) s') :
    wpAny (model X.prog X.w) A (compareOp .In u (.ref a)) Q E s := by
  rcases g with ⟨kvs, k, e, ey, l⟩ | ⟨kvs, k, b, e, ey, eb, l⟩
  · subst ey
    obtain ⟨z, hd, vs, rel, dd⟩ := dk_rd I.hok e
    refine wpAny_in_of (kV_is ry) hd dd.mapOf ?_
    rw [← (rel.val k).isSome_eq, ← l]
    exact h _ (I.tok _)
  · subst ey
    cases (show u = Value.ref b from ry)
    obtain ⟨z, hd, xs, rel, dd⟩ := dt_rd I.hok e
    refine wpAny_in_heap (tupleKind_room_in1 hu) (key_of I.hok eb) hd dd ?_
    have q := (rel.val k).isSome_eq
    rw [Option.isSome_map] at q
    rw [← q, ← l]
    exact h _ (I.tok _)
/-- a dict's object is replaced -/
theorem d_write {h' : Heap} {t' : Nat} {ob : HO} (I : Inv X pins σ H s) (mu : Mut (H a)) (hs : Heap.SameBut a s.heap h') (he : ∃ q, h'.get? a = some q) (new : ObjOk X.prog X.w (upd H a ob) h' a ob) :
    Inv X pins σ (upd H a ob) { s with heap := h', toks := t' } :=
  I.write (x := a) (e := a) mu (.inl rfl) (fun b q hb z => (hs.2 b hb).trans z) he new
theorem dk_new {P : Program} {w : World} {H' : Hp} {h' : Heap} {kvs : List (Key × V)} {vs : List (Key × Value)} (z : kvs.length ≤ sizeLine) (hd : (a == sysModules) = false) (rel : KV kvs vs) (dd : h'.DictOf (mixKind P w) a vs) :
    ObjOk P w H' h' a (.dK kvs) := ⟨z, hd, vs, rel, dd⟩
/-- d[y] = v -/
theorem d_setItem {H' : Hp} {Q : Unit → Shared → Prop} (hu : A.units + 1 < cLine) (I : Inv X pins σ H s) (g : DPut H a y v H') (ry : RelV y u) (rv : RelV v r) (h : ∀ s', Inv X pins σ H' s' → Q () s') :
    wpAny (model X.prog X.w) A (setItem (.ref a) u r) Q E s := by
  rcases g with ⟨kvs, k, e, ey, l, eH⟩ | ⟨kvs, k, b, e, ey, eb, l, eH⟩
  · subst ey eH
    obtain ⟨z, hd, vs, rel, dd⟩ := dk_of I.hok e
    have hz : vs.length ≤ sizeLine := by rw [← rel.length]; exact z
    have hl : (putK kvs k v).length ≤ sizeLine := by have := length_putK kvs k v; omega
    refine wpAny_setItem_pairs (hsz := hz) (kV_is ry) dd fun h' dd' hs => h _ ?_
    have he : ∃ q, h'.get? a = some q := let ⟨q, _, _, hq, _⟩ := dd'; ⟨q, hq⟩
    exact d_write I (by rw [e]; exact True.intro) hs he (dk_new hl hd (rel.put k rv) dd')
  · subst ey eH
    cases (show u = Value.ref b from ry)
    obtain ⟨z, hd, xs, rel, dd⟩ := dt_of I.hok e
    have hz : xs.length ≤ sizeLine := by rw [← Paired.length rel]; exact z
    have hl : (putK kvs k v).length ≤ sizeLine := by have := length_putK kvs k v; omega
    refine wpAny_setItem_heap (hsz := hz) (tupleKind_room_in1 hu) (key_of I.hok eb) dd fun h' dd' hs => h _ ?_
    obtain ⟨q, es, ep, hq, h2, h3, h4, _, h5⟩ := dd'
    refine d_write I (by rw [e]; exact True.intro) hs ⟨q, hq⟩ ⟨hl, hd, _, (rel.put k eb rv).keeps fun c ys ec => ?_, q, es, ep, hq, h2, h3, h4, h5⟩
    rw [upd_ne (ne_of ec e (fun z => nomatch z))]
    exact ec
end

section
variable {X : Cx} {pins : List (Addr × Obj)} {σ : St} {H : Hp} {s : Shared} {a : Addr} {kvs : List (Key × V)} {k : Key} {u : Value} {A : Around} {E : Value → Shared → Prop}
end


/-! ### readings and rules -/


/-- y in d, y not in d -/
def tDIn (ty td : TE) : TE := fun σ H Q => ty σ H fun y H1 => td σ H1 fun x H2 => ∃ a o, x = .ref a ∧ DGet H2 a y o ∧ Q (.bl o.isSome) H2
/-- d[y] = v -/
def sDPut (td ty tv : TE) : TS := fun D σ H => tv σ H fun v H1 => td σ H1 fun x H2 => ty σ H2 fun y H3 => ∃ a H4, x = .ref a ∧ DPut H3 a y v H4 ∧ D.nx σ H4

section
variable {X : Cx} {o i e value : Expr} {pos pos' tpos : Pos} {td ty tv : TE}
theorem pc_din (hu : X.A.units + 1 < cLine) (hi : PE X i ty) (ho : PE X o td) : PC X .In i o (tDIn ty td) := by
  intro pins s σ H Q I h
  refine thn (hi pins s σ H _ I h) fun iv s1 ⟨y, H1, I1, ry, q1⟩ => thn (ho pins s1 σ H1 _ I1 q1) fun u s2 ⟨x, H2, I2, rx, a, ov, ex, g, q2⟩ => ?_
  subst ex
  obtain rfl : u = Value.ref a := rx
  exact d_in hu I2 g ry fun s3 I3 => ⟨.bl ov.isSome, H2, I3, rfl, q2⟩
theorem ps_dput (hu : X.A.units + 1 < cLine) (ho : PE X o td) (hi : PE X i ty) (hv : PE X value tv) (hs : swapsWith value (some (.Subscript o i pos')) pos.line X.env = pure false) :
    PS X (.Assign [.Subscript o i pos'] value pos) (sDPut td ty tv) := by
  intro pins s σ H D I h
  refine wpAny_Assign_Subscript (thn (hv pins s σ H _ I h) fun r s1 ⟨v, H1, I1, rv, q1⟩ => thn (ho pins s1 σ H1 _ I1 q1) fun u s2 ⟨x, H2, I2, rx, q2⟩ => thn (hi pins s2 σ H2 _ I2 q2) fun iv s3 ⟨y, H3, I3, ry, a, H4, ex, g, q3⟩ => ?_) hs
  subst ex
  obtain rfl : u = Value.ref a := rx
  exact d_setItem hu I3 g ry rv fun s4 I4 => ⟨σ, H4, I4, q3⟩
end


/-! ### displays -/
theorem dt_empty {P : Program} {w : World} {H : Hp} (h : Heap) (hb : sysModules < h.objs.size) : ObjOk P w H (h.push { cls := .type "dict", data := .dict #[] }) h.objs.size (.dT []) :=
  ⟨Nat.zero_le _, beq_eq_false_iff_ne.mpr (Ne.symm (Nat.ne_of_lt hb)), [], .nil, _, #[], 0, Heap.get?_push_size _ rfl, ⟨rfl, rfl, rfl⟩, rfl, rfl, List.nodup_nil⟩
def tDNewT : TE := fun _ H Q => ∀ p, H p = none → Q (.ref p) (upd H p (.dT []))
section
variable {X : Cx} {pos : Pos}
theorem pe_dnewT : PE X (.Dict [] [] pos) tDNewT := fun pins s σ H Q I h =>
  wpAny_Dict_empty ⟨.ref s.heap.objs.size, _, I.laid (a := s.heap.objs.size) (o := .dT []) (t' := s.toks) (fun _ _ q => Heap.get?_push_of_some _ q) (Nat.le_refl _) (dt_empty s.heap I.big), rfl, h _ (I.hok.fresh (Nat.le_refl _))⟩
end




/-! ### methods -/
structure M2 (X : Cx) (o : Expr) (m : Str) (apos : Pos) (e f : Expr) (cpos : Pos) : Prop where
  base : attributeBase o m X.env (eval o X.env) = eval o X.env
  few : ((backTo cpos (starEach [e, f] X.env)).all (fun x => !x.1) && (backToKw cpos (keywordEach [] X.env)).all (fun x => x.1.isSome)
    && decide (([e, f] : List Expr).length + ([] : List Keyword).length + (if ([] : List Keyword).isEmpty then 0 else 1) < 30)) = true
  line : (apos.endLine == cpos.line) = true
  trees : backTo cpos (starEach [e, f] X.env) = [(false, eval e X.env), (false, eval f X.env)]

/-- a is a dict, whatever its keys -/
def IsD (H : Hp) (a : Addr) : Prop := (∃ kvs, Rd H a (.dK kvs)) ∨ ∃ kvs, Rd H a (.dT kvs)
theorem isD_at {X : Cx} {pins : List (Addr × Obj)} {σ : St} {H : Hp} {s : Shared} {a : Addr} (I : Inv X pins σ H s) (d : IsD H a) :
    s.TypeIs (.ref a) "dict" ∧ (∀ b, Value.ref a = .ref b → ∃ ob, s.heap.get? b = some ob ∧ ob.dict = none) ∧ (a == sysModules) = false := by
  rcases d with ⟨kvs, e⟩ | ⟨kvs, e⟩
  · obtain ⟨_, hd, vs, _, dd⟩ := dk_rd I.hok e
    refine ⟨dd.typeIs, fun b q => ?_, hd⟩
    cases q
    obtain ⟨ob, _, _, h1, h2, _⟩ := dd
    exact ⟨ob, h1, h2.2.1⟩
  · obtain ⟨_, hd, xs, _, dd⟩ := dt_rd I.hok e
    refine ⟨dd.typeIs, fun b q => ?_, hd⟩
    cases q
    obtain ⟨ob, _, _, h1, h2, _⟩ := dd
    exact ⟨ob, h1, h2.2.1⟩

section
variable {X : Cx} {pins : List (Addr × Obj)} {σ : St} {H : Hp} {s : Shared} {a : Addr} {y d : V} {u r : Value} {o : Option V} {A : Around} {E : Value → Shared → Prop}
end

section
variable {X : Cx} {o e f : Expr} {apos cpos : Pos} {td ty tx : TE}
end

/-! ### dict(d): a copy -/
section
variable {X : Cx} {pins : List (Addr × Obj)} {σ : St} {H : Hp} {s : Shared} {a : Addr} {kvs : List (Key × V)} {A : Around} {E : Value → Shared → Prop}
end


section
variable {X : Cx} {pins : List (Addr × Obj)} {σ : St} {H : Hp} {s : Shared} {a : Addr} {y : V} {u : Value} {A : Around} {E : Value → Shared → Prop}
end
end L2
namespace L2
open PySem PySem.Spec PyProof.Rows
/-! ### a dict's pairs: keys that differ -/
section
variable {κ : Type} [DecidableEq κ]
end
end L2

namespace L2
open PySem
theorem clos_go (env : Env) : ∀ (names : List (Str × NameKind)) (acc : List (Str × Addr)),
    (∀ y ∈ names, y.2 = NameKind.free → ∃ c, env.cells.lookup y.1 = some c) →
    (∀ x c, acc.lookup x = some c → env.cells.lookup x = some c) →
    ∃ cl : List (Str × Addr), (forIn names acc (fun (x : Str × NameKind) (r : List (Str × Addr)) => (match x with
      | (name, kind) => if (kind == NameKind.free) = true then do let a ← cellOf env name; pure (ForInStep.yield ((name, a) :: r)) else pure (ForInStep.yield r) : Sem (ForInStep (List (Str × Addr))))) : Sem (List (Str × Addr))) = pure cl ∧
      (∀ x c, cl.lookup x = some c → env.cells.lookup x = some c) ∧ (∀ x, (acc.lookup x).isSome = true → (cl.lookup x).isSome = true) ∧ (∀ y ∈ names, y.2 = NameKind.free → (cl.lookup y.1).isSome = true)
  | [], acc, _, ha => ⟨acc, rfl, ha, fun _ h => h, fun _ h => nomatch h⟩
  | (n, k) :: r, acc, h, ha => by
    by_cases hk : k = NameKind.free
    · subst hk
      obtain ⟨c, hc⟩ := h (n, NameKind.free) List.mem_cons_self rfl
      obtain ⟨cl, e, h1, h2, h3⟩ := clos_go env r ((n, c) :: acc) (fun y hy => h y (List.mem_cons_of_mem _ hy)) (fun x d hd => by
        rw [List.lookup_cons] at hd
        cases hx : x == n with
        | true =>
          rw [hx] at hd
          cases hd
          rw [eq_of_beq hx]; exact hc
        | false => rw [hx] at hd; exact ha x d hd)
      refine ⟨cl, ?_, h1, fun x hx => h2 x ?_, fun y hy hf => ?_⟩
      · rw [List.forIn_cons]
        have ec : cellOf env n = pure c := by unfold cellOf; rw [hc]
        simp only [ec]
        exact e
      · rw [List.lookup_cons]
        cases hx : x == n with
        | true => rfl
        | false => assumption
      · rcases List.mem_cons.mp hy with rfl | hy
        · refine h2 n ?_
          rw [List.lookup_cons, beq_self_eq_true]; rfl
        · exact h3 y hy hf
    · obtain ⟨cl, e, h1, h2, h3⟩ := clos_go env r acc (fun y hy => h y (List.mem_cons_of_mem _ hy)) ha
      refine ⟨cl, ?_, h1, h2, fun y hy hf => ?_⟩
      · rw [List.forIn_cons]
        have ek : (k == NameKind.free) = false := by simpa using hk
        simp only [ek, Bool.false_eq_true, if_false]
        exact e
      · rcases List.mem_cons.mp hy with rfl | hy
        · exact absurd hf hk
        · exact h3 y hy hf
theorem clos_of {scope : Scope} {env : Env} (h : ∀ y ∈ scope.names, y.2 = NameKind.free → ∃ c, env.cells.lookup y.1 = some c) :
    ∃ cl : List (Str × Addr), closureFor scope env = pure cl ∧ (∀ x c, cl.lookup x = some c → env.cells.lookup x = some c) ∧ (∀ y ∈ scope.names, y.2 = NameKind.free → (cl.lookup y.1).isSome = true) := by
  obtain ⟨cl, e, h1, h2, h3⟩ := clos_go env scope.names [] h (fun x c h => by cases h)
  refine ⟨cl, ?_, h1, h3⟩
  unfold closureFor
  show (forIn scope.names [] _ >>= fun r => pure r) = pure cl
  rw [e]
  rfl
end L2

namespace L2
open PySem
section
variable {prog : Program} {w : World} {A : Around} {R : Result → Shared → Prop} {s : Shared}
theorem compLoop_go {elt target iter : Expr} {ifs : List Expr} {scope : Scope} {pos : Pos} {it acc : Value} {env : Env} (I : Nat → Shared → Prop)
    (turn : ∀ n s, I n s → wpAny (model prog w) A (pyNext it) (fun r s₁ => match r with
      | none => R (.ok .next) s₁
      | some v => wpAny (model prog w) A (letOwnedTupleGo target it v) (fun _ s₁' => wpAny (model prog w) A (assign target env v) (fun _ s₂ =>
          wpAny (model prog w) A (forIn ifs true fun c r => if r = true then do let ok ← isTrue c env (eval c env); pure (ForInStep.yield ok) else pure (ForInStep.yield r)) (fun ok s₃ =>
            if ok = true then wpAny (model prog w) A (eval elt env) (fun x s₄ =>
              wpAny (model prog w) A (call (.builtin "list.append") [acc, x]) (fun _ s₅ => ∃ m, m < n ∧ I m s₅) (fun _ _ => False) s₄) (fun _ _ => False) s₃
            else ∃ m, m < n ∧ I m s₃) (fun _ _ => False) s₂) (fun _ _ => False) s₁') (fun _ _ => False) s₁) (fun _ _ => False) s)
    (n : Nat) (h : I n s) :
    codeAny (model prog w) A (.compLoop (.ListComp elt [⟨target, iter, ifs, 0⟩] scope pos) 0 it acc env) R s := by
  refine codeAny_loop rfl I (fun n s hI => ?_) n h
  show wpAny _ A ((compTurn (.ListComp elt [⟨target, iter, ifs, 0⟩] scope pos) 0 it acc env).onRaise (fun x => do noteFrame x env; theTreesLotGoes x)) _ _ s
  refine wpAny_noted ?_
  rw [compTurn_list]
  refine wpAny_bind (wpAny_standAt (wpAny_bind (wpAny_mono (turn n s hI) (fun r s₁ h₁ => ?_) fun _ _ h' => h'.elim)))
  cases r with
  | none => exact wpAny_pure h₁
  | some v =>
    refine wpAny_bind (wpAny_mono h₁ (fun _ s₁' h₁' => ?_) fun _ _ h' => h'.elim)
    refine wpAny_bind (wpAny_mono h₁' (fun _ s₂ h₂ => wpAny_bind (wpAny_mono h₂ (fun ok s₃ h₃ => ?_) fun _ _ h' => h'.elim)) fun _ _ h' => h'.elim)
    cases ok with
    | false => exact wpAny_pure ⟨rfl, h₃⟩
    | true =>
      exact wpAny_bind (wpAny_bind (wpAny_mono h₃ (fun x s₄ h₄ => wpAny_bind (wpAny_mono h₄ (fun _ s₅ h₅ => wpAny_pure (wpAny_pure ⟨rfl, h₅⟩)) fun _ _ h' => h'.elim)) fun _ _ h' => h'.elim))
end
end L2

/-! ### a comprehension: its names, its context -/
namespace L2
open PySem PySem.Spec PyProof.Rows

theorem lookup_relabel {env : Env} : ∀ {names : List (Str × NameKind)} {x : Str} {k' : NameKind},
    (names.map fun (n, k) => if (k == NameKind.free && env.scope.kind == .function && env.kindOf n == some .cell) then (n, NameKind.cell) else (n, k)).lookup x = some k' →
    ∃ k, names.lookup x = some k ∧ (k' = k ∨ (k = .free ∧ k' = .cell))
  | [], _, _, h => by simp at h
  | (n, k) :: r, x, k', h => by
    have h' : List.lookup x ((if (k == NameKind.free && env.scope.kind == .function && env.kindOf n == some .cell) = true then (n, NameKind.cell) else (n, k)) :: _) = some k' := h
    cases hx : x == n with
    | true =>
      by_cases hc : (k == NameKind.free && env.scope.kind == .function && env.kindOf n == some .cell) = true
      · rw [if_pos hc, List.lookup_cons, hx] at h'
        have hk : k = .free := by
          rw [Bool.and_eq_true, Bool.and_eq_true] at hc
          exact eq_of_beq hc.1.1
        exact ⟨k, by rw [List.lookup_cons, hx], .inr ⟨hk, (Option.some.inj h').symm⟩⟩
      · rw [if_neg hc, List.lookup_cons, hx] at h'
        exact ⟨k, by rw [List.lookup_cons, hx], .inl (Option.some.inj h').symm⟩
    | false =>
      have h2 : (r.map fun (n, k) => if (k == NameKind.free && env.scope.kind == .function && env.kindOf n == some .cell) then (n, NameKind.cell) else (n, k)).lookup x = some k' := by
        by_cases hc : (k == NameKind.free && env.scope.kind == .function && env.kindOf n == some .cell) = true
        · rw [if_pos hc, List.lookup_cons, hx] at h'; exact h'
        · rw [if_neg hc, List.lookup_cons, hx] at h'; exact h'
      obtain ⟨k1, e, z⟩ := lookup_relabel h2
      exact ⟨k1, by rw [List.lookup_cons, hx]; exact e, z⟩
theorem lookup_relabel_free {env : Env} : ∀ {names : List (Str × NameKind)} {x : Str}, names.lookup x = some .free →
    (names.map fun (n, k) => if (k == NameKind.free && env.scope.kind == .function && env.kindOf n == some .cell) then (n, NameKind.cell) else (n, k)).lookup x = some .cell ∨
    (names.map fun (n, k) => if (k == NameKind.free && env.scope.kind == .function && env.kindOf n == some .cell) then (n, NameKind.cell) else (n, k)).lookup x = some .free
  | [], _, h => by simp at h
  | (n, k) :: r, x, h => by
    have ih := @lookup_relabel_free env r x
    show List.lookup x ((if (k == NameKind.free && env.scope.kind == .function && env.kindOf n == some .cell) = true then (n, NameKind.cell) else (n, k)) :: _) = _ ∨ List.lookup x ((if (k == NameKind.free && env.scope.kind == .function && env.kindOf n == some .cell) = true then (n, NameKind.cell) else (n, k)) :: _) = _
    cases hx : x == n with
    | true =>
      rw [List.lookup_cons, hx] at h
      have hk : k = .free := Option.some.inj h
      by_cases hc : (k == NameKind.free && env.scope.kind == .function && env.kindOf n == some .cell) = true
      · left; rw [if_pos hc, List.lookup_cons, hx]
      · right; rw [if_neg hc, List.lookup_cons, hx]; simp only; rw [hk]
    | false =>
      rw [List.lookup_cons, hx] at h
      by_cases hc : (k == NameKind.free && env.scope.kind == .function && env.kindOf n == some .cell) = true
      · rw [if_pos hc, List.lookup_cons, hx]; exact ih h
      · rw [if_neg hc, List.lookup_cons, hx]; exact ih h
theorem mem_lookup {names : List (Str × NameKind)} {x : Str} {k : NameKind} (h : names.lookup x = some k) : (x, k) ∈ names := PySem.mem_of_lookup h

/-- the slots of a block's names, out of the def's -/
def csel (fm : List (Option Nat)) (σ : St) : St := fm.map fun o => match o with | some j => (σ[j]?).getD none | none => none
theorem csel_get {fm : List (Option Nat)} {σ : St} {i : Nat} {v : V} (h : (csel fm σ)[i]? = some (some v)) : ∃ j, fm[i]? = some (some j) ∧ σ[j]? = some (some v) := by
  unfold csel at h
  rw [List.getElem?_map] at h
  cases e : fm[i]? with
  | none => rw [e] at h; cases h
  | some o =>
    rw [e] at h
    cases o with
    | none => cases h
    | some j =>
      have h' : some ((σ[j]?).getD none) = some (some v) := h
      have h2 := Option.some.inj h'
      cases e2 : σ[j]? with
      | none => rw [e2] at h2; cases h2
      | some z => rw [e2] at h2; have h3 : z = some v := h2; subst h3; exact ⟨j, rfl, e2⟩

/-- what the block's names are, checked over the text -/
def selOk (XN : List Str) (names : List (Str × NameKind)) : List Str → List (Option Nat) → Bool
  | [], [] => true
  | _ :: N, none :: fm => selOk XN names N fm
  | x :: N, some j :: fm => (XN[j]? == some x) && (names.lookup x == some .free) && selOk XN names N fm
  | _, _ => false
theorem selOk_len {XN : List Str} {names : List (Str × NameKind)} : ∀ {N : List Str} {fm : List (Option Nat)}, selOk XN names N fm = true → fm.length = N.length
  | [], [], _ => rfl
  | _ :: N, none :: fm, h => by rw [List.length_cons, List.length_cons, selOk_len (show selOk XN names N fm = true from h)]
  | x :: N, some j :: fm, h => by
    have h' : ((XN[j]? == some x) && (names.lookup x == some .free) && selOk XN names N fm) = true := h
    rw [Bool.and_eq_true] at h'
    rw [List.length_cons, List.length_cons, selOk_len h'.2]
  | [], _ :: _, h => nomatch h
  | _ :: _, [], h => nomatch h
theorem selOk_at {XN : List Str} {names : List (Str × NameKind)} : ∀ {N : List Str} {fm : List (Option Nat)} {i j : Nat} {x : Str}, selOk XN names N fm = true → N[i]? = some x → fm[i]? = some (some j) → XN[j]? = some x ∧ names.lookup x = some .free
  | [], [], i, j, x, _, h, _ => by simp at h
  | _ :: N, none :: fm, 0, j, x, h, h1, h2 => by simp at h2
  | _ :: N, none :: fm, i + 1, j, x, h, h1, h2 => selOk_at (show selOk XN names N fm = true from h) (by simpa using h1) (by simpa using h2)
  | y :: N, some k :: fm, 0, j, x, h, h1, h2 => by
    have h' : ((XN[k]? == some y) && (names.lookup y == some .free) && selOk XN names N fm) = true := h
    rw [Bool.and_eq_true, Bool.and_eq_true] at h'
    have e1 : y = x := by simpa using h1
    have e2 : k = j := by simpa using h2
    subst e1; subst e2
    exact ⟨eq_of_beq h'.1.1, eq_of_beq h'.1.2⟩
  | y :: N, some k :: fm, i + 1, j, x, h, h1, h2 => by
    have h' : ((XN[k]? == some y) && (names.lookup y == some .free) && selOk XN names N fm) = true := h
    rw [Bool.and_eq_true] at h'
    exact selOk_at h'.2 (by simpa using h1) (by simpa using h2)
  | [], _ :: _, _, _, _, h, _, _ => nomatch h
  | _ :: _, [], _, _, _, h, _, _ => nomatch h
/-- the names of a block within a block -/
def relabelS (scope xsc : Scope) : Scope :=
  { scope with names := scope.names.map fun (n, k) => if (k == .free && xsc.kind == .function && xsc.names.lookup n == some .cell) then (n, .cell) else (n, k) }
structure CompScope (XN : List Str) (xsc : Scope) (N : List Str) (fm : List (Option Nat)) (scope : Scope) : Prop where
  kind : scope.kind = .function
  cel : ∀ y ∈ scope.names, y.2 = .cell → scope.names.lookup y.1 = some .cell
  loc : ∀ y ∈ scope.names, y.2 = .local → scope.names.lookup y.1 = some .local
  free : ∀ y ∈ scope.names, y.2 = .free → xsc.names.lookup y.1 = some .cell ∨ xsc.names.lookup y.1 = some .free
  sel : selOk XN scope.names N fm = true
  nd : N.Nodup

def cxC (X : Cx) (N : List Str) (scope : Scope) (cl : List (Str × Addr)) (C : Addr) (s : Shared) (H : Hp) (fp : List Addr) : Cx where
  prog := X.prog
  w := X.w
  K := X.K
  mg := X.mg
  base := X.base
  A := X.A
  N := N
  s₀ := s
  H₀ := H
  env := compEnvC scope cl C X.env
  outer := X.stack
  stack := X.stack
  ex := fp
  fn := fun x => scope.names.lookup x == some .cell
  calm := true
  pn := []
  xe := fun _ _ => False

/-! ### the block's cells: new ones ahead of the captured ones -/
theorem cellsFrom_app : ∀ (names : List (Str × NameKind)) (n : Nat) (acc : List (Str × Addr)), cellsFrom n names acc = cellsFrom n names [] ++ acc
  | [], _, _ => rfl
  | (x, k) :: r, n, acc => by
    unfold cellsFrom
    split
    · rw [cellsFrom_app r (n + 1) ((x, n) :: acc), cellsFrom_app r (n + 1) [(x, n)], List.append_assoc]; rfl
    · exact cellsFrom_app r n acc
theorem cellsFrom_mem : ∀ (names : List (Str × NameKind)) (n : Nat) {x : Str} {c : Addr}, (x, c) ∈ cellsFrom n names [] → (x, NameKind.cell) ∈ names
  | [], _, _, _, h => nomatch h
  | (y, k) :: r, n, x, c, h => by
    unfold cellsFrom at h
    split at h
    · rename_i hk
      rw [cellsFrom_app] at h
      rcases List.mem_append.mp h with z | z
      · exact List.mem_cons_of_mem _ (cellsFrom_mem r _ z)
      · have z' : (x, c) = (y, n) := by simpa using z
        cases z'
        rw [eq_of_beq hk]; exact List.mem_cons_self
    · exact List.mem_cons_of_mem _ (cellsFrom_mem r _ h)
theorem lookup_app {l₁ l₂ : List (Str × Addr)} {x : Str} : (l₁ ++ l₂).lookup x = (match l₁.lookup x with | some c => some c | none => l₂.lookup x) := by
  induction l₁ with
  | nil => rfl
  | cons y r ih =>
    obtain ⟨k, v⟩ := y
    rw [List.cons_append, List.lookup_cons, List.lookup_cons]
    cases x == k with
    | true => rfl
    | false => exact ih
structure CellsFor (X : Cx) (scope : Scope) (s : Shared) (h₁ : Heap) (cells : List (Str × Addr)) : Prop where
  src : ∀ x c, cells.lookup x = some c → (s.heap.objs.size < c ∧ h₁.IsCell c none) ∨ X.env.cells.lookup x = some c
  inj : ∀ x y c, cells.lookup x = some c → cells.lookup y = some c → x = y
  has : ∀ x, (scope.names.lookup x = some .cell ∨ scope.names.lookup x = some .free) → ∃ c, cells.lookup x = some c
  cab : ∀ x c, scope.names.lookup x = some .cell → cells.lookup x = some c → s.heap.objs.size ≤ c
  fr : ∀ x c, scope.names.lookup x = some .free → cells.lookup x = some c → X.env.cells.lookup x = some c
theorem newEnvB {M : Model} {A : Around} {E : Value → Shared → Prop} {s : Shared} {scope : Scope} {globals : Addr} {cl : List (Str × Addr)} {qual : Str} {env : Env} {Q : Env → Shared → Prop}
    (h : Q { scope := scope, locals := s.heap.objs.size, globals := globals, cells := cellsFrom (s.heap.objs.size + 1) scope.names cl, qual := qual, func := none, code := env.code, frame := env.frame, builtins := env.builtins }
      { s with heap := pushCells (s.heap.push { cls := .type "dict", data := .dict #[] }) scope.names }) :
    wpAny M A (newFunctionEnv scope globals cl [] qual none .none (some env)) Q E s := by
  simp only [newFunctionEnv, Option.isSome_some, if_true]
  refine wpAny_bind (wpAny_alloc ?_)
  refine wpAny_bind (wpAny_layCells _ (fun name kind cells => by cases hkc : kind == NameKind.cell <;> simp [hkc]) _ _ _ _ ?_)
  rw [show ({ s with heap := s.heap.push { cls := .type "dict", data := .dict #[] } } : Shared).heap.objs.size = s.heap.objs.size + 1 from Heap.size_push ..]
  rw [List.forIn_nil]
  exact wpAny_bind (wpAny_pure (wpAny_pure h))
theorem cells_for {X : Cx} {XN N : List Str} {fm : List (Option Nat)} {xsc scope : Scope} {cl : List (Str × Addr)} {s : Shared} (S : CompScope XN xsc N fm scope)
    (hin : ∀ x y c, X.env.cells.lookup x = some c → X.env.cells.lookup y = some c → x = y) (hlt : ∀ x c, X.env.cells.lookup x = some c → c < s.heap.objs.size)
    (hcl1 : ∀ x c, cl.lookup x = some c → X.env.cells.lookup x = some c) (hcl2 : ∀ y ∈ scope.names, y.2 = NameKind.free → (cl.lookup y.1).isSome = true) :
    CellsFor X scope s (pushCells (s.heap.push { cls := .type "dict", data := .dict #[] }) scope.names) (cellsFrom (s.heap.objs.size + 1) scope.names cl) := by
  have ok := cellsFrom_ok scope.names (s.heap.push { cls := .type "dict", data := .dict #[] }) (s.heap.objs.size + 1) [] ⟨fun _ _ hm => (nomatch hm), List.Pairwise.nil⟩ (by rw [Heap.size_push]; exact Nat.le_refl _)
  rw [Heap.size_push] at ok
  rw [cellsFrom_app]
  have new : ∀ x c, (cellsFrom (s.heap.objs.size + 1) scope.names []).lookup x = some c → s.heap.objs.size < c ∧ (pushCells (s.heap.push { cls := .type "dict", data := .dict #[] }) scope.names).IsCell c none ∧ scope.names.lookup x = some .cell := fun x c e => by
    have m := PySem.mem_of_lookup e
    exact ⟨(ok.empty x c m).2, (ok.empty x c m).1, S.cel (x, .cell) (cellsFrom_mem _ _ m) rfl⟩
  have two : ∀ x c, ((cellsFrom (s.heap.objs.size + 1) scope.names []) ++ cl).lookup x = some c → (cellsFrom (s.heap.objs.size + 1) scope.names []).lookup x = some c ∨ ((cellsFrom (s.heap.objs.size + 1) scope.names []).lookup x = none ∧ cl.lookup x = some c) := fun x c e => by
    rw [lookup_app] at e
    cases q : (cellsFrom (s.heap.objs.size + 1) scope.names []).lookup x with
    | some d => rw [q] at e; exact .inl e
    | none => rw [q] at e; exact .inr ⟨rfl, e⟩
  refine ⟨fun x c e => ?_, fun x y c e1 e2 => ?_, fun x hx => ?_, fun x c hx e => ?_, fun x c hx e => ?_⟩
  · rcases two x c e with z | ⟨_, z⟩
    · exact .inl ⟨(new x c z).1, (new x c z).2.1⟩
    · exact .inr (hcl1 x c z)
  · rcases two x c e1 with z | ⟨_, z⟩
    · rcases two y c e2 with z' | ⟨_, z'⟩
      · exact name_of_addr ok.apart (PySem.mem_of_lookup z) (PySem.mem_of_lookup z')
      · exact absurd (Nat.lt_trans (hlt y c (hcl1 y c z')) (new x c z).1) (Nat.lt_irrefl _)
    · rcases two y c e2 with z' | ⟨_, z'⟩
      · exact absurd (Nat.lt_trans (hlt x c (hcl1 x c z)) (new y c z').1) (Nat.lt_irrefl _)
      · exact hin x y c (hcl1 x c z) (hcl1 y c z')
  · rcases hx with hx | hx
    · have q := PySem.W.cellsFrom_some scope.names (s.heap.objs.size + 1) [] (x := x) (.inl hx)
      obtain ⟨c, e⟩ := Option.isSome_iff_exists.mp q
      exact ⟨c, by rw [lookup_app, e]⟩
    · obtain ⟨c, e⟩ := Option.isSome_iff_exists.mp (hcl2 (x, .free) (mem_lookup hx) rfl)
      rw [lookup_app]
      cases q : (cellsFrom (s.heap.objs.size + 1) scope.names []).lookup x with
      | some d => exact ⟨d, rfl⟩
      | none => exact ⟨c, e⟩
  · rcases two x c e with z | ⟨z, _⟩
    · exact Nat.le_of_lt (new x c z).1
    · have q := PySem.W.cellsFrom_some scope.names (s.heap.objs.size + 1) [] (x := x) (.inl hx)
      rw [z] at q; cases q
  · rcases two x c e with z | ⟨_, z⟩
    · have := (new x c z).2.2
      rw [hx] at this; cases this
    · exact hcl1 x c z

section
variable {X : Cx}
/-- the context is well made -/
theorem cxC_ok {N : List Str} {fm : List (Option Nat)} {scope : Scope} {cells : List (Str × Addr)} {pins : List (Addr × Obj)} {σ : St} {H : Hp} {s : Shared} {fp : List Addr} {h₁ : Heap} (S : CompScope X.N X.env.scope N fm scope) (hc : X.calm = true)
    (I : Inv X pins σ H s) (L : CellsFor X scope s h₁ cells)
    (hfp : ∀ b ∈ fp, FpOk X pins H b) (hfl : ∀ b ∈ fp, b < s.heap.objs.size) : (cxC X N scope cells s.heap.objs.size s H fp).Ok := by
  refine ⟨I.ok.mod, S.kind, I.ok.glob, I.ok.blt, Nat.le_refl _, L.inj, fun x hx => ?_, fun x c h e => L.cab x c (eq_of_beq h) e, fun _ => I.ok.hd hc, I.ok.frames, .inl rfl, fun b hb => ?_, I.bs, Nat.le_trans I.ok.bsz I.sz, fun b o e hb => ?_, fun b hb hf => ?_, I.stack, fun b hb => I.stkFree b hb⟩
  · have hx' : (∃ k', (relabel scope X.env).names.lookup x = some k' ∧ (k' = .cell ∨ k' = .free)) := by
      rcases hx with z | z
      · exact ⟨_, z, .inl rfl⟩
      · exact ⟨_, z, .inr rfl⟩
    obtain ⟨k', e, hk⟩ := hx'
    obtain ⟨k, e1, z⟩ := lookup_relabel e
    refine L.has x ?_
    rcases z with z | ⟨z, _⟩
    · subst z
      rcases hk with hk | hk
      · subst hk; exact .inl e1
      · subst hk; exact .inr e1
    · subst z; exact .inr e1
  · refine ⟨Nat.ne_of_lt (hfl b hb), fun x c e z => ?_⟩
    rcases L.src x c e with ⟨q, _⟩ | q
    · exact absurd (Nat.lt_trans (Nat.lt_of_lt_of_eq q z) (hfl b hb)) (Nat.lt_irrefl _)
    · exact (hfp b hb).2.2.2.2.1 x c q z
  · obtain ⟨_, _, _, h, _⟩ := hfp b hb
    rcases h with h | h
    · exact I.ok.noex b o e h
    · exact absurd (Nat.lt_of_lt_of_le (Heap.lt_size e) (Nat.le_trans I.ok.bsz h)) (Nat.lt_irrefl _)
  · obtain ⟨_, h1, h2, _⟩ := hfp b hb
    rcases List.mem_cons.mp (I.stkSub b hf) with z | z
    · exact h1 z
    · exact h2 z

theorem cxC_inv {N : List Str} {fm : List (Option Nat)} {scope : Scope} {cells : List (Str × Addr)} {pins : List (Addr × Obj)} {σ : St} {H : Hp} {s : Shared} {fp : List Addr} {h₁ : Heap} {tk : Nat} {m : Str → Option Value} (S : CompScope X.N X.env.scope N fm scope) (hc : X.calm = true)
    (I : Inv X pins σ H s) (L : CellsFor X scope s h₁ cells)
    (hfp : ∀ b ∈ fp, FpOk X pins H b) (hfl : ∀ b ∈ fp, b < s.heap.objs.size) (hn : h₁.Ns s.heap.objs.size m) (hk : ∀ b o, s.heap.get? b = some o → h₁.get? b = some o) :
    Inv (cxC X N scope cells s.heap.objs.size s H fp) [] (csel fm σ) H { s with heap := h₁, toks := tk } := by
  have len := selOk_len S.sel
  refine ⟨cxC_ok S hc I L hfp hfl, rfl, I.bare, Un.kept hk, ⟨m, hn, fun i x v e1 e2 e3 => ?_⟩, fun x c e => ?_, I.hok.fresh (Nat.le_refl _), fun x c e => ?_, fun p hp => absurd (show p ∈ ([] : List (Addr × Obj)) from hp) (by simp), I.hok.kept hk, ?_⟩
  · obtain ⟨j, f1, f2⟩ := csel_get e2
    obtain ⟨g1, g2⟩ := selOk_at S.sel e1 f1
    have hxf := S.free (x, .free) (mem_lookup g2) rfl
    obtain ⟨m0, _, hl⟩ := I.loc
    have hvis : Vis X.env.scope x := by
      rcases hxf with z | z
      · exact .inr (.inl z)
      · exact .inr (.inr z)
    obtain ⟨u, r, l⟩ := hl j x v g1 f2 hvis
    refine ⟨u, r, .inr ⟨lookup_relabel_free g2, ?_⟩⟩
    obtain ⟨c, ec⟩ := L.has x (.inr g2)
    refine ⟨c, ec, ?_⟩
    rcases l with ⟨k, _⟩ | ⟨_, c', e', z⟩
    · have k' : X.env.scope.names.lookup x = some .local := k
      rcases hxf with q | q <;> (have q' : X.env.scope.names.lookup x = _ := q; rw [k'] at q'; cases q')
    · have e3 := L.fr x c g2 ec
      rw [e'] at e3
      have e4 : c' = c := Option.some.inj e3
      subst e4
      obtain ⟨o, ho, hd⟩ := z
      exact ⟨o, hk _ _ ho, hd⟩
  · rcases L.src x c e with ⟨_, q⟩ | q
    · exact ⟨_, q⟩
    · obtain ⟨v, o, ho, hd⟩ := I.cell x c q
      exact ⟨v, o, hk _ _ ho, hd⟩
  · rcases L.src x c e with ⟨q, _⟩ | q
    · exact I.hok.fresh (Nat.le_of_lt q)
    · exact I.freeC x c q
  · show (csel fm σ).length = N.length
    unfold csel
    rw [List.length_map]; exact len

/-- the reading of a comprehension -/
def CompRun (J : It) (g : TG) (tt : TT) (te : TE) (Q : VK) (σ0 : St) (H1 : Hp) (D : Addr) : Prop :=
  ∃ W : Nat → Nat → St → Hp → Prop, (∃ m, W 0 m σ0 (upd H1 D (.lst []))) ∧ ∀ i m σ' H', W i m σ' H' →
    (J.stop i H' ∧ Q (.ref D) H') ∨ (J.go i H' ∧ ∃ N : St → Hp → Prop, (∀ σ2 H2, N σ2 H2 → ∃ m', m' < m ∧ W (i + 1) m' σ2 H2) ∧
      ∀ x H2, J.yld i H' x H2 → g x σ' H2 fun σ3 H3 => tt σ3 H3 fun b H4 => if b = true then te σ3 H4 fun y H5 => ∃ ys, H5 D = some (.lst ys) ∧ ys.length < sizeLine ∧ N σ3 (upd H5 D (.lst (ys ++ [y]))) else N σ3 H4)
def tComp (fm : List (Option Nat)) (wi : TI) (g : TG) (tt : TT) (te : TE) : TE := fun σ H Q => wi σ H fun J H1 => ∀ D, H1 D = none → CompRun J g tt te Q (csel fm σ) H1 D
/-- the tests of a comprehension: none, one -/
def PTs (X : Cx) (ifs : List Expr) (t : TT) : Prop :=
  ∀ (pins : List (Addr × Obj)) (s : Shared) (σ : St) (H : Hp) (Q : Bool → Hp → Prop), Inv X pins σ H s → t σ H Q →
    wpAny (model X.prog X.w) X.A (forIn ifs true fun c r => if r = true then do let ok ← isTrue c X.env (eval c X.env); pure (ForInStep.yield ok) else pure (ForInStep.yield r)) (TP X pins σ Q) X.xe s
def tYes : TT := fun _ H Q => Q true H
theorem pts_nil : PTs X [] tYes := fun _ _ _ H _ I h => wpAny_tests_nil ⟨H, I, h⟩
theorem pts_one {c : Expr} {t : TT} (h : PT X c t) : PTs X [c] t := fun pins s σ H Q I q => wpAny_tests_one (h pins s σ H Q I q)

theorem comp_block {elt tg iter : Expr} {ifs : List Expr} {scope : Scope} {cl : List (Str × Addr)} {N : List Str} {fm : List (Option Nat)} {pos : Pos} {g : TG} {tt : TT} {te : TE} {pins : List (Addr × Obj)} {σ : St} {H1 : Hp} {s₂ : Shared} {it : Addr} {fp : List Addr} {tn : Nat → Heap → Prop} {J : It} {Q : VK}
    {E : Value → Shared → Prop} {RR : Value → Addr → Result → Shared → Prop} (S : CompScope X.N X.env.scope N fm scope) (hc : X.calm = true) (hcl1 : ∀ x c, cl.lookup x = some c → X.env.cells.lookup x = some c) (hcl2 : ∀ y ∈ scope.names, y.2 = NameKind.free → (cl.lookup y.1).isSome = true)
    (hg : ∀ cl C s H fp, PG (cxC X N scope cl C s H fp) tg g) (ht : ∀ cl C s H fp, PTs (cxC X N scope cl C s H fp) ifs tt) (he : ∀ cl C s H fp, PE (cxC X N scope cl C s H fp) elt te)
    (I : Inv X pins σ H1 s₂) (T : Turn X.prog X.w X.K tg J fp it tn) (st : tn 0 s₂.heap) (hf : ∀ b ∈ fp, FpOk X pins H1 b)
    (hq : ∀ D, H1 D = none → CompRun J g tt te Q (csel fm σ) H1 D)
    (hRR : ∀ D C s' H' m, Inv X pins σ H' s' → s'.heap.Ns C m → H' C = none → C ≠ X.env.locals → X.s₀.heap.objs.size ≤ C → (∀ x c, X.env.cells.lookup x = some c → c ≠ C) → (∀ p ∈ X.pn ++ pins, p.1 ≠ C) → C ∉ X.fs → Q (.ref D) H' → RR (.ref D) C (.ok .next) s') :
    wpAny (model X.prog X.w) X.A (newList []) (fun acc s₃ => wpAny (model X.prog X.w) X.A (newFunctionEnv scope X.env.globals cl [] X.env.qual none .none (some X.env)) (fun cenv s₄ =>
      codeAny (model X.prog X.w) X.A (.compStart (.ListComp elt [⟨tg, iter, ifs, 0⟩] scope pos) 0 (.ref it) acc { cenv with scope := relabel scope X.env }) (RR acc cenv.locals) s₄) E s₃) E s₂ := by
  have hD : H1 s₂.heap.objs.size = none := I.hok.fresh (Nat.le_refl _)
  obtain ⟨W, ⟨m0, w0⟩, turn⟩ := hq _ hD
  refine wpAny_newObj_type (newEnvB ?_)
  -- the list, the block's names
  have I3 : Inv X pins σ (upd H1 s₂.heap.objs.size (.lst [])) { s₂ with heap := s₂.heap.push { cls := .type "list", data := .seq ([] : List Value).toArray } } := I.lnew (its := []) (t' := s₂.toks) .nil (Nat.zero_le _)
  have obj := T.obj 0 _ st
  have fl : ∀ b ∈ fp, b < s₂.heap.objs.size := fun b hb => by obtain ⟨o, e, _⟩ := obj b hb; exact Heap.lt_size e
  have hf3 : ∀ b ∈ fp, FpOk X pins (upd H1 s₂.heap.objs.size (.lst [])) b := fun b hb => by
    obtain ⟨q, r⟩ := hf b hb
    exact ⟨by rw [upd_ne (Nat.ne_of_lt (fl b hb))]; exact q, r⟩
  have sz3 : (s₂.heap.push { cls := .type "list", data := .seq ([] : List Value).toArray }).objs.size = s₂.heap.objs.size + 1 := Heap.size_push ..
  have fl3 : ∀ b ∈ fp, b < (s₂.heap.push { cls := .type "list", data := .seq ([] : List Value).toArray }).objs.size := fun b hb => by rw [sz3]; exact Nat.lt_succ_of_lt (fl b hb)
  have L := cells_for (X := X) (s := { s₂ with heap := s₂.heap.push { cls := .type "list", data := .seq ([] : List Value).toArray } }) S I.ok.inj (fun x c e => by obtain ⟨v, o, ho, _⟩ := I3.cell x c e; exact Heap.lt_size ho) hcl1 hcl2
  generalize hcells : cellsFrom ((s₂.heap.push { cls := .type "list", data := .seq ([] : List Value).toArray }).objs.size + 1) scope.names cl = cells at L ⊢
  have hns₁ : (pushCells ((s₂.heap.push { cls := .type "list", data := .seq ([] : List Value).toArray }).push { cls := .type "dict", data := .dict #[] }) scope.names).Ns (s₂.heap.push { cls := .type "list", data := .seq ([] : List Value).toArray }).objs.size (fun _ => none) :=
    (Heap.Ns.new _ (.type "dict")).keeps (pushCells_keeps _ _)
  have kp : ∀ b o, (s₂.heap.push { cls := .type "list", data := .seq ([] : List Value).toArray }).get? b = some o → (pushCells ((s₂.heap.push { cls := .type "list", data := .seq ([] : List Value).toArray }).push { cls := .type "dict", data := .dict #[] }) scope.names).get? b = some o := fun b o e => pushCells_keeps _ _ b o (Heap.get?_push_of_some _ e)
  generalize hh₁ : pushCells ((s₂.heap.push { cls := .type "list", data := .seq ([] : List Value).toArray }).push { cls := .type "dict", data := .dict #[] }) scope.names = h₁ at L hns₁ kp ⊢
  have J0 := cxC_inv (tk := s₂.toks) S hc I3 L hf3 fl3 hns₁ kp
  -- what stays true of the iterator's records
  have stat : ∀ {H' : Hp}, (∀ b ∈ fp, H' b = none) → ∀ b ∈ fp, FpOk (cxC X N scope cells (s₂.heap.push { cls := .type "list", data := .seq ([] : List Value).toArray }).objs.size { s₂ with heap := s₂.heap.push { cls := .type "list", data := .seq ([] : List Value).toArray } } (upd H1 s₂.heap.objs.size (.lst [])) fp) [] H' b :=
    fun hn b hb => ⟨hn b hb, (J0.ok.exf b hb).1, J0.ok.exfs b hb, .inl hb, (J0.ok.exf b hb).2, fun p hp => absurd (show p ∈ ([] : List (Addr × Obj)) from hp) (by simp)⟩
  have st1 : tn 0 h₁ := T.keep 0 _ _ st fun b hb o e => kp b o (Heap.get?_push_of_some _ e)
  have loop : ∀ s₃ : Shared, s₃ = { s₂ with heap := h₁, toks := s₂.toks } →
      codeAny (model X.prog X.w) X.A (.compLoop (.ListComp elt [⟨tg, iter, ifs, 0⟩] scope pos) 0 (.ref it) (.ref s₂.heap.objs.size) (compEnvC scope cells (s₂.heap.push { cls := .type "list", data := .seq ([] : List Value).toArray }).objs.size X.env))
        (RR (.ref s₂.heap.objs.size) (s₂.heap.push { cls := .type "list", data := .seq ([] : List Value).toArray }).objs.size) s₃ := by
    rintro s₃ rfl
    generalize hX : cxC X N scope cells (s₂.heap.push { cls := .type "list", data := .seq ([] : List Value).toArray }).objs.size { s₂ with heap := s₂.heap.push { cls := .type "list", data := .seq ([] : List Value).toArray } } (upd H1 s₂.heap.objs.size (.lst [])) fp = X' at J0 stat
    refine compLoop_go (fun n s' => ∃ i σ' H', Inv X' [] σ' H' s' ∧ tn i s'.heap ∧ (∀ b ∈ fp, H' b = none) ∧ W i n σ' H') ?_ m0 ⟨0, _, _, J0, st1, fun b hb => (hf3 b hb).1, w0⟩
    rintro n s3 ⟨i, σ3, H3, I3', st3, fr3, w3⟩
    rcases turn i n σ3 H3 w3 with ⟨stop, qn⟩ | ⟨go, Nx, hN, step⟩
    · have hd := T.done X' (by rw [← hX]; rfl) (by rw [← hX]; rfl) (by rw [← hX]; rfl) (by rw [← hX]; rfl) i [] s3 σ3 H3 (fun _ _ => False) I3' (stat fr3) st3 stop
      have hA : X'.A = X.A := by rw [← hX]; rfl
      rw [hA] at hd
      refine wpAny_mono hd (fun r s4 ⟨hr, I4⟩ => ?_) fun _ _ z => z
      subst hr
      show RR _ _ (.ok .next) s4
      subst hX
      obtain ⟨m', hm', _⟩ := I4.loc
      refine hRR _ _ s4 H3 m' (I3.call' (ch := fp) I4.os I4.base I4.hok I4.bare fun b hb => ?_) hm' I4.free ?_ ?_ ?_ ?_ ?_ qn
      · obtain ⟨_, f1, f2, f3, f4, f5⟩ := hf b hb
        exact ⟨f3, f1, f4, f5⟩
      · exact Nat.ne_of_gt (Nat.lt_of_lt_of_le I.lt (by rw [sz3]; exact Nat.le_succ _))
      · exact Nat.le_trans I.sz (by rw [sz3]; exact Nat.le_succ _)
      · intro x c e z
        obtain ⟨v, o, ho, _⟩ := I3.cell x c e
        exact Nat.lt_irrefl _ (Nat.lt_of_lt_of_eq (Heap.lt_size ho) z.symm)
      · intro p hp z
        have e := (I3.pin p hp).1
        exact Nat.lt_irrefl _ (Nat.lt_of_lt_of_eq (Heap.lt_size e) z.symm)
      · exact I3.nofs (Nat.le_refl _)
    · have hi := T.item X' (by rw [← hX]; rfl) (by rw [← hX]; rfl) (by rw [← hX]; rfl) (by rw [← hX]; rfl) i [] s3 σ3 H3 (fun _ _ => False) I3' (stat fr3) st3 go
      have hA : X'.A = X.A := by rw [← hX]; rfl
      have hP : X'.prog = X.prog := by rw [← hX]; rfl
      have hw' : X'.w = X.w := by rw [← hX]; rfl
      have hE : X'.env = compEnvC scope cells (s₂.heap.push { cls := .type "list", data := .seq ([] : List Value).toArray }).objs.size X.env := by rw [← hX]; rfl
      have hxe : X'.xe = fun _ _ => False := by rw [← hX]; rfl
      rw [hA] at hi
      refine wpAny_mono hi (fun r s4 ⟨u, hr, h4⟩ => ?_) fun _ _ z => z
      subst hr
      refine wpAny_mono h4 (fun _ s5 ⟨x, H5, I5, r5, y5, st5, fr5⟩ => ?_) fun _ _ z => z
      have I5' := I5.pinned (stat fr5) (T.obj _ _ st5)
      have q1 := (by rw [← hX]; exact hg _ _ _ _ _ : PG X' tg g) _ s5 σ3 H5 x u _ I5' r5 (step x H5 y5)
      rw [hP, hw', hA, hE, hxe] at q1
      refine wpAny_mono q1 (fun _ s6 ⟨σ6, H6, I6, q6⟩ => ?_) fun _ _ z => z
      have q2 := (by rw [← hX]; exact ht _ _ _ _ _ : PTs X' ifs tt) _ s6 σ6 H6 _ I6 q6
      rw [hP, hw', hA, hE, hxe] at q2
      refine wpAny_mono q2 (fun ok s7 ⟨H7, I7, q7⟩ => ?_) fun _ _ z => z
      have again : ∀ {s8 : Shared} {σ8 : St} {H8 : Hp}, Inv X' ([] ++ pinsAt fp s5.heap) σ8 H8 s8 → Nx σ8 H8 → ∃ m, m < n ∧ ∃ i σ' H', Inv X' [] σ' H' s8 ∧ tn i s8.heap ∧ (∀ b ∈ fp, H' b = none) ∧ W i m σ' H' := fun {s8 σ8 H8} I8 n8 => by
        obtain ⟨m', hm, w8⟩ := hN σ8 H8 n8
        refine ⟨m', hm, i + 1, σ8, H8, I8.unpinned, T.keep _ _ _ st5 fun b hb o e => (I8.pin (b, o) (List.mem_append_right _ (List.mem_append_right _ (mem_pinsAt hb e)))).1, fun b hb => ?_, w8⟩
        obtain ⟨o, e, d⟩ := T.obj _ _ st5 b hb
        exact (I8.pin (b, o) (List.mem_append_right _ (List.mem_append_right _ (mem_pinsAt hb e)))).2.1
      cases ok with
      | false => exact again I7 q7
      | true =>
        have q3 := (by rw [← hX]; exact he _ _ _ _ _ : PE X' elt te) _ s7 σ6 H7 _ I7 q7
        rw [hP, hw', hA, hE, hxe] at q3
        refine wpAny_mono q3 (fun z s8 ⟨y, H8, I8, r8, ys, e8, l8, n8⟩ => ?_) fun _ _ z => z
        have q4 := mt_append (X := X') _ s8 σ6 H8 (.ref s₂.heap.objs.size) [y] (.ref s₂.heap.objs.size) [z] (fun v H' => Nx σ6 H') I8 rfl (.cons r8 .nil) ⟨_, ys, y, rfl, rfl, e8, l8, n8⟩
        rw [hP, hw', hA, hxe] at q4
        exact wpAny_mono q4 (fun _ s9 ⟨_, H9, I9, _, n9⟩ => again I9 n9) fun _ _ z => z
  exact codeAny_compStart_list (loop _ rfl) (T.self _ 0 _ _ _ st1 (loop _ rfl))

/-- [elt for tg in iter if ..] as a value -/
theorem pe_comp {elt tg iter : Expr} {ifs : List Expr} {scope : Scope} {pos : Pos} {wi : TI} {g : TG} {tt : TT} {te : TE} (XN : List Str) (xsc : Scope) (N : List Str) (fm : List (Option Nat)) (S : CompScope XN xsc N fm scope) (hc : X.calm = true) (hi : PI X tg iter wi)
    (hg : ∀ cl C s H fp, PG (cxC X N scope cl C s H fp) tg g) (ht : ∀ cl C s H fp, PTs (cxC X N scope cl C s H fp) ifs tt) (he : ∀ cl C s H fp, PE (cxC X N scope cl C s H fp) elt te)
    (hXN : X.N = XN := by rfl) (hXs : X.env.scope = xsc := by rfl) (hs : ∀ x, foldedSetIterable iter X.env x = pure x := by intro _; rfl) : PE X (.ListComp elt [⟨tg, iter, ifs, 0⟩] scope pos) (tComp fm wi g tt te) := by
  intro pins s σ H Q I h
  subst hXN hXs
  obtain ⟨cl, hclos, hcl1, hcl2⟩ := clos_of (scope := scope) (env := X.env) fun y hy hf => I.ok.has y.1 (S.free y hy hf)
  rw [eval_ListComp]
  refine wpAny_comprehension_free (use := none) rfl hs hclos S.kind S.loc (thn (hi pins s σ H _ I h) fun xv s₁ h₁ => thn h₁ fun itv s₂ h₂ => ?_)
  obtain ⟨it, fp, tn, J, H1, e, I2, T, st, hf, hq⟩ := h₂
  subst e
  refine comp_block (RR := fun acc C => compPost (model X.prog X.w) X.A X.xe none (EP X pins σ Q) acc C) S hc hcl1 hcl2 hg ht he I2 T st hf hq ?_
  intro D C s' H' m I' hn hC hL hC0 hcc hpp hfs q
  refine ⟨m, hn, fun h' hs' => ⟨.ref D, H', ?_, rfl, q⟩⟩
  exact I'.turned (t' := s'.toks) (it := C) (fun b o hb e => hs'.extBut b o hb e) hC hL (.inr hC0) hcc hpp

/-- name = [elt for tg in iter if ..] -/
theorem ps_setC {i : Nat} {y : Str} {elt tg iter : Expr} {ifs : List Expr} {scope : Scope} {pos spos py : Pos} {wi : TI} {g : TG} {tt : TT} {te : TE} (XN : List Str) (xsc : Scope) (N : List Str) (fm : List (Option Nat)) (S : CompScope XN xsc N fm scope) (hc : X.calm = true)
    (hN : X.N.Nodup) (hiy : X.N[i]? = some y) (hy : X.env.scope.names.lookup y = some .local) (hi : PI X tg iter wi)
    (hg : ∀ cl C s H fp, PG (cxC X N scope cl C s H fp) tg g) (ht : ∀ cl C s H fp, PTs (cxC X N scope cl C s H fp) ifs tt) (he : ∀ cl C s H fp, PE (cxC X N scope cl C s H fp) elt te)
    (hXN : X.N = XN := by rfl) (hXs : X.env.scope = xsc := by rfl) (hs : ∀ x, foldedSetIterable iter X.env x = pure x := by intro _; rfl)
    (hsw : swapsWith (.ListComp elt [⟨tg, iter, ifs, 0⟩] scope pos) (some (.Name y py)) spos.line X.env = pure true := by rfl) :
    PS X (.Assign [.Name y py] (.ListComp elt [⟨tg, iter, ifs, 0⟩] scope pos) spos) (tAsg (tComp fm wi g tt te) (gName i)) := by
  intro pins s σ H D I h
  subst hXN hXs
  obtain ⟨cl, hclos, hcl1, hcl2⟩ := clos_of (scope := scope) (env := X.env) fun y hy hf => I.ok.has y.1 (S.free y hy hf)
  rw [exec_Assign_Name_used _ _ _ _ hsw]
  refine wpAny_bind (wpAny_standAt (wpAny_bind ?_))
  show wpAny _ X.A (do let _ ← comprehension (.ListComp elt [⟨tg, iter, ifs, 0⟩] scope pos) scope X.env _ (newList []) false (eval iter X.env) (some (assign (.Name y py) X.env))) _ _ s
  refine wpAny_bind (wpAny_mono (wpAny_comprehension_free (use := some (assign (.Name y py) X.env)) (Q := fun _ s' => SP X pins D .next s') rfl hs hclos S.kind S.loc
    (thn (hi pins s σ H _ I h) fun xv s₁ h₁ => thn h₁ fun itv s₂ h₂ => ?_)) (fun _ s' hq => wpAny_pure (wpAny_pure hq)) fun _ _ e => e)
  obtain ⟨it, fp, tn, J, H1, e, I2, T, st, hf, hq⟩ := h₂
  subst e
  refine comp_block (Q := fun x H1 => gName i x σ H1 D.nx) (RR := fun acc C => compPost (model X.prog X.w) X.A X.xe (some (assign (.Name y py) X.env)) (fun _ s' => SP X pins D .next s') acc C) S hc hcl1 hcl2 hg ht he I2 T st hf hq ?_
  intro D' C s' H' m I' hn hC hL hC0 hcc hpp hfs q
  show wpAny _ X.A (assign (.Name y py) X.env (.ref D')) _ _ _
  obtain ⟨oC, es, ep, hoC, hdC, hrC⟩ := id hn
  have Ip : Inv X (pins ++ [(C, oC)]) σ H' s' := I'.pins_of fun p hp => by
    rcases List.mem_append.mp hp with z | z
    · exact I'.pin p (List.mem_append_right _ z)
    · have z' : p = (C, oC) := by simpa using z
      subst z'
      exact ⟨hoC, hC, hL, hfs, fun v z => by rw [hdC] at z; cases z⟩
  refine wpAny_assign_Name (store_ok Ip hN hiy (.inl hy) (v := .ref D') rfl (fun s2 I3 => ?_) (.inr hy))
  have hC2 := (I3.pin (C, oC) (List.mem_append_right _ (List.mem_append_right _ (by simp))))
  refine ⟨m, ⟨oC, es, ep, hC2.1, hdC, hrC⟩, fun h' hs' => ⟨_, H', ?_, q⟩⟩
  exact I3.unpinned.turned (t' := s2.toks) (it := C) (fun b o hb e => hs'.extBut b o hb e) hC hL (.inr hC0) hcc hpp
end
end L2

namespace L2
open PySem PySem.Spec PyProof.Rows

/-! ### forms of comprehensions that one uses: one name as the target, in slot 0 -/
/-- behind a turn: the list stands at D -/
def CN (σ0 : St) (D : Addr) (Pv : Nat → List V → Hp → Prop) (i : Nat) : St → Hp → Prop := fun σ H => (∃ v, σ = σ0.set 0 v) ∧ ∃ ys, H D = some (.lst ys) ∧ Pv i ys H
/-- the element's end -/
def CE1 (σ0 : St) (D : Addr) (Pv : Nat → List V → Hp → Prop) (i : Nat) (σ : St) : VK := fun y H => ∃ ys, H D = some (.lst ys) ∧ ys.length < sizeLine ∧ CN σ0 D Pv i σ (upd H D (.lst (ys ++ [y])))
theorem CE1.mk {σ0 : St} {D : Addr} {Pv : Nat → List V → Hp → Prop} {i : Nat} {v : Option V} {y : V} {H : Hp} {ys : List V} (hD : H D = some (.lst ys)) (hl : ys.length < sizeLine) (h : Pv i (ys ++ [y]) (upd H D (.lst (ys ++ [y])))) : CE1 σ0 D Pv i (σ0.set 0 v) y H :=
  ⟨ys, hD, hl, ⟨v, rfl⟩, _, upd_same, h⟩
theorem CN.mk {σ0 : St} {D : Addr} {Pv : Nat → List V → Hp → Prop} {i : Nat} {v : Option V} {H : Hp} {ys : List V} (hD : H D = some (.lst ys)) (h : Pv i ys H) : CN σ0 D Pv i (σ0.set 0 v) H := ⟨⟨v, rfl⟩, ys, hD, h⟩
theorem comp_list {K : PySem.W.Frag} {a D : Addr} {xs : List V} {tt : TT} {te : TE} {σ0 : St} {H1 : Hp} {Q : VK} (Pv : Nat → List V → Hp → Prop) (h0 : Pv 0 [] (upd H1 D (.lst [])))
    (hl : ∀ i ys H, i ≤ xs.length → Pv i ys H → SqL K H a xs)
    (hs : ∀ i x ys H, xs[i]? = some x → Pv i ys H → H D = some (.lst ys) → tt (σ0.set 0 (some x)) H fun b H4 => if b = true then te (σ0.set 0 (some x)) H4 (CE1 σ0 D Pv (i + 1) (σ0.set 0 (some x))) else CN σ0 D Pv (i + 1) (σ0.set 0 (some x)) H4)
    (hd : ∀ ys H, Pv xs.length ys H → H D = some (.lst ys) → Q (.ref D) H) :
    CompRun (Itl K a) (gName 0) tt te Q σ0 H1 D := by
  refine ⟨fun i m σ H => m = xs.length - i ∧ i ≤ xs.length ∧ (σ = σ0 ∨ ∃ v, σ = σ0.set 0 v) ∧ ∃ ys, H D = some (.lst ys) ∧ Pv i ys H, ⟨xs.length, by simp, Nat.zero_le _, .inl rfl, [], upd_same, h0⟩, ?_⟩
  rintro i m σ H ⟨rfl, hi, hσ, ys, hD, p⟩
  have q := hl i ys H hi p
  by_cases hlt : i < xs.length
  · refine .inr ⟨⟨xs, xs[i], q, by simp [hlt]⟩, CN σ0 D Pv (i + 1), fun σ' H' ⟨a1, a2⟩ => ⟨xs.length - (i + 1), by omega, rfl, hlt, .inr a1, a2⟩, fun x H' y => ?_⟩
    obtain ⟨e, y⟩ := y
    subst e
    have hx := y xs q
    have eσ : σ.set 0 (some x) = σ0.set 0 (some x) := by
      rcases hσ with rfl | ⟨v, rfl⟩
      · rfl
      · rw [List.set_set]
    show tt (σ.set 0 (some x)) _ _
    rw [eσ]
    exact hs i x ys _ hx p hD
  · have e : i = xs.length := by omega
    subst e
    exact .inl ⟨⟨xs, q, Nat.le_refl _⟩, hd ys H p hD⟩
theorem comp_range {D : Addr} {lo : Int} {n : Nat} {tt : TT} {te : TE} {σ0 : St} {H1 : Hp} {Q : VK} (Pv : Nat → List V → Hp → Prop) (h0 : Pv 0 [] (upd H1 D (.lst [])))
    (hs : ∀ i ys H, i < n → Pv i ys H → H D = some (.lst ys) → tt (σ0.set 0 (some (.int (lo + i)))) H fun b H4 => if b = true then te (σ0.set 0 (some (.int (lo + i)))) H4 (CE1 σ0 D Pv (i + 1) (σ0.set 0 (some (.int (lo + i))))) else CN σ0 D Pv (i + 1) (σ0.set 0 (some (.int (lo + i)))) H4)
    (hd : ∀ ys H, Pv n ys H → H D = some (.lst ys) → Q (.ref D) H) :
    CompRun (Itr lo n) (gName 0) tt te Q σ0 H1 D := by
  refine ⟨fun i m σ H => m = n - i ∧ i ≤ n ∧ (σ = σ0 ∨ ∃ v, σ = σ0.set 0 v) ∧ ∃ ys, H D = some (.lst ys) ∧ Pv i ys H, ⟨n, by simp, Nat.zero_le _, .inl rfl, [], upd_same, h0⟩, ?_⟩
  rintro i m σ H ⟨rfl, hi, hσ, ys, hD, p⟩
  by_cases hlt : i < n
  · refine .inr ⟨hlt, CN σ0 D Pv (i + 1), fun σ' H' ⟨a1, a2⟩ => ⟨n - (i + 1), by omega, rfl, hlt, .inr a1, a2⟩, fun x H' y => ?_⟩
    obtain ⟨e, y⟩ := y
    subst e y
    have eσ : σ.set 0 (some (.int (lo + i))) = σ0.set 0 (some (.int (lo + i))) := by
      rcases hσ with rfl | ⟨v, rfl⟩
      · rfl
      · rw [List.set_set]
    show tt (σ.set 0 (some (.int (lo + i)))) _ _
    rw [eσ]
    exact hs i ys _ hlt p hD
  · have e : i = n := by omega
    subst e
    exact .inl ⟨Nat.le_refl _, hd ys H p hD⟩

theorem yes_mk {σ : St} {H : Hp} {A B : Hp → Prop} (h : A H) : tYes σ H (fun b H4 => if b = true then A H4 else B H4) := by
  show (if true = true then A H else B H)
  rw [if_pos rfl]; exact h

/-! ### all, any, isinstance -/
section
variable {X : Cx}
theorem range_all : ∀ (bs : List Bool), (List.range bs.length).all (fun i => (bs[i]?).getD true) = bs.all id := by
  intro bs
  rw [Bool.eq_iff_iff, List.all_eq_true, List.all_eq_true]
  constructor
  · intro h b hb
    obtain ⟨i, hi, e⟩ := List.mem_iff_getElem.mp hb
    have := h i (List.mem_range.mpr hi)
    rw [List.getElem?_eq_getElem hi, e] at this
    exact this
  · intro h i hi
    have hi := List.mem_range.mp hi
    rw [List.getElem?_eq_getElem hi]
    exact h _ (List.getElem_mem hi)
theorem range_any : ∀ (bs : List Bool), (List.range bs.length).any (fun i => (bs[i]?).getD false) = bs.any id := by
  intro bs
  rw [Bool.eq_iff_iff, List.any_eq_true, List.any_eq_true]
  constructor
  · rintro ⟨i, hi, e⟩
    have hi := List.mem_range.mp hi
    rw [List.getElem?_eq_getElem hi] at e
    exact ⟨_, List.getElem_mem hi, e⟩
  · rintro ⟨b, hb, e⟩
    obtain ⟨i, hi, e2⟩ := List.mem_iff_getElem.mp hb
    refine ⟨i, List.mem_range.mpr hi, ?_⟩
    rw [List.getElem?_eq_getElem hi, e2]
    exact e
theorem vals_bl {bs : List Bool} {its : List Value} (r : Vals (bs.map V.bl) its) {i : Nat} {v : Value} (h : its[i]? = some v) : ∃ b, bs[i]? = some b ∧ v = .bool b := by
  have hl := r.length
  rw [List.length_map] at hl
  have hi : i < bs.length := by
    have := (List.getElem?_eq_some_iff.mp h).1
    omega
  have e : (bs.map V.bl)[i]? = some (.bl bs[i]) := by rw [List.getElem?_map, List.getElem?_eq_getElem hi]; rfl
  obtain ⟨u, h1, h2⟩ := r.get e
  rw [h] at h1
  have e2 : v = u := Option.some.inj h1
  subst e2
  exact ⟨bs[i], List.getElem?_eq_getElem hi, h2⟩
theorem call_all (hc : X.calm = true) : CallR X (.builtin "all") (fun xs H Q => ∃ (p : Addr) (bs : List Bool), xs = [.ref p] ∧ SqL X.K H p (bs.map V.bl) ∧ Q (.bl (bs.all id)) H) := by
  intro pins s σ H xs us Q I r h
  obtain ⟨p, bs, rfl, hq, q⟩ := h
  obtain ⟨u, rfl, rx⟩ := vals1 r
  cases rx
  obtain ⟨its, rv, pl, hz⟩ := I.list hq
  have hl := pl.isList
  have hlt : p < s.heap.objs.size := by obtain ⟨_, e, _⟩ := hl; exact Heap.lt_size e
  have hlen := rv.length
  rw [List.length_map] at hlen
  refine call_all_walk (wpAny_pyIter_list hl ?_)
  refine ⟨s.heap.objs.size, _, _, _, _, _, fun i => (bs[i]?).getD true, rfl, Walks.list (A := X.A.in1) (show X.A.handled = none from I.ok.hd hc) s.heap.objs.size p (Nat.ne_of_lt hlt) its.toArray, ⟨⟨_, Heap.get?_push_size _ rfl, rfl, rfl⟩, hl.push _⟩, ?_, ?_⟩
  · intro i v s' Q' E' hP hQ
    have hP' : its[i]? = some v := by simpa using hP
    obtain ⟨b, e, rfl⟩ := vals_bl rv hP'
    dsimp only at hQ
    rw [e] at hQ
    exact wpAny_truthy_bool hQ
  · intro h' tk hk
    have I1 : Inv X pins σ H { s with heap := s.heap.push { cls := .type "list_iterator", data := .fields #[.ref p, .int 0 0] } } := I.kept (t' := s.toks) fun b o e => Heap.get?_push_of_some _ e
    have fo := I.fpOk (b := s.heap.objs.size) (Nat.le_refl _) (I.hok.fresh (Nat.le_refl _))
    obtain ⟨f0, f1, f2, f3, f4, f5⟩ := fo
    refine ⟨.bl (bs.all id), H, I1.turned (t' := tk) (it := s.heap.objs.size) (fun b o hb e => hk b o (by simpa using hb) e) f0 f1 f3 f4 f5, ?_, q⟩
    show Value.bool _ = Value.bool _
    rw [List.size_toArray, ← hlen, range_all]
theorem call_any (hc : X.calm = true) : CallR X (.builtin "any") (fun xs H Q => ∃ (p : Addr) (bs : List Bool), xs = [.ref p] ∧ SqL X.K H p (bs.map V.bl) ∧ Q (.bl (bs.any id)) H) := by
  intro pins s σ H xs us Q I r h
  obtain ⟨p, bs, rfl, hq, q⟩ := h
  obtain ⟨u, rfl, rx⟩ := vals1 r
  cases rx
  obtain ⟨its, rv, pl, hz⟩ := I.list hq
  have hl := pl.isList
  have hlt : p < s.heap.objs.size := by obtain ⟨_, e, _⟩ := hl; exact Heap.lt_size e
  have hlen := rv.length
  rw [List.length_map] at hlen
  refine call_any_walk (wpAny_pyIter_list hl ?_)
  refine ⟨s.heap.objs.size, _, _, _, _, _, fun i => (bs[i]?).getD false, rfl, Walks.list (A := X.A.in1) (show X.A.handled = none from I.ok.hd hc) s.heap.objs.size p (Nat.ne_of_lt hlt) its.toArray, ⟨⟨_, Heap.get?_push_size _ rfl, rfl, rfl⟩, hl.push _⟩, ?_, ?_⟩
  · intro i v s' Q' E' hP hQ
    have hP' : its[i]? = some v := by simpa using hP
    obtain ⟨b, e, rfl⟩ := vals_bl rv hP'
    dsimp only at hQ
    rw [e] at hQ
    exact wpAny_truthy_bool hQ
  · intro h' tk hk
    have I1 : Inv X pins σ H { s with heap := s.heap.push { cls := .type "list_iterator", data := .fields #[.ref p, .int 0 0] } } := I.kept (t' := s.toks) fun b o e => Heap.get?_push_of_some _ e
    have fo := I.fpOk (b := s.heap.objs.size) (Nat.le_refl _) (I.hok.fresh (Nat.le_refl _))
    obtain ⟨f0, f1, f2, f3, f4, f5⟩ := fo
    refine ⟨.bl (bs.any id), H, I1.turned (t' := tk) (it := s.heap.objs.size) (fun b o hb e => hk b o (by simpa using hb) e) f0 f1 f3 f4 f5, ?_, q⟩
    show Value.bool _ = Value.bool _
    rw [List.size_toArray, ← hlen, range_any]
/-- isinstance(x, T), T a built-in type by name -/
def rIsi (K : PySem.W.Frag) : List V → Hp → VK → Prop := fun xs H Q => ∃ x t n b, xs = [x, .ty n] ∧ TyOf K H x t ∧ PySem.W.kitOne K t (.type n) = some b ∧ Q (.bl b) H
theorem call_isinst : CallR X (.builtin "isinstance") (rIsi X.K) := by
  intro pins s σ H xs us Q I r h
  obtain ⟨x, t, n, b, rfl, ty, e, q⟩ := h
  obtain ⟨u, c, rfl, rx, rc⟩ := vals2 r
  obtain rfl : c = Value.type n := rc
  exact isinst_ok I rx ty e fun tk => ⟨.bl b, H, I.tok tk, rfl, q⟩
end

/-! ### the rules that speak of the written part, by its name -/
section
variable {X : Cx} {a b o e l : Expr} {es : List Expr} {ta tl : TE} {t : TA} {pos apos cpos : Pos} {f : Str}
theorem ix_tupK (K : PySem.W.Frag) (h : X.K = K := by rfl) : IxR X (rIxT K) := by subst h; exact ix_tup
theorem ix_listK (K : PySem.W.Frag) (h : X.K = K := by rfl) : IxR X (rIxL K) := by subst h; exact ix_list
theorem call_isinstK (K : PySem.W.Frag) (h : X.K = K := by rfl) : CallR X (.builtin "isinstance") (rIsi K) := by subst h; exact call_isinst
def rLen (K : PySem.W.Frag) : List V → Hp → VK → Prop := fun xs H Q => ∃ p ys, xs = [.ref p] ∧ (SqL K H p ys ∨ SqT K H p ys) ∧ Q (.int ys.length) H
theorem call_lenK (K : PySem.W.Frag) (h : X.K = K := by rfl) : CallR X (.builtin "len") (rLen K) := by subst h; exact call_len_seq
def rList (K : PySem.W.Frag) : List V → Hp → VK → Prop := fun xs H Q => ∃ p ys, xs = [.ref p] ∧ (SqL K H p ys ∨ SqT K H p ys) ∧ ∀ l, H l = none → Q (.ref l) (upd H l (.lst ys))
theorem call_listK (K : PySem.W.Frag) (h : X.K = K := by rfl) : CallR X (.type "list") (rList K) := by subst h; exact call_list_of
def rTuple (K : PySem.W.Frag) : List V → Hp → VK → Prop := fun xs H Q => ∃ p ys, xs = [.ref p] ∧ ((SqL K H p ys ∧ ∀ l, H l = none → Q (.ref l) (upd H l (.tup ys))) ∨ (SqT K H p ys ∧ Q (.ref p) H))
theorem call_tupleK (K : PySem.W.Frag) (h : X.K = K := by rfl) : CallR X (.type "tuple") (rTuple K) := by subst h; exact call_tuple_of
def rAll (K : PySem.W.Frag) : List V → Hp → VK → Prop := fun xs H Q => ∃ (p : Addr) (bs : List Bool), xs = [.ref p] ∧ SqL K H p (bs.map V.bl) ∧ Q (.bl (bs.all id)) H
theorem call_allK (K : PySem.W.Frag) (hc : X.calm = true) (h : X.K = K := by rfl) : CallR X (.builtin "all") (rAll K) := by subst h; exact call_all hc
def rAny (K : PySem.W.Frag) : List V → Hp → VK → Prop := fun xs H Q => ∃ (p : Addr) (bs : List Bool), xs = [.ref p] ∧ SqL K H p (bs.map V.bl) ∧ Q (.bl (bs.any id)) H
theorem call_anyK (K : PySem.W.Frag) (hc : X.calm = true) (h : X.K = K := by rfl) : CallR X (.builtin "any") (rAny K) := by subst h; exact call_any hc
theorem pi_listK (K : PySem.W.Frag) {tg : Expr} (hl : PE X l tl) (h : X.K = K := by rfl) : PI X tg l (iList K tl) := by subst h; exact pi_list hl
theorem pg_tupK (K : PySem.W.Frag) {ts : List Expr} {k : Nat} {t : TGs} {n : Nat} (hc : X.calm = true) (hg : PGs X ts t) (h : X.K = K := by rfl)
    (hn : (assignEach ts X.env).length = n := by rfl) (hst : (assignEach ts X.env).findIdx? (·.1) = none := by rfl) : PG X (.Tuple ts k pos) (gTup K n t) := by subst h; exact pg_tup hc hg hn hst
theorem pe_fldK (K : PySem.W.Frag) (he : PE X e ta) (h : X.K = K := by rfl) (hb : attributeBase e f X.env (eval e X.env) = eval e X.env := by rfl) : PE X (.Attribute e f pos) (tFld K ta f) := by subst h; exact pe_fld he hb
theorem ps_fldK (K : PySem.W.Frag) {value : Expr} {tv : TE} {pos' : Pos} (ha : PE X o ta) (hv : PE X value tv) (h : X.K = K := by rfl) (hs : swapsWith value (some (.Attribute o f pos')) pos.line X.env = pure false := by rfl) : PS X (.Assign [.Attribute o f pos'] value pos) (sFld K ta tv f) := by subst h; exact ps_fld ha hv hs
theorem pe_appendK (K : PySem.W.Frag) {to : TE} (ho : PE X o to) (ha : PA X [e] t) (h : X.K = K := by rfl) (hbase : attributeBase o "append" X.env (eval o X.env) = eval o X.env := by rfl)
    (hfew : ((backTo cpos (starEach [e] X.env)).all (fun x => !x.1) && (backToKw cpos (keywordEach [] X.env)).all (fun x => x.1.isSome)
      && decide ([e].length + ([] : List Keyword).length + (if ([] : List Keyword).isEmpty then 0 else 1) < 30)) = true := by rfl)
    (hline : (apos.endLine == cpos.line) = true := by rfl) (hs : starEach [e] X.env = (false, eval e X.env) :: starEach [] X.env := by rfl) (hplain : (backTo cpos (starEach [] X.env)).any (·.1) = false := by rfl) :
    PE X (.Call (.Attribute o "append" apos) [e] [] cpos) (tBM K "list" rAppend to t) := by subst h; exact pe_bm PySem.F.plainAttrs_list PySem.F.slot_list_append PySem.F.type_list_append mt_append ho ha hbase hfew hline hs hplain
theorem pt_truthK (K : PySem.W.Frag) (ha : PE X a ta) (h : X.K = K := by rfl) (he : ∀ whole, isTrue a X.env whole = (do let v ← whole; standAt a.pos; holding [v] (truthy v)) := by intro _; rfl) :
    PT X a (fun σ H Q => ta σ H fun x H' => ∃ k, TruV K x H' k ∧ Q k H') := by subst h; exact pt_truth ha he
end

/-! ### data in the heap, == and != at any depth -/
mutual
inductive Dt (H : Hp) : V → PyData → Prop
  | non : Dt H .non .none
  | bl (b : Bool) : Dt H (.bl b) (.bool b)
  | int (i : Int) : Dt H (.int i) (.int i)
  | str (x : Str) : Dt H (.str x) (.str x)
  | lst {a : Addr} {xs : List V} {ds : List PyData} : H a = some (.lst xs) → Dts H xs ds → Dt H (.ref a) (.list ds)
  | tup {a : Addr} {xs : List V} {ds : List PyData} : H a = some (.tup xs) → Dts H xs ds → Dt H (.ref a) (.tuple ds)
inductive Dts (H : Hp) : List V → List PyData → Prop
  | nil : Dts H [] []
  | cons {x : V} {xs : List V} {d : PyData} {ds : List PyData} : Dt H x d → Dts H xs ds → Dts H (x :: xs) (d :: ds)
end
mutual
theorem Dt.reads {P : Program} {w : World} {H : Hp} {h : Heap} (ok : HOk P w H h) : ∀ {v : V} {d : PyData} {u : Value}, Dt H v d → RelV v u → ∃ as, Reads h u d as
  | _, _, u, .non, r => by cases (show u = Value.none from r); exact ⟨_, .none⟩
  | _, _, u, .bl b, r => by cases (show u = Value.bool b from r); exact ⟨_, .bool b⟩
  | _, _, u, .int i, r => by obtain ⟨t, rfl⟩ := (show ∃ t, u = Value.int i t from r); exact ⟨_, .int i t⟩
  | _, _, u, .str x, r => by obtain ⟨t, rfl⟩ := (show ∃ t, u = Value.str x t from r); exact ⟨_, .str x t⟩
  | _, _, u, .lst (a := a) (xs := xs) e ds, r => by
    cases (show u = Value.ref a from r)
    obtain ⟨_, its, n, rv, e1⟩ := (show ObjOk P w H h a (.lst xs) from ok a _ e)
    obtain ⟨as, ra⟩ := Dts.reads ok ds rv
    exact ⟨_, .list e1 rfl rfl (by simpa using ra)⟩
  | _, _, u, .tup (a := a) (xs := xs) e ds, r => by
    cases (show u = Value.ref a from r)
    obtain ⟨_, its, rv, ob, e1, hc, n, hd⟩ := (show ObjOk P w H h a (.tup xs) from ok a _ e)
    obtain ⟨as, ra⟩ := Dts.reads ok ds rv
    exact ⟨_, .tuple e1 hc hd (by simpa using ra)⟩
theorem Dts.reads {P : Program} {w : World} {H : Hp} {h : Heap} (ok : HOk P w H h) : ∀ {vs : List V} {ds : List PyData} {us : List Value}, Dts H vs ds → Vals vs us → ∃ as, ReadsAll h us ds as
  | _, _, us, .nil, r => by cases r; exact ⟨_, .nil⟩
  | _, _, us, .cons hd tl, r => by
    cases r with
    | cons r1 r2 =>
      obtain ⟨as, ra⟩ := Dt.reads ok hd r1
      obtain ⟨bs, rb⟩ := Dts.reads ok tl r2
      exact ⟨_, .cons ra rb⟩
end
def rEqD (neg : Bool) : R2 := fun x y H Q => ∃ da db, Dt H x da ∧ Dt H y db ∧ da.canLay0 = true ∧ db.canLay0 = true ∧ da.depth ≤ 60 ∧ Q (.bl (if neg = true then !PyData.eqv da db else PyData.eqv da db)) H
section
variable {X : Cx}
theorem op_eqD (hu : X.A.units + 64 < cLine) : OpR X (compareOp .Eq) (rEqD false) := by
  intro pins s σ H x y v u Q I rx ry h
  obtain ⟨da, db, d1, d2, c1, c2, hd, q⟩ := h
  obtain ⟨as, ra⟩ := d1.reads I.hok rx
  obtain ⟨bs, rb⟩ := d2.reads I.hok ry
  exact SeqAt.compareEq_reads ra rb c1 c2 (by have : min da.depth db.depth ≤ da.depth := Nat.min_le_left _ _; omega) ⟨.bl _, H, I, rfl, q⟩
theorem op_neD (hu : X.A.units + 64 < cLine) : OpR X (compareOp .NotEq) (rEqD true) := by
  intro pins s σ H x y v u Q I rx ry h
  obtain ⟨da, db, d1, d2, c1, c2, hd, q⟩ := h
  obtain ⟨as, ra⟩ := d1.reads I.hok rx
  obtain ⟨bs, rb⟩ := d2.reads I.hok ry
  exact SeqAt.compareNe_reads ra rb c1 c2 (by have : min da.depth db.depth ≤ da.depth := Nat.min_le_left _ _; omega) ⟨.bl _, H, I, rfl, q⟩
end
end L2

namespace L2
open PySem PySem.Spec PyProof.Rows

/-! ### enumerate, zip: each turn a new pair -/
/-- the records at ch turn, a tuple is laid -/
theorem Inv.yields {X : Cx} {pins : List (Addr × Obj)} {σ : St} {H : Hp} {s : Shared} {h' : Heap} {ch : List Addr} {T : Addr} {xs : List V} {t' : Nat} (I : Inv X pins σ H s) (hch : ∀ b ∈ ch, FpOk X pins H b)
    (kp : ∀ b o, b ∉ ch → s.heap.get? b = some o → h'.get? b = some o) (hT : s.heap.objs.size ≤ T) (hz : xs.length ≤ sizeLine) (new : ∃ its : List Value, Vals xs its ∧ IsTup h' T its.toArray) (hrec : ∀ b ∈ ch, ∃ o, h'.get? b = some o) :
    Inv X pins σ (upd H T (.tup xs)) { s with heap := h', toks := t' } := by
  have hf : H T = none := I.hok.fresh hT
  have neT : ∀ b o, s.heap.get? b = some o → b ≠ T := fun b o e => Nat.ne_of_lt (Nat.lt_of_lt_of_le (Heap.lt_size e) hT)
  have nch : ∀ b u, H b = some u → b ∉ ch := fun b u e z => by rw [(hch b z).1] at e; cases e
  refine I.step (g' := s.gens) (d' := s.drawn) (ch := ch) (fun b hb => ?_) (fun b o _ _ hc e _ => kp b o hc e) (fun b o _ _ hc e _ => ⟨o.slots, kp b o hc e⟩) (fun b o hc e n => by rw [upd_ne (neT b o e)]; exact n)
    (fun b o hc e => ⟨o, kp b o hc e⟩) (fun b ys e => by rw [upd_ne (ne_of_none e hf)]; exact e) (fun b o u e => by rw [upd_ne (ne_of_none e hf)]; exact e) (fun b ps e => ⟨#[], by rw [upd_ne (ne_of_none e hf), e]; simp⟩) (fun m hm => ?_) (fun b u e => ?_) I.bare
  · obtain ⟨_, f1, _, f3, f4, f5⟩ := hch b hb
    exact ⟨f3, f1, f4, f5⟩
  · obtain ⟨o, es, ep, ho, r⟩ := hm
    exact ⟨o, es, ep, kp _ o (fun z => (hch _ z).2.1 rfl) ho, r⟩
  · by_cases hb : b = T
    · subst hb
      rw [upd_same] at e
      cases e
      obtain ⟨its, rv, p⟩ := new
      exact ⟨hz, its, rv, p⟩
    · rw [upd_ne hb] at e
      refine (I.hok b u e).stay (fun c v hc q => kp c v ?_ q) (fun c q => by rw [upd_ne (ne_of_none q hf)]; exact q) fun c ys q => by rw [upd_ne (ne_of_none q hf)]; exact q
      rcases hc with rfl | hc
      · exact nch c u e
      · exact nch c _ hc
/-- enumerate(list) -/
def Ite (K : PySem.W.Frag) (a : Addr) : It :=
  ⟨fun i H => ∃ xs x, SqL K H a xs ∧ xs[i]? = some x, fun i H x H' => ∃ p, H p = none ∧ x = .ref p ∧ ∀ xs v, SqL K H a xs → xs[i]? = some v → H' = upd H p (.tup [.int (i : Nat), v]), fun i H => ∃ xs, SqL K H a xs ∧ xs.length ≤ i⟩
theorem turn_enum {P : Program} {w : World} {K : PySem.W.Frag} {elts : List Expr} {k0 : Nat} {pos : Pos} (a e it : Addr) (hne : e ≠ it) :
    Turn P w K (.Tuple elts k0 pos) (Ite K a) [e, it] e (fun i h => (∃ old, IsEnum h e it i old) ∧ h.IsListIter it a i) where
  mem := by simp
  obj := fun i h st b hb => by
    obtain ⟨⟨old, he⟩, o, ho, c, d⟩ := st
    rcases List.mem_cons.mp hb with rfl | hb
    · exact ⟨_, he, fun v z => by
        have z' : Data.fields _ = Data.cell v := z
        cases z'⟩
    · have e2 : b = it := by simpa using hb
      subst e2
      exact ⟨o, ho, fun v z => by rw [d] at z; cases z⟩
  keep := fun i h h' st k => ⟨by obtain ⟨old, he⟩ := st.1; exact ⟨old, k e (by simp) _ he⟩, st.2.at fun o ho => k it (by simp) o ho⟩
  item := by
    intro X hP hw hK hc i pins s σ H E I hf st hg
    subst hP hw hK
    obtain ⟨xs, x, hq, hx⟩ := hg
    obtain ⟨its, rv, p, hz⟩ := I.list hq
    obtain ⟨u, hu, ru⟩ := rv.get hx
    obtain ⟨⟨old, he⟩, hit⟩ := st
    refine wpAny_pyNext_enum_item he hit p.isList (x := u) (by simpa using hu) hne fun h' ho' hit' hT' hsz' hk' => ?_
    have I1 : Inv X pins σ (upd H s.heap.objs.size (.tup [.int (i : Nat), x])) { s with heap := h', toks := s.toks + 1 } :=
      I.yields (ch := [e, it]) hf (fun b o hb q => hk' b o (fun z => hb (by simp [z])) (fun z => hb (by simp [z])) q) (Nat.le_refl _) (by show 2 ≤ sizeLine; decide)
        ⟨[.int (i : Nat) s.toks, u], .cons ⟨_, rfl⟩ (.cons ru .nil), ⟨_, hT', rfl, _, rfl⟩⟩ (fun b hb => by
          rcases List.mem_cons.mp hb with rfl | hb
          · exact ⟨_, ho'⟩
          · have e2 : b = it := by simpa using hb
            subst e2
            obtain ⟨o, q, _⟩ := hit'
            exact ⟨o, q⟩)
    refine ⟨_, rfl, wpAny_letOwnedTupleGo_enum (s := { s with heap := h', toks := s.toks + 1 }) ho' fun h'' he'' hs'' => ?_⟩
    have fr : ∀ b ∈ [e, it], (upd H s.heap.objs.size (.tup [.int (i : Nat), x])) b = none := fun b hb => by
      have hlt : b < s.heap.objs.size := by
        rcases List.mem_cons.mp hb with rfl | hb
        · exact Heap.lt_size he
        · have e2 : b = it := by simpa using hb
          subst e2
          obtain ⟨o, q, _⟩ := hit
          exact Heap.lt_size q
      rw [upd_ne (Nat.ne_of_lt hlt)]; exact (hf b hb).1
    obtain ⟨f0, f1, f2, f3, f4, f5⟩ := hf e (by simp)
    have I2 := I1.turned (t' := s.toks + 1) (it := e) (h' := h'') (fun b o hb q => (hs''.2 b hb).trans q) (fr e (by simp)) f1 f3 f4 f5
    refine ⟨.ref s.heap.objs.size, _, I2, rfl, ⟨s.heap.objs.size, I.hok.fresh (Nat.le_refl _), rfl, fun ys v hy hv => ?_⟩, ⟨⟨_, by simpa using he''⟩, hit'.at fun o q => (hs''.2 it (Ne.symm hne)).trans q⟩, fr⟩
    have := I.list_inj hy hq
    subst this
    rw [hx] at hv
    cases hv
    rfl
  done := by
    intro X hP hw hK hc i pins s σ H E I hf st hg
    subst hP hw hK
    obtain ⟨xs, hq, hx⟩ := hg
    obtain ⟨its, rv, p, hz⟩ := I.list hq
    obtain ⟨⟨old, he⟩, hit⟩ := st
    obtain ⟨f0, f1, f2, f3, f4, f5⟩ := hf it (by simp)
    have hl := rv.length
    exact wpAny_pyNext_enum_end (I.ok.hd hc) he hit p.isList (by simp; omega) fun h' eb => ⟨rfl, I.turned (t' := s.toks) (fun b o hb q => eb b o hb q) f0 f1 f3 f4 f5⟩
  self := fun _ _ _ _ _ st h => by obtain ⟨old, he⟩ := st.1; exact wpAny_pyIter_enum he h
def iEnum (K : PySem.W.Frag) (tl : TA) : TI := fun σ H R => tl σ H fun vs H1 => ∃ a xs, vs = [.ref a] ∧ H1 a = some (.lst xs) ∧ R (Ite K a) H1
section
variable {X : Cx}
theorem pi_enumK (K : PySem.W.Frag) {elts : List Expr} {k0 : Nat} {tpos : Pos} {l : Expr} {tl : TA} {p pos : Pos} (hg : Gl X "enumerate") (hm : X.mg "enumerate" = none) (hb : bootBuiltins "enumerate" = some (.type "enumerate")) (ha : PA X [l] tl) (hK : X.K = K := by rfl)
    (hs : starEach [l] X.env = [(false, eval l X.env)] := by rfl) : PI X (.Tuple elts k0 tpos) (.Call (.Name "enumerate" p) [l] [] pos) (iEnum K tl) := by
  subst hK
  intro pins s σ H R I h
  refine Call_ (ld_blt I hg hm hb (PyProof.Rows.callWith_type1 (thn (ha pos pins s σ H _ I h) fun us s1 ⟨vs, H1, I1, r1, q1⟩ => ?_) hs rfl))
  obtain ⟨a, xs, rfl, hq, q⟩ := q1
  obtain ⟨u, rfl, ru⟩ := vals1 r1
  cases ru
  obtain ⟨z, its, n, rv, e⟩ := (show ObjOk X.prog X.w H1 s1.heap a (.lst xs) from I1.hok a _ hq)
  refine call_enumerate_1 e fun h' he hit hsz hk => ?_
  have I2 : Inv X pins σ H1 { s1 with heap := h' } := I1.kept (t' := s1.toks) hk
  refine wpAny_pyIter_enum he ?_
  refine ⟨s1.heap.objs.size + 1, [s1.heap.objs.size + 1, s1.heap.objs.size], _, _, H1, rfl, I2, turn_enum a _ _ (Nat.ne_of_gt (Nat.lt_succ_self _)), ⟨⟨_, he⟩, hit⟩, fun b hb => ?_, q⟩
  have hle : s1.heap.objs.size ≤ b := by
    rcases List.mem_cons.mp hb with rfl | hb
    · exact Nat.le_succ _
    · have e2 : b = s1.heap.objs.size := by simpa using hb
      exact Nat.le_of_eq e2.symm
  exact I1.fpOk hle (I1.hok.fresh hle)
end
/-- zip(list, list) -/
def Itz (K : PySem.W.Frag) (a b : Addr) : It :=
  ⟨fun i H => ∃ xs ys x y, SqL K H a xs ∧ SqL K H b ys ∧ xs[i]? = some x ∧ ys[i]? = some y, fun i H x H' => ∃ p, H p = none ∧ x = .ref p ∧ ∀ xs ys v w, SqL K H a xs → SqL K H b ys → xs[i]? = some v → ys[i]? = some w → H' = upd H p (.tup [v, w]),
    fun i H => ∃ xs ys, SqL K H a xs ∧ SqL K H b ys ∧ (xs.length ≤ i ∨ ys.length ≤ i)⟩
theorem turn_zip {P : Program} {w : World} {K : PySem.W.Frag} {elts : List Expr} {k0 : Nat} {pos : Pos} (a b z TI TO i1 i2 : Addr) (D : ZipApart z TI TO i1 i2 a b) :
    Turn P w K (.Tuple elts k0 pos) (Itz K a b) [z, TO, i1, i2, TI] z (fun i h => IsZip h z TI TO .none ∧ IsPair h TI (.ref i1) (.ref i2) ∧ (∃ u v, IsPair h TO u v) ∧ h.IsListIter i1 a i ∧ h.IsListIter i2 b i) where
  mem := by simp
  obj := fun i h st c hc => by
    obtain ⟨hz, hTI, ⟨u, v, hTO⟩, ⟨o1, q1, _, d1⟩, o2, q2, _, d2⟩ := st
    simp only [List.mem_cons, List.not_mem_nil, or_false] at hc
    rcases hc with rfl | rfl | rfl | rfl | rfl
    · exact ⟨_, hz, fun v z => by
        have z' : Data.fields _ = Data.cell v := z
        cases z'⟩
    · exact ⟨_, hTO, fun v z => by
        have z' : Data.seq _ _ = Data.cell v := z
        cases z'⟩
    · exact ⟨o1, q1, fun v z => by rw [d1] at z; cases z⟩
    · exact ⟨o2, q2, fun v z => by rw [d2] at z; cases z⟩
    · exact ⟨_, hTI, fun v z => by
        have z' : Data.seq _ _ = Data.cell v := z
        cases z'⟩
  keep := fun i h h' st k => by
    obtain ⟨hz, hTI, ⟨u, v, hTO⟩, h1, h2⟩ := st
    exact ⟨k z (by simp) _ hz, k TI (by simp) _ hTI, ⟨u, v, k TO (by simp) _ hTO⟩, h1.at fun o q => k i1 (by simp) o q, h2.at fun o q => k i2 (by simp) o q⟩
  item := by
    intro X hP hw hK hc i pins s σ H E I hf st hg
    subst hP hw hK
    obtain ⟨xs, ys, x, y, hq1, hq2, hx, hy⟩ := hg
    obtain ⟨its, rv, p, hz1⟩ := I.list hq1
    obtain ⟨its2, rv2, p2, hz2⟩ := I.list hq2
    obtain ⟨u, hu, ru⟩ := rv.get hx
    obtain ⟨u2, hu2, ru2⟩ := rv2.get hy
    obtain ⟨hz, hTI, ⟨t1, t2, hTO⟩, h1, h2⟩ := st
    refine wpAny_pyNext_zip_item D hz hTI hTO h1 h2 p.isList p2.isList (x := u) (y := u2) (by simpa using hu) (by simpa using hu2) fun h' hz' hTO' h1' h2' hT' hsz' hk' => ?_
    have lt : ∀ c ∈ [z, TO, i1, i2, TI], c < s.heap.objs.size := fun c hc => by
      obtain ⟨o1, q1, _⟩ := id h1
      obtain ⟨o2, q2, _⟩ := id h2
      simp only [List.mem_cons, List.not_mem_nil, or_false] at hc
      rcases hc with rfl | rfl | rfl | rfl | rfl
      · exact Heap.lt_size hz
      · exact Heap.lt_size hTO
      · exact Heap.lt_size q1
      · exact Heap.lt_size q2
      · exact Heap.lt_size hTI
    have I1 : Inv X pins σ (upd H s.heap.objs.size (.tup [x, y])) { s with heap := h', toks := s.toks } :=
      I.yields (ch := [z, TO, i1, i2]) (fun c hc => hf c (by simp only [List.mem_cons, List.not_mem_nil, or_false] at hc ⊢; rcases hc with h | h | h | h <;> simp [h])) (fun c o hc q => hk' c o (fun z => hc (by simp [z])) (fun z => hc (by simp [z])) (fun z => hc (by simp [z])) (fun z => hc (by simp [z])) q) (Nat.le_refl _) (by show 2 ≤ sizeLine; decide)
        ⟨[u, u2], .cons ru (.cons ru2 .nil), ⟨_, hT', rfl, _, rfl⟩⟩ (fun c hc => by
          obtain ⟨o1, q1, _⟩ := id h1'
          obtain ⟨o2, q2, _⟩ := id h2'
          simp only [List.mem_cons, List.not_mem_nil, or_false] at hc
          rcases hc with rfl | rfl | rfl | rfl
          · exact ⟨_, hz'⟩
          · exact ⟨_, hTO'⟩
          · exact ⟨_, q1⟩
          · exact ⟨_, q2⟩)
    refine ⟨_, rfl, wpAny_letOwnedTupleGo_zip (s := { s with heap := h', toks := s.toks }) hz' fun h'' hz'' hs'' => ?_⟩
    have fr : ∀ c ∈ [z, TO, i1, i2, TI], (upd H s.heap.objs.size (.tup [x, y])) c = none := fun c hc => by
      rw [upd_ne (Nat.ne_of_lt (lt c hc))]; exact (hf c hc).1
    obtain ⟨f0, f1, f2, f3, f4, f5⟩ := hf z (by simp)
    have I2 := I1.turned (t' := s.toks) (it := z) (h' := h'') (fun c o hc q => (hs''.2 c hc).trans q) (fr z (by simp)) f1 f3 f4 f5
    have hTI' : IsPair h' TI (.ref i1) (.ref i2) := hk' TI _ D.TIz D.TITO D.TIi1 D.TIi2 hTI
    refine ⟨.ref s.heap.objs.size, _, I2, rfl, ⟨s.heap.objs.size, I.hok.fresh (Nat.le_refl _), rfl, fun xs' ys' v w' hxs hys hv hw => ?_⟩,
      ⟨hz'', (hs''.2 TI D.TIz).trans hTI', ⟨_, _, (hs''.2 TO D.TOz).trans hTO'⟩, h1'.at fun o q => (hs''.2 i1 D.i1z).trans q, h2'.at fun o q => (hs''.2 i2 D.i2z).trans q⟩, fr⟩
    have e1 := I.list_inj hxs hq1
    have e2 := I.list_inj hys hq2
    subst e1; subst e2
    rw [hx] at hv; rw [hy] at hw
    cases hv; cases hw
    rfl
  done := by
    intro X hP hw hK hc i pins s σ H E I hf st hg
    subst hP hw hK
    obtain ⟨xs, ys, hq1, hq2, hend⟩ := hg
    obtain ⟨its, rv, p, hz1⟩ := I.list hq1
    obtain ⟨its2, rv2, p2, hz2⟩ := I.list hq2
    obtain ⟨hz, hTI, ⟨t1, t2, hTO⟩, h1, h2⟩ := st
    have hl := rv.length
    have hl2 := rv2.length
    refine wpAny_pyNext_zip_end (I.ok.hd hc) D hz hTI hTO h1 h2 p.isList p2.isList (by
      rcases hend with h | h
      · left; simp; omega
      · right; simp; omega) fun h' hk' => ⟨rfl, ?_⟩
    refine I.step (g' := s.gens) (d' := s.drawn) (t' := s.toks) (ch := [z, TO, i1, i2]) (fun c hc => ?_) (fun c o _ _ hc q _ => hk' c o (fun z => hc (by simp [z])) (fun z => hc (by simp [z])) (fun z => hc (by simp [z])) (fun z => hc (by simp [z])) q)
      (fun c o _ _ hc q _ => ⟨o.slots, hk' c o (fun z => hc (by simp [z])) (fun z => hc (by simp [z])) (fun z => hc (by simp [z])) (fun z => hc (by simp [z])) q⟩) (fun _ _ _ _ n => n)
      (fun c o hc q => ⟨o, hk' c o (fun z => hc (by simp [z])) (fun z => hc (by simp [z])) (fun z => hc (by simp [z])) (fun z => hc (by simp [z])) q⟩) (fun _ _ q => q) (fun _ _ _ q => q) (fun c ps q => ⟨#[], by rw [q]; simp⟩) (fun m hm => ?_) (fun c u q => ?_) I.bare
    · obtain ⟨_, f1, _, f3, f4, f5⟩ := hf c (by simp only [List.mem_cons, List.not_mem_nil, or_false] at hc ⊢; rcases hc with h | h | h | h <;> simp [h])
      exact ⟨f3, f1, f4, f5⟩
    · obtain ⟨o, es, ep, ho, r⟩ := hm
      have ne : ∀ c ∈ [z, TO, i1, i2, TI], X.env.locals ≠ c := fun c hc => Ne.symm (hf c hc).2.1
      exact ⟨o, es, ep, hk' _ o (ne z (by simp)) (ne TO (by simp)) (ne i1 (by simp)) (ne i2 (by simp)) ho, r⟩
    · have nn : ∀ d v, H d = some v → ∀ c ∈ [z, TO, i1, i2, TI], d ≠ c := fun d v e c hc w' => by rw [w', (hf c hc).1] at e; cases e
      have all : ∀ d v, H d = some v → ∀ o, s.heap.get? d = some o → h'.get? d = some o := fun d v e o q' => hk' d o (nn d v e z (by simp)) (nn d v e TO (by simp)) (nn d v e i1 (by simp)) (nn d v e i2 (by simp)) q'
      refine (I.hok c u q).stay (fun d v hd q' => ?_) (fun _ q => q) fun _ _ q => q
      rcases hd with rfl | hd
      · exact all d u q v q'
      · exact all d _ hd v q'
  self := fun _ _ _ _ _ st h => wpAny_pyIter_zip st.1 h
def iZip (K : PySem.W.Frag) (tl : TA) : TI := fun σ H R => tl σ H fun vs H1 => ∃ a b, vs = [.ref a, .ref b] ∧ (∃ xs, SqL K H1 a xs) ∧ (∃ ys, SqL K H1 b ys) ∧ R (Itz K a b) H1
section
variable {X : Cx}
theorem pi_zipK (K : PySem.W.Frag) {elts : List Expr} {k0 : Nat} {tpos : Pos} {l m : Expr} {tl : TA} {p pos : Pos} (hg : Gl X "zip") (hm : X.mg "zip" = none) (hb : bootBuiltins "zip" = some (.type "zip")) (ha : PA X [l, m] tl) (hK : X.K = K := by rfl)
    (hs : starEach [l, m] X.env = [(false, eval l X.env), (false, eval m X.env)] := by rfl) (hs2 : starEach [m] X.env = [(false, eval m X.env)] := by rfl) : PI X (.Tuple elts k0 tpos) (.Call (.Name "zip" p) [l, m] [] pos) (iZip K tl) := by
  subst hK
  intro pins s σ H R I h
  refine Call_ (ld_blt I hg hm hb (PyProof.Rows.callWith_type1 (thn (ha pos pins s σ H _ I h) fun us s1 ⟨vs, H1, I1, r1, q1⟩ => ?_) (by rw [hs, hs2]) (by rw [hs2]; rfl)))
  obtain ⟨a, b, rfl, ⟨xs, hq1⟩, ⟨ys, hq2⟩, q⟩ := q1
  obtain ⟨u, w', rfl, ru, rw'⟩ := vals2 r1
  cases ru; cases rw'
  obtain ⟨its, rv, p1, hz1⟩ := I1.list hq1
  obtain ⟨its2, rv2, p2, hz2⟩ := I1.list hq2
  have a1 : a < s1.heap.objs.size := by obtain ⟨_, e, _⟩ := p1.isList; exact Heap.lt_size e
  have a2 : b < s1.heap.objs.size := by obtain ⟨_, e, _⟩ := p2.isList; exact Heap.lt_size e
  refine call_zip_2 p1.isList p2.isList fun h' hz hTI hTO hi1 hi2 hsz hk => ?_
  have I2 : Inv X pins σ H1 { s1 with heap := h' } := I1.kept (t' := s1.toks) hk
  refine wpAny_pyIter_zip hz ?_
  refine ⟨s1.heap.objs.size + 4, [s1.heap.objs.size + 4, s1.heap.objs.size + 3, s1.heap.objs.size, s1.heap.objs.size + 1, s1.heap.objs.size + 2], _, _, H1, rfl, I2, turn_zip a b _ _ _ _ _ (zipApart_new a1 a2), ⟨hz, hTI, ⟨_, _, hTO⟩, hi1, hi2⟩, fun c hc => ?_, q⟩
  have hle : s1.heap.objs.size ≤ c := by
    simp only [List.mem_cons, List.not_mem_nil, or_false] at hc
    rcases hc with rfl | rfl | rfl | rfl | rfl
    · exact Nat.le_add_right _ 4
    · exact Nat.le_add_right _ 3
    · exact Nat.le_refl _
    · exact Nat.le_add_right _ 1
    · exact Nat.le_add_right _ 2
  exact I1.fpOk hle (I1.hok.fresh hle)
end
end L2

/-! ### the table of a set that only grew: its places rise -/
namespace SetQ
open PySem
theorem at_lt {xs : List Nat} (hs : xs.Pairwise (· < ·)) {i k y z : Nat} (h : i < k) (hi : xs[i]? = some y) (hk : xs[k]? = some z) : y < z := by
  obtain ⟨h1, e1⟩ := List.getElem?_eq_some_iff.mp hi
  obtain ⟨h2, e2⟩ := List.getElem?_eq_some_iff.mp hk
  have := List.pairwise_iff_getElem.mp hs i k h1 h2 h
  omega
theorem below_go (xs : Array Nat) (j : Nat) (hs : xs.toList.Pairwise (· < ·)) : ∀ (fuel lo hi : Nat), hi - lo ≤ fuel → lo ≤ hi → hi ≤ xs.size →
    (∀ i y, i < lo → xs.toList[i]? = some y → y < j) → (∀ i y, hi ≤ i → xs.toList[i]? = some y → j ≤ y) →
    SetTable.below.go xs j fuel lo hi ≤ xs.size ∧ (∀ i y, i < SetTable.below.go xs j fuel lo hi → xs.toList[i]? = some y → y < j) ∧ (∀ i y, SetTable.below.go xs j fuel lo hi ≤ i → xs.toList[i]? = some y → j ≤ y)
  | 0, lo, hi, hf, h1, h2, a, b => by
    have e : lo = hi := by omega
    subst e
    exact ⟨h2, a, b⟩
  | fuel + 1, lo, hi, hf, h1, h2, a, b => by
    unfold SetTable.below.go
    by_cases hlt : lo < hi
    · rw [if_pos hlt]
      dsimp only
      have hm : (lo + hi) / 2 < xs.size := by omega
      have hmt : xs.toList[(lo + hi) / 2]? = some xs[(lo + hi) / 2] := by rw [Array.getElem?_toList]; exact Array.getElem?_eq_getElem hm
      have hg : xs.getD ((lo + hi) / 2) j = xs[(lo + hi) / 2] := by simp [Array.getD, hm]
      rw [hg]
      by_cases hc : xs[(lo + hi) / 2] < j
      · rw [if_pos hc]
        refine below_go xs j hs fuel _ _ (by omega) (by omega) h2 (fun i y hi' hy => ?_) b
        rcases Nat.lt_or_ge i ((lo + hi) / 2) with hx | hx
        · exact Nat.lt_trans (at_lt hs hx hy hmt) hc
        · have e : i = (lo + hi) / 2 := by omega
          subst e
          rw [hmt] at hy; cases hy; exact hc
      · rw [if_neg hc]
        refine below_go xs j hs fuel _ _ (by omega) (by omega) (by omega) a (fun i y hi' hy => ?_)
        rcases Nat.lt_or_ge ((lo + hi) / 2) i with hx | hx
        · have := at_lt hs hx hmt hy
          omega
        · have e : i = (lo + hi) / 2 := by omega
          subst e
          rw [hmt] at hy; cases hy; omega
    · rw [if_neg hlt]
      have e : lo = hi := by omega
      subst e
      exact ⟨h2, a, b⟩
theorem below_ok (xs : Array Nat) (j : Nat) (hs : xs.toList.Pairwise (· < ·)) :
    SetTable.below xs j ≤ xs.size ∧ (∀ i y, i < SetTable.below xs j → xs.toList[i]? = some y → y < j) ∧ (∀ i y, SetTable.below xs j ≤ i → xs.toList[i]? = some y → j ≤ y) :=
  below_go xs j hs xs.size 0 xs.size (by omega) (Nat.zero_le _) (Nat.le_refl _) (fun i y h => absurd h (Nat.not_lt_zero _)) (fun i y h e => by
    have := (List.getElem?_eq_some_iff.mp e).1
    simp at this; omega)
theorem insertAt_list {α : Type} (xs : Array α) (p : Nat) (x : α) : (SetTable.insertAt xs p x).toList = xs.toList.take p ++ x :: xs.toList.drop p := by
  unfold SetTable.insertAt
  simp [Array.toList_extract]
  exact List.take_of_length_le (by simp)
theorem insert_rising (xs : Array Nat) (j : Nat) (hs : xs.toList.Pairwise (· < ·)) (hn : xs[SetTable.below xs j]? ≠ some j) : (SetTable.insertAt xs (SetTable.below xs j) j).toList.Pairwise (· < ·) := by
  obtain ⟨h1, h2, h3⟩ := below_ok xs j hs
  rw [insertAt_list, List.pairwise_append]
  have lo : ∀ y ∈ xs.toList.take (SetTable.below xs j), y < j := fun y hy => by
    obtain ⟨i, hi⟩ := List.mem_iff_getElem?.mp hy
    rw [List.getElem?_take] at hi
    split at hi
    · exact h2 i y ‹_› hi
    · cases hi
  have up : ∀ y ∈ xs.toList.drop (SetTable.below xs j), j < y := fun y hy => by
    obtain ⟨i, hi⟩ := List.mem_iff_getElem?.mp hy
    rw [List.getElem?_drop] at hi
    have hle := h3 _ y (Nat.le_add_right _ i) hi
    rcases Nat.lt_or_ge j y with h | h
    · exact h
    · exfalso
      have e : y = j := by omega
      subst e
      cases i with
      | zero =>
        rw [Nat.add_zero, Array.getElem?_toList] at hi
        exact hn hi
      | succ i =>
        have hlen := (List.getElem?_eq_some_iff.mp hi).1
        have hb : SetTable.below xs y < xs.toList.length := by omega
        have hz := at_lt hs (i := SetTable.below xs y) (k := SetTable.below xs y + (i + 1)) (by omega) (List.getElem?_eq_getElem hb) hi
        have := h3 _ _ (Nat.le_refl _) (List.getElem?_eq_getElem hb)
        omega
  refine ⟨hs.sublist (List.take_sublist _ _), List.pairwise_cons.mpr ⟨up, hs.sublist (List.drop_sublist _ _)⟩, fun a ha b hb => ?_⟩
  rcases List.mem_cons.mp hb with rfl | hb
  · exact lo a ha
  · exact Nat.lt_trans (lo a ha) (up b hb)
/-- the table of a set from which nothing went -/
structure Good (L : Bool) (t : SetTable) : Prop where
  rise : t.place.toList.Pairwise (· < ·)
  dum : t.dummies = #[]
  led : t.led = L
theorem slot_empty {t : SetTable} {j : Nat} (h : t.slot j = .empty) : t.place[SetTable.below t.place j]? ≠ some j := by
  intro e
  unfold SetTable.slot at h
  dsimp only at h
  rw [e, beq_self_eq_true, if_pos rfl] at h
  cases h
theorem slot_nodummy {t : SetTable} {j : Nat} (hd : t.dummies = #[]) : t.slot j ≠ .dummy := by
  intro h
  unfold SetTable.slot at h
  dsimp only at h
  split at h
  · cases h
  · rw [hd] at h
    have e : SetTable.has (#[] : Array Nat) j = false := by simp [SetTable.has]
    rw [e] at h
    cases h
theorem advance_dummy (t : SetTable) (p : SetTable.Probe) : (t.advance p).dummy = p.dummy := by
  unfold SetTable.advance
  split <;> rfl
theorem probe_go {t : SetTable} {f : Nat → Int} {h : Int} (hd : t.dummies = #[]) : ∀ (fuel : Nat) (p : SetTable.Probe) (j : Nat) (d : Option Nat), p.dummy = none →
    SetTable.probe.go t f h fuel p = some (.empty j d) → d = none ∧ t.slot j = .empty
  | 0, _, _, _, _, e => by unfold SetTable.probe.go at e; cases e
  | fuel + 1, p, j, d, hp, e => by
    unfold SetTable.probe.go at e
    split at e
    · rename_i hs
      cases e
      exact ⟨hp, hs⟩
    · rename_i hs
      exact absurd hs (slot_nodummy hd)
    · split at e
      · cases e
      · exact probe_go hd fuel _ j d (by rw [advance_dummy]; exact hp) e
theorem standIn_good {L : Bool} {t : SetTable} (g : Good L t) (n : Nat) : Good L (t.standIn n) := by
  refine ⟨?_, rfl, g.led⟩
  show (Array.range n).toList.Pairwise (· < ·)
  rw [Array.toList_range]
  exact List.pairwise_lt_range
theorem layNew_good {L : Bool} {t : SetTable} (g : Good L t) (es : Array (Int × Value)) (h : Int) (x : Value) : Good L (layNew t es h x).2.1 := by
  unfold layNew
  cases e : t.freeSlot h with
  | none => exact standIn_good g _
  | some q =>
    obtain ⟨slot, wd⟩ := q
    have hs : t.slot slot = .empty := by
      unfold SetTable.freeSlot at e
      split at e
      · rename_i j d hm
        obtain ⟨rfl, hs⟩ := probe_go g.dum _ _ _ _ rfl hm
        cases e
        exact hs
      · cases e
    dsimp only
    unfold SetTable.orStandIn
    have gp : Good L (t.put slot).1 := by
      refine ⟨insert_rising _ _ g.rise (slot_empty hs), ?_, g.led⟩
      show (if SetTable.has t.dummies slot = true then _ else t.dummies) = #[]
      rw [g.dum]
      have e : SetTable.has (#[] : Array Nat) slot = false := by simp [SetTable.has]
      rw [e]; rfl
    split
    · exact gp
    · exact standIn_good gp _
theorem fm_fst (owner : Array (Option Nat)) : ∀ (l : List Nat), ((l.filterMap fun j => (owner.getD j none).map (j, ·)).map (·.1)).Sublist l
  | [] => .slnil
  | j :: l => by
    rw [List.filterMap_cons]
    cases e : (owner.getD j none).map (j, ·) with
    | none => exact .cons _ (fm_fst owner l)
    | some q =>
      dsimp only
      rw [List.map_cons]
      have : q.1 = j := by
        cases ho : owner.getD j none with
        | none => rw [ho] at e; cases e
        | some k => rw [ho] at e; cases e; rfl
      rw [this]
      exact .cons₂ _ (fm_fst owner l)
theorem relayAll_good {L : Bool} {t : SetTable} (g : Good L t) (es : Array (Int × Value)) (n : Nat) : Good L (relayAll t es n).2.1 := by
  unfold relayAll
  split
  · rename_i t' order e
    dsimp only
    split
    · show Good L t'
      unfold SetTable.relaid SetTable.laid at e
      cases ho : SetTable.layClean (SetTable.sizeAbove n - 1) (es.map (·.1)) with
      | none => rw [ho] at e; cases e
      | some owner =>
        rw [ho] at e
        have e' := Option.some.inj e
        have e1 := (Prod.mk.inj e').1
        subst e1
        refine ⟨?_, rfl, g.led⟩
        refine List.Pairwise.sublist (fm_fst owner _) ?_
        exact List.pairwise_lt_range
    · exact standIn_good g _
  · exact standIn_good g _

section
variable {prog : Program} {w : World} {A : Around} {E : Value → Shared → Prop} {s : Shared}
def kz (e : Int × Value) : Int := match e.2 with | .int k _ => k | _ => 0
def IntE (e : Int × Value) : Prop := ∃ k tk, e = (hashInt k, Value.int k tk)
def addK (ks : List Int) (k : Int) : List Int := if ks.any (· == k) then ks else ks ++ [k]
/-- what a set of whole numbers is, from which nothing went: its elements are ks, in the table's order -/
structure Row (w : World) (es : Array (Int × Value)) (t : SetTable) (ks : List Int) : Prop where
  iz : ∀ e ∈ es.toList, IntE e
  perm : (es.toList.map kz).Perm ks
  few : es.size < scanBound
  fits : t.fits es.size = true
  good : Good (!w.params.followText "set-order") t
/-- what is asked of a set's table alone -/
structure RowG (w : World) (es : Array (Int × Value)) (t : SetTable) : Prop where
  few : es.size < scanBound
  fits : t.fits es.size = true
  good : Good (!w.params.followText "set-order") t
theorem Row.g {w : World} {es : Array (Int × Value)} {t : SetTable} {ks : List Int} (r : Row w es t ks) : RowG w es t := ⟨r.few, r.fits, r.good⟩
def SetZ (w : World) (h : Heap) (a : Addr) (ks : List Int) : Prop := ∃ o es ep t, h.get? a = some o ∧ o.ExactSet ∧ o.data = .set es ep t ∧ Row w es t ks
theorem SetZ.move {h h' : Heap} {a : Addr} {ks : List Int} (hS : SetZ w h a ks) (k : ∀ o, h.get? a = some o → h'.get? a = some o) : SetZ w h' a ks := by
  obtain ⟨o, es, ep, t, ho, r⟩ := hS
  exact ⟨o, es, ep, t, k o ho, r⟩
theorem elems {l : List (Int × Value)} (e : ∀ e ∈ l, IntE e) : ElemsOf (intKind prog w) l := by
  intro x hx
  obtain ⟨k, tk, rfl⟩ := e x hx
  exact ⟨⟨k, intKind_is _ _ _ _, rfl⟩, rfl⟩
theorem put_get {h : Heap} {a : Addr} {o : Obj} {es : Array (Int × Value)} {ep : Nat} {t : SetTable} (ho : h.get? a = some o) (hd : o.data = .set es ep t) (es' : Array (Int × Value)) (t' : SetTable) :
    (h.update a (Obj.putSet es' t')).get? a = some { o with data := .set es' (ep + 1) t' } := by
  have z := Heap.get?_update_self (Obj.putSet es' t') ho (by rw [putSet_of es' t' hd]; rfl)
  rwa [putSet_of es' t' hd] at z
theorem SetZ.put {h : Heap} {a : Addr} {o : Obj} {es : Array (Int × Value)} {ep : Nat} {t : SetTable} (ho : h.get? a = some o) (hex : o.ExactSet) (hd : o.data = .set es ep t) {es' : Array (Int × Value)} {t' : SetTable} {ks : List Int} (r : Row w es' t' ks) :
    SetZ w (h.update a (Obj.putSet es' t')) a ks := ⟨_, es', ep + 1, t', put_get ho hd es' t', hex, rfl, r⟩
/-- the end of an add: the elements are stored, the table made anew where it is too full -/
theorem tail_ok {a : Addr} {o : Obj} {es : Array (Int × Value)} {ep : Nat} {t : SetTable} (ho : s.heap.get? a = some o) (hex : o.ExactSet) (hd : o.data = .set es ep t) {es1 : Array (Int × Value)} {t2 : SetTable} {ks : List Int}
    (r1 : Row w es1 t2 ks) {g : Bool → Sem Unit} (hg : ∀ (b : Bool) (s₁ : Shared) (Q' : Unit → Shared → Prop), Q' () s₁ → wpAny (model prog w) A (g b) Q' E s₁) {wd : Bool} {R : Option Bool → Shared → Prop}
    (h : ∀ h', Heap.SameBut a s.heap h' → SetZ w h' a ks → R (some true) { s with heap := h' }) :
    wpAny (model prog w) A (do
      storeSet a es1 t2
      if (!wd && t2.tooFull) = true then do
        g (relayAll t2 es1 (SetTable.grown es1.size)).2.2
        storeSet a (relayAll t2 es1 (SetTable.grown es1.size)).1 (relayAll t2 es1 (SetTable.grown es1.size)).2.1
        pure (some true)
      else pure (some true)) R E s := by
  have sb := Heap.SameBut.update s.heap a (Obj.putSet es1 t2)
  refine wpAny_bind (wpAny_storeSet_of ho hd ?_ (fits_of_scanBound r1.few))
  split
  · have gd := relayAll_good r1.good es1 (SetTable.grown es1.size)
    have pm := relayAll_perm t2 es1 (SetTable.grown es1.size)
    have ft := relayAll_fits t2 es1 (SetTable.grown es1.size)
    generalize relayAll t2 es1 (SetTable.grown es1.size) = q at gd pm ft ⊢
    obtain ⟨es2, t3, gv⟩ := q
    dsimp only at gd pm ft ⊢
    have sz : es2.size = es1.size := by have := pm.length_eq; simpa using this
    have r2 : Row w es2 t3 ks := ⟨fun e he => r1.iz e (pm.mem_iff.mp he), (pm.map kz).trans r1.perm, by rw [sz]; exact r1.few, ft, gd⟩
    refine wpAny_bind (hg _ _ _ (wpAny_bind (wpAny_storeSet_of (put_get ho hd es1 t2) rfl ?_ (fits_of_scanBound r2.few))))
    exact wpAny_pure (h _ (sb.trans (Heap.SameBut.update _ a _)) (SetZ.put (put_get ho hd es1 t2) hex rfl r2))
  · exact wpAny_pure (h _ sb (SetZ.put ho hex hd r1))
theorem find_none {l : List (Int × Value)} {k : Int} (hi : ∀ e ∈ l, IntE e) (h : List.findIdx? (fun e => (intKind prog w).is k e.2) l = none) : (l.map kz).any (· == k) = false := by
  rw [List.findIdx?_eq_none_iff] at h
  rw [List.any_map, List.any_eq_false]
  intro e he
  obtain ⟨j, tk, rfl⟩ := hi e he
  have := h _ he
  show ¬ ((j == k) = true)
  intro z
  rw [eq_of_beq z, intKind_is] at this
  cases this
theorem find_some {l : List (Int × Value)} {k : Int} {i : Nat} (hi : ∀ e ∈ l, IntE e) (h : List.findIdx? (fun e => (intKind prog w).is k e.2) l = some i) : (l.map kz).any (· == k) = true := by
  obtain ⟨hj, hp, _⟩ := List.findIdx?_eq_some_iff_getElem.mp h
  rw [List.any_map, List.any_eq_true]
  refine ⟨l[i], List.getElem_mem hj, ?_⟩
  obtain ⟨j, tk, e⟩ := hi _ (List.getElem_mem hj)
  rw [e] at hp ⊢
  show (j == k) = true
  have := (intKind prog w).inj _ _ _ (intKind_is prog w j tk) hp
  rw [this]; exact beq_self_eq_true _
theorem any_perm {l m : List Int} (p : l.Perm m) (k : Int) : l.any (· == k) = m.any (· == k) := by
  rw [Bool.eq_iff_iff, List.any_eq_true, List.any_eq_true]
  exact ⟨fun ⟨x, h1, h2⟩ => ⟨x, p.mem_iff.mp h1, h2⟩, fun ⟨x, h1, h2⟩ => ⟨x, p.mem_iff.mpr h1, h2⟩⟩
/-- an add of a whole number -/
theorem add_ok {a : Addr} {ks : List Int} {k : Int} {tk : Tok} {Q : Bool → Shared → Prop} (hS : SetZ w s.heap a ks) (hroom : ks.length + 1 < scanBound)
    (h : ∀ b h', Heap.SameBut a s.heap h' → SetZ w h' a (addK ks k) → Q b { s with heap := h' }) : wpAny (model prog w) A (setAddHashed a (.int k tk) (hashInt k)) Q E s := by
  obtain ⟨o, es, ep, t, ho, hex, hd, r⟩ := hS
  have hel : ElemsOf (intKind prog w) es.toList := elems r.iz
  have hlen : es.size = ks.length := by have := r.perm.length_eq; simpa using this
  unfold setAddHashed setAddHashedIn
  refine wpAny_holding (wpAny_bind (wpAny_setState_of ho hd r.fits ?_))
  dsimp only
  rw [byScan_of (knd := intKind prog w) (x := .int k tk) rfl r.few hel, if_pos rfl]
  unfold setAddByScan
  refine wpAny_bind (wpAny_bind (wpAny_rule (wpAny_bind (wpAny_setScan_of (knd := intKind prog w) (k := k) (intKind_is _ _ _ _) ho hd r.fits hel ?_))))
  cases hr : List.findIdx? (fun e => (intKind prog w).is k e.2) es.toList with
  | some i =>
    refine wpAny_pure (wpAny_pure ?_)
    have e1 : addK ks k = ks := by unfold addK; rw [← any_perm r.perm, find_some r.iz hr, if_pos rfl]
    exact h _ s.heap (Heap.SameBut.refl a s.heap) (by rw [e1]; exact ⟨o, es, ep, t, ho, hex, hd, r⟩)
  | none =>
    dsimp only
    have pm := layNew_perm t es (hashInt k) (.int k tk)
    have ft := layNew_fits t es (hashInt k) (.int k tk)
    have gd := layNew_good r.good es (hashInt k) (.int k tk)
    generalize layNew t es (hashInt k) (.int k tk) = q at pm ft gd ⊢
    obtain ⟨es1, t1, wd, gave⟩ := q
    dsimp only at pm ft gd ⊢
    rw [Array.toList_push] at pm
    have e1 : addK ks k = ks ++ [k] := by unfold addK; rw [← any_perm r.perm, find_none r.iz hr]; rfl
    have r1 : Row w es1 t1 (addK ks k) := by
      refine ⟨fun e he => ?_, ?_, ?_, ft, gd⟩
      · rcases List.mem_append.mp (pm.mem_iff.mp he) with he | he
        · exact r.iz e he
        · exact ⟨k, tk, by simpa using he⟩
      · rw [e1]
        refine (pm.map kz).trans ?_
        rw [List.map_append]
        exact r.perm.append_right _
      · have := pm.length_eq
        rw [List.length_append] at this
        simp at this
        omega
    have gw : ∀ (b : Bool) (s₁ : Shared) (Q' : Unit → Shared → Prop), Q' () s₁ → wpAny (model prog w) A (match b with | true => rule "set.scan.the-table-gave-way" | false => pure ()) Q' E s₁ :=
      fun b s₁ Q' q => by
        cases b with
        | true => exact wpAny_rule q
        | false => exact wpAny_pure q
    refine wpAny_bind (gw _ _ _ ?_)
    have fin : ∀ h', Heap.SameBut a s.heap h' → SetZ w h' a (addK ks k) → wpAny (model prog w) A (match (some true : Option Bool) with | some added => pure added | none => setAddHashedIn a (.int k tk) (hashInt k) 99999) Q E { s with heap := h' } :=
      fun h' sb z => wpAny_pure (h true h' sb z)
    split
    · refine wpAny_bind ?_
      rw [hashByValue_scannable 8 (show Value.scannable (.int k tk) = true from rfl)]
      refine wpAny_pure ?_
      show wpAny _ _ _ _ _ s
      refine tail_ok ho hex hd r1 gw fin
    · refine wpAny_bind (wpAny_pure ?_)
      show wpAny _ _ _ _ _ s
      refine tail_ok ho hex hd r1 gw fin
end

def dd (val : Nat → Int) (i : Nat) : List Int := ((List.range i).map val).foldl addK []
theorem dd_succ (val : Nat → Int) (i : Nat) : dd val (i + 1) = addK (dd val i) (val i) := by
  unfold dd
  rw [List.range_succ, List.map_append, List.foldl_append]; rfl
theorem dd_len (val : Nat → Int) : ∀ i, (dd val i).length ≤ i
  | 0 => Nat.le_refl _
  | i + 1 => by
    have z := dd_len val i
    rw [dd_succ]; unfold addK
    split
    · omega
    · rw [List.length_append]; simp; omega
section
open PySem.Spec PyProof.Rows
variable {prog : Program} {w : World} {A : Around} {R : Result → Shared → Prop} {J : Addr} {fp wr : List Addr} {G : Array GenState → Array GenState → Prop} {n : Nat} {P : Nat → Value → Prop} {St : Nat → Shared → Prop}
theorem fill_ok (W : WalksS prog w A.in1 J fp wr G n P St) (S : Addr) (hSf : S ∉ fp) (val : Nat → Int) (hval : ∀ i v, P i v → ∃ t, v = .int (val i) t) (hb : n + 1 < scanBound) :
    ∀ (k i : Nat) (s : Shared), n - i = k → i ≤ n → St i s → SetZ w s.heap S (dd val i) →
      (∀ s', Moved (S :: wr) G s s' → SetZ w s'.heap S (dd val n) → R (.ok (.ret .none)) s') →
      codeAny (model prog w) A (.builtin "set.update.loop" ⟨[.ref S, .ref J], []⟩) R s := by
  have sub : ∀ b ∈ wr, b ∈ S :: wr := fun b h => List.mem_cons_of_mem _ h
  have nw : S ∉ wr := fun h => hSf (W.sub _ h)
  intro k
  induction k with
  | zero =>
    intro i s hk hi st hS hR
    obtain rfl : i = n := by omega
    refine codeAny_builtin F.entry_set_update_loop ?_
    rw [Around.under_plainId F.plain_set_update_loop _]
    refine wpAny_bind (m := pyNext (.ref J)) (W.done s _ _ st fun s' hm => wpAny_pure (hR s' (hm.mono sub) (hS.move fun o e => hm.heap S o nw e)))
  | succ k ih =>
    intro i s hk hi st hS hR
    have hlt : i < n := by omega
    refine codeAny_builtin F.entry_set_update_loop ?_
    rw [Around.under_plainId F.plain_set_update_loop _]
    refine wpAny_bind (m := pyNext (.ref J)) (W.item i s _ _ hlt st fun v s' hP st' hm => ?_)
    obtain ⟨t, rfl⟩ := hval i v hP
    have hS' : SetZ w s'.heap S (dd val i) := hS.move fun o e => hm.heap S o nw e
    refine wpAny_bind (m := holding [Value.int (val i) t] (setAdd S (.int (val i) t))) (wpAny_holding ?_)
    unfold setAdd
    refine wpAny_holding (wpAny_bind ((intKind prog w).pyHash (k := val i) (intKind_is _ _ _ _) ?_))
    have room : (dd val i).length + 1 < scanBound := by have := dd_len val i; omega
    refine add_ok (s := { s' with toks := s'.toks + 1 }) hS' room fun b h' sb z => ?_
    rw [← dd_succ] at z
    refine wpAny_pure ⟨plainId_quiet F.plain_set_update_loop _, ih (i + 1) _ (by omega) hlt (W.frame _ s' _ _ st' (Nat.le_succ _) fun c hc o e => ?_) z fun s2 hm2 z2 => ?_⟩
    · rw [sb.2 c (fun q : c = S => hSf (q ▸ hc))]; exact e
    · refine hR s2 (Moved.trans W.gtrans ((hm.mono sub).then_heap (Nat.le_succ _) fun c o hc e => ?_) hm2) z2
      rw [sb.2 c (fun q : c = S => hc (by rw [q]; exact List.mem_cons_self))]; exact e
end
section
variable {prog : Program} {w : World} {A : Around} {E : Value → Shared → Prop} {s : Shared}
abbrev emptyS (w : World) : Obj := { cls := .type "set", dict := none, data := .set #[] 0 (.fresh 0 0 (!w.params.followText "set-order")) }
theorem new_ok (a : Value) {Q₁ : Value → Shared → Prop} (h : Q₁ (.ref s.heap.objs.size) { s with heap := s.heap.push (emptyS w) }) :
    codeAny (model prog w) A (.call (.builtin "set.__new__") ⟨[.type "set", a], []⟩) (wants Q₁ E) s := by
  refine codeAny_of_tree ?_
  show wpAny _ A.in1 (checkBuiltinCall "set.__new__" ⟨[.type "set", a], []⟩ >>= fun _ => again (.builtin "set.__new__" ⟨[.type "set", a], []⟩)) _ _ s
  refine wpAny_bind (wpAny_of_eq (PySem.F.newCall_set_1 a) (wpAny_pure ⟨plainId_quiet PySem.F.plain_set_new _, codeAny_builtin PySem.F.entry_set_new ?_⟩))
  rw [Around.under_plainId PySem.F.plain_set_new _]
  unfold Builtin.«set.__new__» Builtin.Frozenset.newClass
  have hq := sub_set_self
  obtain ⟨hp, g, d, tk, os⟩ := s
  dsimp only
  wp_walk
  refine wpAny_askSetting (wpAny_pure ?_)
  dsimp only
  simp only [newObj]
  exact wpAny_bind (wpAny_alloc (wpAny_pure (wpAny_pure h)))

/-- set(a list of whole numbers) -/
theorem make_ok {l : Addr} {its : Array Value} {val : Nat → Int} {Q : Value → Shared → Prop} (hh : A.handled = none) (hl : s.heap.IsList l its) (hi : ∀ (i : Nat) (v : Value), its[i]? = some v → ∃ t, v = Value.int (val i) t) (hb : its.size + 1 < scanBound)
    (h : ∀ (h' : Heap) (tk : Nat), SetZ w h' s.heap.objs.size (dd val its.size) → (∀ b o, s.heap.get? b = some o → h'.get? b = some o) → Q (.ref s.heap.objs.size) { s with heap := h', toks := tk }) :
    wpAny (model prog w) A (call (.type "set") [.ref l]) Q E s := by
  obtain ⟨c, tl, z1⟩ := PySem.F.called_set.mro
  have z2 := PySem.F.called_set.made
  have z3 := PySem.F.called_set.sub
  have z4 := PySem.F.called_set.notType
  have z5 := PySem.F.called_set.canCreate
  have z6 := PySem.F.typeCall_set_1 (.ref l)
  refine wpAny_call (codeAny_of_tree ?_)
  show wpAny _ _ (callAny (.type "set") _) _ _ s
  refine wpAny_pure ⟨Code.quiet_builtin _ (by decide +kernel), codeAny_builtin PySem.F.entry_type_call ?_⟩
  rw [Around.under_plain (weight_type_call_type "set" [.ref l] []) rfl]
  repeat (any_goals (first | assumption | wp_step))
  refine codeAny_mono (new_ok (.ref l) (E := E) (Q₁ := fun ob s₁ => ob = .ref s.heap.objs.size ∧ s₁ = { s with heap := s.heap.push (emptyS w) }) ⟨rfl, rfl⟩) fun r s₁ hr => ?_
  cases r with
  | error e => exact hr
  | ok fl =>
    cases fl with
    | ret ob =>
      obtain ⟨rfl, rfl⟩ := hr
      have gS : (s.heap.push (emptyS w)).get? s.heap.objs.size = some (emptyS w) := Heap.get?_push_size _ rfl
      have tS : Shared.TypeIs { s with heap := s.heap.push (emptyS w) } (.ref s.heap.objs.size) "set" := ⟨_, gS, rfl⟩
      have z7 := PySem.F.called_set.init.lookup
      have z8 := PySem.F.called_set.init.bind (.ref s.heap.objs.size)
      repeat (any_goals (first | assumption | wp_step))
      refine codeAny_mono (codeAny_call_builtin (R := wants (fun r s₂ => r = .none ∧ ∃ h' tk, s₂ = { s with heap := h', toks := tk } ∧ SetZ w h' s.heap.objs.size (dd val its.size) ∧ (∀ b o, s.heap.get? b = some o → h'.get? b = some o)) E)
        PySem.F.called_set.init.plain PySem.F.entry_set_init (check_set_init_1 tS ?_)) fun r₂ s₂ hr₂ => ?_
      · obtain ⟨ol, gl, cl, nl, dl⟩ := hl
        obtain ⟨ocls, odict, odata, oslots⟩ := ol
        simp only at cl dl
        subst cl; subst dl
        have gl' : (s.heap.push (emptyS w)).get? l = some { cls := .type "list", dict := odict, data := .seq its nl, slots := oslots } := Heap.get?_push_of_some _ gl
        have y1 := PySem.F.sub_list_set
        have y2 := PySem.F.sub_list_frozenset
        have y3 : (Value.type "list" == Value.type "dict") = false := by decide
        have il : (s.heap.push (emptyS w)).IsList l its := ⟨_, gl', rfl, nl, rfl⟩
        unfold Builtin.«set.__init__» noKeywords Builtin.Frozenset.updateFrom
        generalize hPI : pyIter = PI
        wp_walk
        subst hPI
        refine wpAny_pyIter_list il (wpAny_bind (wpAny_runValue ?_))
        have lS : l < s.heap.objs.size := Heap.lt_size gl
        have h3 : A.in1.in1.in1.handled = none := by simp [hh]
        have nI : l ≠ (s.heap.push (emptyS w)).objs.size := by rw [Heap.size_push]; exact Nat.ne_of_lt (Nat.lt_succ_of_lt lS)
        have nS : s.heap.objs.size ∉ [(s.heap.push (emptyS w)).objs.size, l] := by
          rw [Heap.size_push]
          intro q
          rcases List.mem_cons.mp q with q | q
          · exact Nat.lt_irrefl _ (Nat.lt_of_lt_of_eq (Nat.lt_succ_self _) q.symm)
          · have q' : s.heap.objs.size = l := by simpa using q
            exact absurd q' (Nat.ne_of_gt lS)
        refine fill_ok ((Walks.list h3 _ l nI its).toS) s.heap.objs.size nS val hi hb its.size 0 _ (by omega) (Nat.zero_le _) ⟨⟨_, Heap.get?_push_size _ rfl, rfl, rfl⟩, il.push _⟩ ?_ ?_
        · refine ⟨_, #[], 0, _, Heap.get?_push_of_some _ gS, ⟨rfl, rfl, rfl⟩, rfl, fun e he => by simp at he, .refl _, by decide, rfl, List.Pairwise.nil, rfl, rfl⟩
        · intro s' hm z
          obtain ⟨h', g', d', tk', os'⟩ := s'
          have eg : g' = s.gens := hm.gens
          have ed : d' = s.drawn := hm.drawn
          have eo : os' = s.os := hm.os
          subst eg; subst ed; subst eo
          refine wpAny_pure (wpAny_pure ⟨rfl, h', tk', rfl, z, fun b o e => ?_⟩)
          have lb : b < s.heap.objs.size := Heap.lt_size e
          refine hm.heap b o (fun q => ?_) (Heap.get?_push_of_some _ (Heap.get?_push_of_some _ e))
          rcases List.mem_cons.mp q with q | q
          · exact absurd q (Nat.ne_of_lt lb)
          · have q' : b = (s.heap.push (emptyS w)).objs.size := by simpa using q
            rw [Heap.size_push] at q'
            exact absurd q' (Nat.ne_of_lt (Nat.lt_succ_of_lt lb))
      · cases r₂ with
        | error e => exact hr₂
        | ok f2 =>
          cases f2 with
          | ret r =>
            obtain ⟨rfl, h', tk, rfl, z, kp⟩ := hr₂
            repeat (any_goals (first | assumption | wp_step))
            exact h _ _ z kp
          | _ => exact hr₂.elim
    | _ => exact hr.elim
end
end SetQ

/-! ### walking over a set of whole numbers -/
namespace SetQ
open PySem
theorem e_iter : entryFor table "set.__iter__" = some Builtin.«frozenset.__iter__» := entryFor_alias (id' := "frozenset.__iter__") (by kernel_rfl) rfl (by decide +kernel) (by kernel_rfl)
theorem sl_next : Slot "set_iterator" "__next__" "set_iterator.__next__" := .of (owner := "set_iterator") (n := "__next__") (by rw [typeLookup_type, builtinLookup_eq_fast]; kernel_rfl) (by decide +kernel) (by decide +kernel) (by decide +kernel) (by first | exact .inl (by decide +kernel) | exact .inr (by decide +kernel)) (by rw [isSubtype_type]; kernel_rfl)
theorem e_next : entryFor table "set_iterator.__next__" = some Builtin.«set_iterator.__next__» := entryFor_of_tree (by kernel_rfl)
theorem a_next (a : Value) : argsOk "set_iterator.__next__" ⟨[a], []⟩ := by unfold argsOk; kernel_rfl
theorem set_len : typeLookup (.type "set") "__len__" = pure (some (.builtin "set.__len__")) := by rw [typeLookup_type, builtinLookup_eq_fast]; kernel_rfl
theorem erase_perm {α : Type} : ∀ (l : List α) (i : Nat) (x : α), l[i]? = some x → (x :: l.eraseIdx i).Perm l
  | [], i, x, h => by simp at h
  | y :: l, 0, x, h => by
    have e : y = x := by simpa using h
    subst e
    exact .refl _
  | y :: l, i + 1, x, h => by
    have ih := erase_perm l i x (by simpa using h)
    rw [List.eraseIdx_cons_succ]
    exact (List.Perm.swap y x _).trans (ih.cons y)
theorem pick_go {α : Type} (f : Nat → Nat) : ∀ (fuel k : Nat) (l : List α) (out : Array α), l.length ≤ fuel → (pickOrder.go f fuel k l out).toList.Perm (out.toList ++ l)
  | 0, k, l, out, h => by
    have e : l = [] := List.eq_nil_of_length_eq_zero (by omega)
    subst e
    unfold pickOrder.go
    rw [List.append_nil]
  | fuel + 1, k, l, out, h => by
    unfold pickOrder.go
    split
    · rename_i x e
      have hlen : (l.eraseIdx (f k % l.length)).length + 1 = l.length := (erase_perm l _ x e).length_eq
      refine (pick_go f fuel (k + 1) _ _ (by omega)).trans ?_
      rw [Array.toList_push, List.append_assoc]
      exact (erase_perm l _ x e).append_left _
    · rename_i e
      have el : l = [] := by
        cases l with
        | nil => rfl
        | cons y l =>
          rw [List.getElem?_eq_none_iff] at e
          have := Nat.mod_lt (f k) (show 0 < (y :: l).length by simp)
          omega
      subst el
      rw [List.append_nil]
theorem pick_perm {α : Type} (f : Nat → Nat) (xs : Array α) : (pickOrder f xs).toList.Perm xs.toList := by
  have z := pick_go f xs.size 0 xs.toList #[] (by simp)
  simpa [pickOrder] using z
section
variable {prog : Program} {w : World} {A : Around} {E : Value → Shared → Prop}
theorem choose_ok {s : Shared} {src : Source} {n : Nat} {Q : Nat → Shared → Prop} (hn : 0 < n) (h : ∀ j d', j < n → Q j { s with drawn := d' }) : wpAny (model prog w) A (choose src n) Q E s := by
  intro Γ p _
  unfold choose
  rw [Sem.wp_choose]
  exact ⟨by omega, h _ _ (Nat.mod_lt _ hn)⟩
theorem order_ok {α : Type} : ∀ (n : Nat) (xs : List α) (s : Shared) (Q : List α → Shared → Prop), xs.length = n → (∀ ys d', ys.Perm xs → Q ys { s with drawn := d' }) → wpAny (model prog w) A (drawOrder n xs) Q E s
  | 0, xs, s, Q, h, q => by
    have e : xs = [] := List.eq_nil_of_length_eq_zero h
    subst e
    unfold drawOrder
    exact wpAny_pure (q [] s.drawn (.refl _))
  | n + 1, [], s, Q, h, q => by cases h
  | n + 1, x :: xs, s, Q, h, q => by
    unfold drawOrder
    refine wpAny_bind (choose_ok (by simp) fun j d hj => ?_)
    obtain ⟨y, hy⟩ : ∃ y, (x :: xs)[j]? = some y := ⟨_, List.getElem?_eq_getElem hj⟩
    rw [hy]
    dsimp only
    have pm := erase_perm (x :: xs) j y hy
    refine wpAny_bind (order_ok n _ _ _ (by have := pm.length_eq; simp at this h ⊢; omega) fun ys d' hp => wpAny_pure ?_)
    exact q (y :: ys) d' ((hp.cons y).trans pm)
end
abbrev itObj (first : Value) (i : Nat) (S : Addr) (n ep : Nat) : Obj := { cls := .type "set_iterator", data := .fields #[first, rawInt i, .ref S, rawInt n, rawInt ep] }
/-- how a set's elements come: in the order ys -/
inductive Fst (w : World) (S : Addr) (es : Array (Int × Value)) (ep : Nat) (t : SetTable) (T : Addr) : List (Int × Value) → Heap → Nat → Value → Prop
  | plain {h : Heap} {i : Nat} (slot : Nat) : w.params.followText "set-order" = false → (!t.plain && decide (es.size > 1)) = false → SetTable.below t.place slot = i → Fst w S es ep t T es.toList h i (rawInt slot)
  | text {h : Heap} {i : Nat} (slot : Nat) : w.params.followText "set-order" = true → Fst w S es ep t T (pickOrder (w.params.setOrder S ep) es).toList h i (rawInt slot)
  | drawn {h : Heap} {i : Nat} (ps : List Nat) : ps.Perm (List.range es.size) → h.get? T = some { cls := .type "tuple", data := .seq (ps.map fun (i : Nat) => rawInt i).toArray } → Fst w S es ep t T (ps.filterMap (es.toList[·]?)) h i (.ref T)
theorem ps_perm {es : List (Int × Value)} {ps : List Nat} (h : ps.Perm (List.range es.length)) : (ps.filterMap (es[·]?)).Perm es := by
  have z := h.filterMap (es[·]?)
  rwa [List.filterMap_getElem?_range_length] at z
theorem ps_at {es : List (Int × Value)} : ∀ {ps : List Nat}, (∀ p ∈ ps, p < es.length) → ∀ {i p : Nat}, ps[i]? = some p → (ps.filterMap (es[·]?))[i]? = es[p]?
  | [], _, i, p, h => by simp at h
  | q :: ps, hb, i, p, h => by
    have hq := hb q List.mem_cons_self
    rw [List.filterMap_cons, List.getElem?_eq_getElem hq]
    cases i with
    | zero =>
      have e : q = p := by simpa using h
      subst e
      rw [List.getElem?_eq_getElem hq]; rfl
    | succ i => exact ps_at (fun p hp => hb p (List.mem_cons_of_mem _ hp)) (by simpa using h)

theorem Fst.perm {w : World} {S : Addr} {es : Array (Int × Value)} {ep : Nat} {t : SetTable} {T : Addr} {ys : List (Int × Value)} {h : Heap} {i : Nat} {v : Value} (f : Fst w S es ep t T ys h i v) : ys.Perm es.toList := by
  cases f with
  | plain => exact .refl _
  | text => exact pick_perm _ _
  | drawn ps hp => exact ps_perm (by simpa using hp)
theorem Fst.move {w : World} {S : Addr} {es : Array (Int × Value)} {ep : Nat} {t : SetTable} {T : Addr} {ys : List (Int × Value)} {h h' : Heap} {i : Nat} {v : Value} (f : Fst w S es ep t T ys h i v) (k : ∀ o, h.get? T = some o → h'.get? T = some o) : Fst w S es ep t T ys h' i v := by
  cases f with
  | plain slot a b c => exact .plain slot a b c
  | text slot a => exact .text slot a
  | drawn ps hp e => exact .drawn ps hp (k _ e)
section
variable {prog : Program} {w : World} {A : Around} {E : Value → Shared → Prop} {s : Shared} {S J T : Addr} {es : Array (Int × Value)} {ep i : Nat} {t : SetTable} {ys : List (Int × Value)} {ks : List Int} {o : Obj} {first : Value}
theorem below_next {xs : Array Nat} (hs : xs.toList.Pairwise (· < ·)) {i y : Nat} (h : xs[i]? = some y) : SetTable.below xs (y + 1) = i + 1 := by
  obtain ⟨h1, h2, h3⟩ := below_ok xs (y + 1) hs
  have hy : xs.toList[i]? = some y := by rw [Array.getElem?_toList]; exact h
  rcases Nat.lt_trichotomy (SetTable.below xs (y + 1)) (i + 1) with z | z | z
  · exfalso
    have := h3 i y (by omega) hy
    omega
  · exact z
  · exfalso
    have hlt : i + 1 < xs.toList.length := by rw [Array.length_toList]; omega
    have e := List.getElem?_eq_getElem hlt
    have a := h2 (i + 1) _ z e
    have b := at_lt hs (Nat.lt_succ_self i) hy e
    omega
theorem next_plain {slot : Nat} {Q : Option (Value × Nat) → Shared → Prop} (ho : s.heap.get? S = some o) (hd : o.data = .set es ep t) (r : RowG w es t) (hb : w.params.followText "set-order" = false) (hp : (!t.plain && decide (es.size > 1)) = false)
    (hi : SetTable.below t.place slot = i) (h : Q (match es[i]?, t.place[i]? with | some (_, x), some j => some (x, j + 1) | _, _ => none) s) : wpAny (model prog w) A (setNext S slot i ep) Q E s := by
  unfold setNext
  refine wpAny_bind (wpAny_setState_of ho hd r.fits ?_)
  dsimp only
  unfold setsByText
  refine wpAny_bind (wpAny_bind (wpAny_askSetting (wpAny_pure ?_)))
  show wpAny _ _ (if w.params.followText "set-order" = true then _ else _) _ _ s
  rw [hb, if_neg (by simp)]
  show wpAny _ _ (if (!t.plain && decide (es.size > 1)) = true then _ else _) _ _ s
  rw [hp, if_neg (by simp)]
  have hl : t.led = true := by have := r.good.led; rw [hb] at this; exact this
  refine wpAny_bind ?_
  show wpAny _ _ (if (!t.led && !es.isEmpty) = true then _ else pure ()) _ _ s
  rw [hl, if_neg (by simp)]
  refine wpAny_pure (wpAny_pure ?_)
  rw [hi]
  exact h
theorem next_text {slot : Nat} {Q : Option (Value × Nat) → Shared → Prop} (ho : s.heap.get? S = some o) (hd : o.data = .set es ep t) (r : RowG w es t) (hb : w.params.followText "set-order" = true)
    (h : Q (((pickOrder (w.params.setOrder S ep) es)[i]?).map fun e => (e.2, slot)) s) : wpAny (model prog w) A (setNext S slot i ep) Q E s := by
  unfold setNext
  refine wpAny_bind (wpAny_setState_of ho hd r.fits ?_)
  dsimp only
  unfold setsByText
  refine wpAny_bind (wpAny_bind (wpAny_askSetting (wpAny_pure ?_)))
  show wpAny _ _ (if w.params.followText "set-order" = true then _ else _) _ _ s
  rw [hb, if_pos rfl, if_neg (by simp)]
  unfold setWalk setsByText
  refine wpAny_bind (wpAny_bind (wpAny_setState_of ho hd r.fits ?_))
  dsimp only
  refine wpAny_bind (wpAny_bind (wpAny_askSetting (wpAny_pure ?_)))
  show wpAny _ _ (if w.params.followText "set-order" = true then _ else _) _ _ s
  rw [hb, if_pos rfl]
  exact wpAny_bind (wpAny_askSetting (wpAny_pure (wpAny_pure h)))
/-- one turn of the walk -/
theorem next_item {e : Int × Value} {Q : Option Value → Shared → Prop} (hJ : s.heap.get? J = some (itObj first i S es.size ep)) (ho : s.heap.get? S = some o) (hd : o.data = .set es ep t) (r : RowG w es t) (f : Fst w S es ep t T ys s.heap i first) (he : ys[i]? = some e)
    (hQ : ∀ h' first', h'.get? J = some (itObj first' (i + 1) S es.size ep) → Heap.SameBut J s.heap h' → (∀ h2, (∀ q, s.heap.get? T = some q → h2.get? T = some q) → Fst w S es ep t T ys h2 (i + 1) first') → Q (some e.2) { s with heap := h' }) :
    wpAny (model prog w) A (pyNext (.ref J)) Q E s := by
  have hT : s.TypeIs (.ref J) "set_iterator" := ⟨_, hJ, rfl⟩
  unfold pyNext
  refine wpAny_bind (wpAny_attempt (wpAny_callSpecial?_slot (name := Str.ofString "__next__") hT sl_next (wpAny_call_entry sl_next hT e_next ?_ (a_next _))))
  unfold Builtin.«set_iterator.__next__»
  refine wpAny_bind (m := slotArgs "__next__" 0 ⟨[.ref J], []⟩) (wpAny_pure ?_)
  refine wpAny_bind (wpAny_fieldsOf hJ rfl ?_)
  dsimp only [rawInt]
  refine wpAny_bind (wpAny_setEntries_of ho hd r.fits ?_)
  rw [if_neg (by simp)]
  cases f with
  | plain slot a b c =>
    dsimp only [rawInt]
    have hlt : i < es.size := by have := (List.getElem?_eq_some_iff.mp he).1; simpa using this
    have hpl : t.place.size = es.size := by
      have := r.fits
      simp only [SetTable.fits, Bool.and_eq_true, beq_iff_eq] at this
      exact this.1
    have e1 : es[i]? = some e := by rw [← Array.getElem?_toList]; exact he
    have hlt2 : i < t.place.size := by rw [hpl]; exact hlt
    have e2 : t.place[i]? = some t.place[i] := Array.getElem?_eq_getElem hlt2
    refine wpAny_bind (next_plain ho hd r a b (i := i) (slot := slot) c ?_)
    rw [e1, e2]
    dsimp only
    refine wpAny_bind (wpAny_setField_rec hJ (by simp) fun h1 g1 s1 => wpAny_bind (wpAny_setField_rec g1 (by simp) fun h2 g2 s2 => wpAny_pure ⟨_, rfl, wpAny_pure ?_⟩))
    have g2' : h2.get? J = some (itObj (rawInt (t.place[i] + 1 : Nat)) (i + 1) S es.size ep) := by
      rw [g2]
      simp [itObj, rawInt]
    refine hQ h2 _ g2' (s1.trans s2) fun h3 k3 => ?_
    exact .plain _ a b (below_next r.good.rise e2)
  | text slot a =>
    dsimp only [rawInt]
    refine wpAny_bind (next_text (slot := slot) (ep := ep) (i := i) ho hd r a ?_)
    have e1 : (pickOrder (w.params.setOrder S ep) es)[i]? = some e := by rw [← Array.getElem?_toList]; exact he
    rw [e1]
    dsimp only [Option.map]
    refine wpAny_bind (wpAny_setField_rec hJ (by simp) fun h1 g1 s1 => wpAny_bind (wpAny_setField_rec g1 (by simp) fun h2 g2 s2 => wpAny_pure ⟨_, rfl, wpAny_pure ?_⟩))
    have g2' : h2.get? J = some (itObj (rawInt slot) (i + 1) S es.size ep) := by
      rw [g2]
      simp [itObj, rawInt]
    exact hQ h2 _ g2' (s1.trans s2) fun h3 k3 => .text _ a
  | drawn ps hp gT =>
    dsimp only
    refine wpAny_bind (wpAny_seqItems gT rfl ?_)
    have hb : ∀ p ∈ ps, p < es.toList.length := fun p h => by simpa using hp.mem_iff.mp h
    have hlen : ps.length = es.size := by simpa using hp.length_eq
    have hi : i < ps.length := by
      have := (List.getElem?_eq_some_iff.mp he).1
      exact Nat.lt_of_lt_of_le this (List.length_filterMap_le _ _)
    have e1 := ps_at hb (List.getElem?_eq_getElem hi)
    rw [e1] at he
    dsimp only
    rw [show (((ps.map fun (i : Nat) => rawInt i).toArray)[((i : Int)).toNat]? : Option Value) = some (.int (ps[i] : Nat) 0) from by simp [rawInt, hi]]
    dsimp only
    unfold setNextDrawn
    refine wpAny_bind (wpAny_bind (wpAny_setState_of ho hd r.fits ?_))
    dsimp only
    rw [if_neg (by simp)]
    have e3 : es[ps[i]]? = some e := by rw [← Array.getElem?_toList]; exact he
    rw [show ((ps[i] : Nat) : Int).toNat = ps[i] from rfl, e3]
    refine wpAny_pure ?_
    refine wpAny_bind (wpAny_setField_rec hJ (by simp) fun h2 g2 s2 => wpAny_pure ⟨_, rfl, wpAny_pure ?_⟩)
    have g2' : h2.get? J = some (itObj (.ref T) (i + 1) S es.size ep) := by
      rw [g2]
      simp [itObj, rawInt]
    exact hQ h2 _ g2' s2 fun h3 k3 => .drawn ps hp (k3 _ gT)

theorem stop_ok {Q : Fin → Shared → Prop} {E' : Value → Shared → Prop} {vs : Array Value} {k : Nat} {x : Value} (hh : A.handled = none) (hJ : s.heap.get? J = some { cls := .type "set_iterator", data := .fields vs }) (hk : k < vs.size)
    (h : ∀ h' e, Heap.ExtBut J s.heap h' → (∃ o, h'.get? e = some o ∧ o.cls = .type "StopIteration") → E' (.ref e) { s with heap := h' }) :
    wpAny (model prog w) A (setField (.ref J) k x >>= fun _ => newExc (.type "StopIteration") [] >>= fun e => raiseNew e) Q E' s := by
  refine wpAny_bind (wpAny_setField_rec hJ hk fun h1 g1 s1 => wpAny_bind ?_)
  simp only [newExc, newTuple]
  refine wpAny_bind (wpAny_newObj_type ?_ (by size_fits))
  refine wpAny_bind (m := firstArgMember _ _) (wpAny_of_eq (a := Value.none) (by first | rfl | (simp only [firstArgMember]; rfl)) (wpAny_newObj_type ?_ (by size_fits)))
  simp only [raiseNew]
  refine wpAny_bind (wpAny_handled ?_)
  rw [hh]
  exact wpAny_bind (wpAny_pure (wpAny_throw (h _ _ ((s1.extBut.push _).push _) ⟨_, Heap.get?_push_size _ rfl, rfl⟩)))
theorem next_end {Q : Option Value → Shared → Prop} (hh : A.handled = none) (hJ : s.heap.get? J = some (itObj first es.size S es.size ep)) (ho : s.heap.get? S = some o) (hd : o.data = .set es ep t) (r : RowG w es t) (f : Fst w S es ep t T ys s.heap es.size first)
    (hQ : ∀ h', Heap.ExtBut J s.heap h' → Q none { s with heap := h' }) : wpAny (model prog w) A (pyNext (.ref J)) Q E s := by
  have hT : s.TypeIs (.ref J) "set_iterator" := ⟨_, hJ, rfl⟩
  have hn : ys.length = es.size := by have := f.perm.length_eq; simpa using this
  unfold pyNext
  refine wpAny_bind (wpAny_attempt (wpAny_callSpecial?_slot (name := Str.ofString "__next__") hT sl_next (wpAny_call_entry sl_next hT e_next ?_ (a_next _))))
  unfold Builtin.«set_iterator.__next__»
  refine wpAny_bind (m := slotArgs "__next__" 0 ⟨[.ref J], []⟩) (wpAny_pure ?_)
  refine wpAny_bind (wpAny_fieldsOf hJ rfl ?_)
  dsimp only [rawInt]
  refine wpAny_bind (wpAny_setEntries_of ho hd r.fits ?_)
  rw [if_neg (by simp)]
  have fin : ∀ h' e, Heap.ExtBut J s.heap h' → (∃ o, h'.get? e = some o ∧ o.cls = .type "StopIteration") → wpAny (model prog w) A (do if ← isInstance (.ref e) (.type "StopIteration") then pure none else throw (.ref e)) Q E { s with heap := h' } := fun h' e eb ⟨o, go, co⟩ =>
    wpAny_bind (wpAny_isInstance (T := "StopIteration") (b := true) ⟨o, go, co⟩ isSubtype_stop (wpAny_pure (hQ h' eb)))
  cases f with
  | plain slot a b c =>
    dsimp only [rawInt]
    refine wpAny_bind (next_plain ho hd r a b (i := es.size) (slot := slot) c ?_)
    rw [show es[es.size]? = none from by simp]
    dsimp only
    exact stop_ok (show A.in1.handled = none from hh) hJ (by simp) fin
  | text slot a =>
    dsimp only [rawInt]
    refine wpAny_bind (next_text (slot := slot) (ep := ep) (i := es.size) ho hd r a ?_)
    rw [show (pickOrder (w.params.setOrder S ep) es)[es.size]? = none from by rw [← Array.getElem?_toList]; exact List.getElem?_eq_none (by omega)]
    dsimp only [Option.map]
    exact stop_ok (show A.in1.handled = none from hh) hJ (by simp) fin
  | drawn ps hp gT =>
    dsimp only
    refine wpAny_bind (wpAny_seqItems gT rfl ?_)
    have hlen : ps.length = es.size := by simpa using hp.length_eq
    dsimp only
    rw [show (((ps.map fun (i : Nat) => rawInt i).toArray)[((es.size : Int)).toNat]? : Option Value) = none from by simp [hlen]]
    dsimp only
    refine wpAny_bind (wpAny_setField_rec hJ (by simp) fun h1 g1 s1 => ?_)
    exact stop_ok (s := { s with heap := h1 }) (show A.in1.handled = none from hh) g1 (by simp) fun h' e eb z => fin h' e (fun b q hb z => eb b q hb (s1.extBut b q hb z)) z
/-- iter(set) -/
theorem iter_ok {Q : Value → Shared → Prop} (ho : s.heap.get? S = some o) (hex : o.ExactSet) (hd : o.data = .set es ep t) (r : RowG w es t)
    (hQ : ∀ (h' : Heap) d' J T first ys, h'.get? J = some (itObj first 0 S es.size ep) → s.heap.objs.size ≤ J → (T = S ∨ (s.heap.objs.size ≤ T ∧ T ≠ J)) → J < h'.objs.size → T < h'.objs.size → Fst w S es ep t T ys h' 0 first → (∀ b q, s.heap.get? b = some q → h'.get? b = some q) → Q (.ref J) { s with heap := h', drawn := d' }) :
    wpAny (model prog w) A (pyIter (.ref S)) Q E s := by
  have hT : s.TypeIs (.ref S) "set" := ⟨_, ho, hex.1⟩
  have few := fits_of_scanBound r.few
  refine wpAny_pyIter_slot hT PySem.F.slot_set_iter (wpAny_call_entry PySem.F.slot_set_iter hT e_iter ?_ (PySem.F.args_set_iter_1 _))
  unfold Builtin.«frozenset.__iter__»
  refine wpAny_bind (m := Builtin.Frozenset.slot0 "__iter__" ⟨[.ref S], []⟩) (wpAny_of_eq (a := S) rfl ?_)
  unfold Builtin.Frozenset.sizeOf setDrawn setsByText
  refine wpAny_bind (wpAny_bind (wpAny_setEntries_of ho hd r.fits (wpAny_pure ?_)))
  refine wpAny_bind ?_
  refine wpAny_bind (wpAny_setState_of ho hd r.fits ?_)
  dsimp only
  refine wpAny_bind (wpAny_bind (wpAny_askSetting (wpAny_pure (wpAny_pure ?_))))
  show wpAny _ _ (if (!w.params.followText "set-order" && (!t.plain && decide (es.size > 1))) = true then _ else _) _ _ s
  have lS : S < s.heap.objs.size := Heap.lt_size ho
  have fin : ∀ (first : Value) (h1 : Heap) d1 T ys, s.heap.objs.size ≤ h1.objs.size → (T = S ∨ (s.heap.objs.size ≤ T ∧ T ≠ h1.objs.size)) → T < h1.objs.size → (∀ b q, s.heap.get? b = some q → h1.get? b = some q) → Fst w S es ep t T ys h1 0 first →
      wpAny (model prog w) A.in1 (do ret (← newFields "set_iterator" [first, rawInt 0, .ref S, rawInt es.size, rawInt (← setEpoch S)])) (fun fin s' => ∃ v, fin = Fin.done (.ret v) ∧ ∃ T' r', s'.TypeIs v T' ∧ typeLookup (.type T') "__next__" = pure (some r') ∧ Q v s') E { s with heap := h1, drawn := d1 } := by
    intro first h1 d1 T ys hs hTT lT kp f
    refine wpAny_bind (wpAny_setEpoch_of (s := { s with heap := h1, drawn := d1 }) (kp S o ho) hd r.fits ?_)
    unfold newFields
    refine wpAny_bind (wpAny_newObj_type ?_ (by size_fits))
    have gJ : (h1.push (itObj first 0 S es.size ep)).get? h1.objs.size = some (itObj first 0 S es.size ep) := Heap.get?_push_size _ rfl
    refine wpAny_pure ⟨_, rfl, "set_iterator", _, ⟨_, gJ, rfl⟩, sl_next.lookup, ?_⟩
    refine hQ _ d1 h1.objs.size T first ys gJ hs hTT (by rw [Heap.size_push]; exact Nat.lt_succ_self _) (by rw [Heap.size_push]; exact Nat.lt_succ_of_lt lT) (f.move fun q e => Heap.get?_push_of_some _ e) fun b q e => Heap.get?_push_of_some _ (kp b q e)
  by_cases hb : w.params.followText "set-order" = true
  · rw [hb, if_neg (by simp)]
    exact wpAny_bind (wpAny_pure (fin (rawInt 0) s.heap s.drawn S _ (Nat.le_refl _) (.inl rfl) lS (fun _ _ e => e) (.text 0 hb)))
  · have hb' : w.params.followText "set-order" = false := by simpa using hb
    by_cases hp : (!t.plain && decide (es.size > 1)) = true
    · rw [hb', hp, if_pos (by rfl)]
      refine wpAny_bind (order_ok _ _ _ _ (by simp) fun ps d hpm => ?_)
      have hlen : ps.length = es.size := by simpa using hpm.length_eq
      refine wpAny_bind (wpAny_newTuple ?_ (by rw [List.length_map, hlen]; exact few))
      refine fin _ (s.heap.push { cls := .type "tuple", data := .seq (ps.map fun (i : Nat) => rawInt i).toArray }) d s.heap.objs.size _ (by rw [Heap.size_push]; exact Nat.le_succ _) (.inr ⟨Nat.le_refl _, ?_⟩) (by rw [Heap.size_push]; exact Nat.lt_succ_self _) (fun b q e => Heap.get?_push_of_some _ e) (.drawn ps hpm (Heap.get?_push_size _ rfl))
      rw [Heap.size_push]; exact Nat.ne_of_lt (Nat.lt_succ_self _)
    · have hp' : (!t.plain && decide (es.size > 1)) = false := by simpa using hp
      rw [hb', hp', if_neg (by simp)]
      refine wpAny_bind (wpAny_pure (fin (rawInt 0) s.heap s.drawn S _ (Nat.le_refl _) (.inl rfl) lS (fun _ _ e => e) (.plain 0 hb' hp' ?_)))
      obtain ⟨_, h2, _⟩ := below_ok t.place 0 r.good.rise
      rcases Nat.eq_zero_or_pos (SetTable.below t.place 0) with z | z
      · exact z
      · exfalso
        have hle := (below_ok t.place 0 r.good.rise).1
        have hl : 0 < t.place.toList.length := by rw [Array.length_toList]; omega
        have := h2 0 _ z (List.getElem?_eq_getElem hl)
        omega
end
end SetQ

/-! ### sorted(set(a list of whole numbers)) -/
namespace SetQ
open PySem PySem.Spec PyProof.Rows
section
variable {prog : Program} {w : World} {A : Around} {E : Value → Shared → Prop} {s : Shared} {S J T : Addr} {es : Array (Int × Value)} {ep i : Nat} {t : SetTable} {ys : List (Int × Value)} {ks : List Int} {o : Obj} {first : Value}
theorem e_siter : entryFor table "set_iterator.__iter__" = some Builtin.«dict_keyiterator.__iter__» := entryFor_alias (id' := "dict_keyiterator.__iter__") (by kernel_rfl) rfl (by decide +kernel) (by kernel_rfl)
theorem sl_siter : Slot "set_iterator" "__iter__" "set_iterator.__iter__" := .of (owner := "set_iterator") (n := "__iter__") (by rw [typeLookup_type, builtinLookup_eq_fast]; kernel_rfl) (by decide +kernel) (by decide +kernel) (by decide +kernel) (by first | exact .inl (by decide +kernel) | exact .inr (by decide +kernel)) (by rw [isSubtype_type]; kernel_rfl)
theorem a_siter (a : Value) : argsOk "set_iterator.__iter__" ⟨[a], []⟩ := by unfold argsOk; kernel_rfl
theorem walk_ok (hh : A.handled = none) (hd : o.data = .set es ep t) (r : RowG w es t) (nS : S ≠ J) (nT : T ≠ J) (hn : ys.length = es.size) :
    Walks prog w A J [J, S, T] [J] es.size (fun i v => ∃ e, ys[i]? = some e ∧ v = e.2) (fun i h => ∃ first, h.get? J = some (itObj first i S es.size ep) ∧ h.get? S = some o ∧ Fst w S es ep t T ys h i first) where
  sub := fun b hb => by simp at hb; simp [hb]
  frame := fun i h h' ⟨first, a, b, c⟩ k => ⟨first, k J (by simp) _ a, k S (by simp) _ b, c.move fun q e => k T (by simp) q e⟩
  item := fun i s Q E hi ⟨first, a, b, c⟩ hQ => by
    have hy : i < ys.length := by omega
    refine next_item a b hd r c (List.getElem?_eq_getElem hy) fun h' f' g sb fz => ?_
    exact hQ _ h' s.toks ⟨_, List.getElem?_eq_getElem hy, rfl⟩ ⟨f', g, (sb.2 S nS).trans b, fz h' fun q e => (sb.2 T nT).trans e⟩ fun b q hb e => (sb.2 b (fun z => hb (by simp [z]))).trans e
  done := fun s Q E ⟨first, a, b, c⟩ hQ => next_end hh a b hd r c fun h' eb => hQ h' s.toks fun b q hb e => eb b q (fun z => hb (by simp [z])) e
  self := fun i s Q E ⟨first, a, b, c⟩ hQ => by
    have hT : s.TypeIs (.ref J) "set_iterator" := ⟨_, a, rfl⟩
    refine wpAny_pyIter_slot hT sl_siter (wpAny_call_entry sl_siter hT e_siter ?_ (a_siter _))
    exact wpAny_pure ⟨_, rfl, "set_iterator", _, hT, sl_next.lookup, hQ⟩
theorem items_perm {acc : Array Value} {ys : List (Int × Value)} (h : ItemsOf (fun i v => ∃ e, ys[i]? = some e ∧ v = e.2) acc ys.length) : acc.toList = ys.map (·.2) := by
  refine List.ext_getElem? fun i => ?_
  by_cases hl : i < acc.size
  · obtain ⟨e, h1, h2⟩ := h.2 i acc[i] (Array.getElem?_eq_getElem hl)
    rw [Array.getElem?_toList, Array.getElem?_eq_getElem hl, List.getElem?_map, h1, h2]; rfl
  · have hl2 : ¬ i < ys.length := by rw [← h.1]; exact hl
    rw [List.getElem?_eq_none (by simp; omega), List.getElem?_eq_none (by simp; omega)]
theorem ints_are : ∀ {ys : List (Int × Value)}, (∀ e ∈ ys, IntE e) → IntsAre (ys.map (·.2)) (ys.map kz)
  | [], _ => .nil
  | e :: ys, h => by
    obtain ⟨k, tk, rfl⟩ := h e List.mem_cons_self
    exact .cons k tk (ints_are fun e he => h e (List.mem_cons_of_mem _ he))
theorem hint_len : splitId "set.__len__" = some ("set", "__len__") := by decide +kernel
/-- the elements of a set, one by one -/
theorem collect_G {Q : List Value → Shared → Prop} (hh : A.handled = none) (ho : s.heap.get? S = some o) (hex : o.ExactSet) (hd : o.data = .set es ep t) (r : RowG w es t)
    (hQ : ∀ (h' : Heap) d' tk (ys : List (Int × Value)), ys.Perm es.toList → s.heap.objs.size < h'.objs.size → (∀ b q, s.heap.get? b = some q → h'.get? b = some q) → Q (ys.map (·.2)) { s with heap := h', drawn := d', toks := tk }) : wpAny (model prog w) A (collect (.ref S)) Q E s := by
  have lS : S < s.heap.objs.size := Heap.lt_size ho
  unfold collect
  refine wpAny_bind (wpAny_runValue (codeAny_builtin PySem.F.entry_proto_collect ?_))
  rw [Around.under_plainId PySem.F.plain_proto_collect _]
  refine wpAny_bind (m := newList []) (wpAny_newObj_type (wpAny_pure ⟨plainId_quiet PySem.F.plain_list_iadd _, codeAny_builtin PySem.F.entry_list_iadd ?_⟩))
  rw [Around.under_plainId PySem.F.plain_list_iadd _]
  generalize hh1 : s.heap.push { cls := .type "list", data := .seq ([] : List Value).toArray } = h1
  have k1 : ∀ b q, s.heap.get? b = some q → h1.get? b = some q := fun b q e => by rw [← hh1]; exact Heap.get?_push_of_some _ e
  have gL : h1.get? s.heap.objs.size = some { cls := .type "list", data := .seq #[] } := by rw [← hh1]; exact Heap.get?_push_size _ rfl
  have s1 : h1.objs.size = s.heap.objs.size + 1 := by rw [← hh1, Heap.size_push]
  have hT : Shared.TypeIs { s with heap := h1 } (.ref S) "set" := ⟨_, k1 S o ho, hex.1⟩
  have nL : Builtin.List.listSameRef (.ref s.heap.objs.size) (.ref S) = false := by
    show (s.heap.objs.size == S) = false
    rw [beq_eq_false_iff_ne]
    exact Nat.ne_of_gt lS
  show wpAny _ A.in1 (Builtin.List.listExtendWith (.ref s.heap.objs.size) (.ref S) (.ref s.heap.objs.size)) _ _ { s with heap := h1 }
  unfold Builtin.List.listExtendWith
  refine wpAny_bind (wpAny_typeOf hT ?_)
  rw [if_neg (by rw [nL]; decide)]
  refine wpAny_bind (iter_ok (s := { s with heap := h1 }) (k1 S o ho) hex hd r fun h2 d2 J T first ys gJ lJ hTT lJ2 lT2 f k2 => ?_)
  have hT2 : Shared.TypeIs { s with heap := h2, drawn := d2 } (.ref S) "set" := ⟨_, k2 S o (k1 S o ho), hex.1⟩
  have gL2 := k2 _ _ gL
  have hn : ys.length = es.size := by have := f.perm.length_eq; simpa using this
  have lJ' : s.heap.objs.size + 1 ≤ J := by rw [← s1]; exact lJ
  have nSJ : S ≠ J := fun z => Nat.lt_irrefl S (Nat.lt_of_lt_of_le lS (Nat.le_trans (Nat.le_succ _) (z ▸ lJ')))
  have nTJ : T ≠ J := by
    rcases hTT with z | z
    · rw [z]; exact nSJ
    · exact z.2
  have nLf : s.heap.objs.size ∉ [J, S, T] := by
    intro z
    simp only [List.mem_cons, List.not_mem_nil, or_false] at z
    rcases z with z | z | z
    · exact Nat.lt_irrefl J (Nat.lt_of_lt_of_le (Nat.lt_succ_self J) (z ▸ lJ'))
    · exact Nat.ne_of_gt lS z
    · rcases hTT with y | y
      · exact Nat.ne_of_gt lS (z.trans y)
      · have y1 : s.heap.objs.size + 1 ≤ T := by rw [← s1]; exact y.1
        exact Nat.lt_irrefl T (Nat.lt_of_lt_of_le (Nat.lt_succ_self T) (z ▸ y1))
  refine wpAny_bind (wpAny_holding ?_)
  unfold Builtin.List.listLengthHint
  refine wpAny_bind (wpAny_specialOf hT2 set_len ?_)
  generalize hid : ("set.__len__" : String) = id0
  wp_delta
  rw [show splitId id0 = some ("set", "__len__") from by rw [← hid]; exact hint_len]
  subst hid
  dsimp only
  refine wpAny_bind (wpAny_isInstance (b := true) hT2 sub_set_self ?_)
  rw [if_neg (by decide), if_pos (by decide +kernel)]
  refine wpAny_bind (wpAny_typeOf hT2 (wpAny_pure ?_))
  rw [if_pos (by decide +kernel)]
  refine wpAny_bind (wpAny_rule (wpAny_bind ?_))
  unfold Builtin.List.listTouch
  show wpAny _ A.in1 (updateSeq s.heap.objs.size (·.push .none) >>= fun _ => updateSeq s.heap.objs.size (·.pop)) _ _ _
  refine wpAny_bind (wpAny_updateSeq (s := { s with heap := h2, drawn := d2 }) gL2 rfl ?_)
  have g3 := Heap.get?_update_self (Obj.mapSeq (·.push Value.none)) gL2 rfl
  refine wpAny_updateSeq (s := { s with heap := h2.update s.heap.objs.size (Obj.mapSeq (·.push Value.none)), drawn := d2 }) g3 rfl ?_
  have g4 := Heap.get?_update_self (Obj.mapSeq (·.pop)) g3 rfl
  have k4 : ∀ b q, b ≠ s.heap.objs.size → h2.get? b = some q → ((h2.update s.heap.objs.size (Obj.mapSeq (·.push Value.none))).update s.heap.objs.size (Obj.mapSeq (·.pop))).get? b = some q :=
    fun b q hb e => (Heap.get?_update_other _ _ (Ne.symm hb)).trans ((Heap.get?_update_other _ _ (Ne.symm hb)).trans e)
  generalize (h2.update s.heap.objs.size (Obj.mapSeq (·.push Value.none))).update s.heap.objs.size (Obj.mapSeq (·.pop)) = h4 at g4 k4 ⊢
  obtain ⟨c4, g4'⟩ : ∃ c, h4.get? s.heap.objs.size = some { cls := .type "list", dict := none, data := .seq #[] c, slots := #[] } := ⟨_, g4⟩
  have nb : ∀ b, b ∈ [J, S, T] → b ≠ s.heap.objs.size := fun b hb z => nLf (z ▸ hb)
  have W := (walk_ok (prog := prog) (A := A.in1) (J := J) (show A.handled = none from hh) hd r nSJ nTJ hn).toS
  refine wpAny_pure ⟨plainId_quiet PySem.F.plain_extend_loop _, codeAny_extend_loopS W (fits_of_scanBound r.few) _ nLf _ es.size 0 _ _ _ rfl (Nat.zero_le _)
    ⟨first, k4 J _ (nb J (by simp)) gJ, k4 S _ (nb S (by simp)) (k2 S _ (k1 S o ho)), f.move fun q e => k4 T q (nb T (by simp)) e⟩ g4' (ItemsOf.nil _) fun s5 acc c5 hm g5 hacc => ?_⟩
  refine wpAny_bind (m := load s.heap.objs.size) (wpAny_load g5 (wpAny_pure ?_))
  rw [← hn] at hacc
  have hl := items_perm hacc
  obtain ⟨h', g', d', tk', os'⟩ := s5
  have eg : g' = s.gens := hm.gens
  have eo : os' = s.os := hm.os
  subst eg; subst eo
  show Q acc.toList _
  rw [hl]
  refine hQ h' d' tk' ys f.perm (Heap.lt_size g5) fun b q e => ?_
  have lb : b < s.heap.objs.size := Heap.lt_size e
  refine hm.heap b q (fun z => ?_) (k4 b q (Nat.ne_of_lt lb) (k2 b q (k1 b q e)))
  rcases List.mem_cons.mp z with z | z
  · exact Nat.ne_of_lt lb z
  · have z' : b = J := by simpa using z
    exact Nat.lt_irrefl b (Nat.lt_of_lt_of_le lb (Nat.le_trans (Nat.le_succ _) (z' ▸ lJ')))

theorem collect_ok {Q : List Value → Shared → Prop} (hh : A.handled = none) (hS : SetZ w s.heap S ks)
    (hQ : ∀ (h' : Heap) d' tk vs ns, IntsAre vs ns → ns.Perm ks → s.heap.objs.size < h'.objs.size → (∀ b q, s.heap.get? b = some q → h'.get? b = some q) → Q vs { s with heap := h', drawn := d', toks := tk }) : wpAny (model prog w) A (collect (.ref S)) Q E s := by
  obtain ⟨o, es, ep, t, ho, hex, hd, r⟩ := hS
  refine collect_G hh ho hex hd r.g fun h' d' tk ys hp lt kp => ?_
  have hie : ∀ e ∈ ys, IntE e := fun e he => r.iz e (hp.mem_iff.mp he)
  exact hQ h' d' tk _ _ (ints_are hie) ((hp.map kz).trans r.perm) lt kp
/-- sorted(set) -/
theorem sorted_ok {Q : Value → Shared → Prop} (hh : A.handled = none) (hS : SetZ w s.heap S ks) (h64 : ks.length < 64)
    (hQ : ∀ (h' : Heap) d' tk p vs ns n, IntsAre vs ns → ns.Perm ks → ns.Pairwise (· ≤ ·) → s.heap.objs.size ≤ p → h'.get? p = some { cls := .type "list", dict := none, data := .seq vs.toArray n, slots := #[] } → (∀ b q, s.heap.get? b = some q → h'.get? b = some q) → Q (.ref p) { s with heap := h', drawn := d', toks := tk }) :
    wpAny (model prog w) A (call (.builtin "sorted") [.ref S]) Q E s := by
  refine Calls.call_function_entry kind_sorted plain_sorted entry_sorted (args_sorted1 _) ?_
  unfold Builtin.«sorted»
  refine wpAny_bind (m := checkCount "sorted" 1 1 _) (wpAny_pure (wpAny_bind (collect_ok (show A.in1.handled = none from hh) hS fun h1 d1 tk1 vs ns hi hp lt1 k1 => ?_)))
  have hlen : vs.length < 64 := by rw [hi.length, hp.length_eq]; exact h64
  refine wpAny_bind (wpAny_newList ?_ (by rw [sizeLine_eq]; omega))
  have g1 : (h1.push (seqObj "list" vs.toArray 0)).get? h1.objs.size = some (seqObj "list" vs.toArray 0) := Heap.get?_push_size _ rfl
  have le : s.heap.objs.size ≤ h1.objs.size := Nat.le_of_lt lt1
  refine wpAny_bind (wpAny_holding (wpAny_call_entry slot_list_sort ⟨_, g1, rfl⟩ entry_list_sort (list_sort_tree (s := { s with heap := h1.push (seqObj "list" vs.toArray 0), drawn := d1, toks := tk1 }) g1 hi hlen fun out ns' a1 a2 a3 => ⟨_, rfl, ?_⟩) (args_list_sort _)))
  obtain ⟨e2, g2⟩ := sortedHeap_at (h := h1.push (seqObj "list" vs.toArray 0)) (out := out) g1
  refine wpAny_pure ⟨_, rfl, hQ _ d1 tk1 _ out.toList ns' e2 a1 (a2.trans hp) a3 le (by rw [g2]) fun b q e => ?_⟩
  have lb : b < h1.objs.size := Heap.lt_size (k1 b q e)
  rw [sortedHeap_old (Nat.ne_of_lt lb) (by rw [Heap.size_push]; exact Nat.lt_succ_of_lt lb)]
  exact Heap.get?_push_of_some _ (k1 b q e)
end

theorem mem_addK (ks : List Int) (k x : Int) : x ∈ addK ks k ↔ x ∈ ks ∨ x = k := by
  unfold addK
  split
  · rename_i h
    obtain ⟨y, hy, e⟩ := List.any_eq_true.mp h
    have e' : y = k := eq_of_beq e
    subst e'
    exact ⟨.inl, fun z => z.elim id fun z => z ▸ hy⟩
  · simp
theorem nodup_addK {ks : List Int} {k : Int} (h : ks.Nodup) : (addK ks k).Nodup := by
  unfold addK
  split
  · exact h
  · rename_i hn
    refine List.nodup_append.mpr ⟨h, by simp, fun a ha b hb z => ?_⟩
    have e : b = k := by simpa using hb
    subst e; subst z
    exact hn (List.any_eq_true.mpr ⟨a, ha, beq_self_eq_true _⟩)
theorem mem_dd (val : Nat → Int) : ∀ (i : Nat) (x : Int), x ∈ dd val i ↔ ∃ j, j < i ∧ val j = x
  | 0, x => by simp [dd]
  | i + 1, x => by
    rw [dd_succ, mem_addK, mem_dd val i]
    constructor
    · rintro (⟨j, hj, e⟩ | e)
      · exact ⟨j, by omega, e⟩
      · exact ⟨i, by omega, e.symm⟩
    · rintro ⟨j, hj, e⟩
      rcases Nat.lt_or_ge j i with z | z
      · exact .inl ⟨j, z, e⟩
      · have e2 : j = i := by omega
        subst e2
        exact .inr e.symm
theorem nodup_dd (val : Nat → Int) : ∀ i, (dd val i).Nodup
  | 0 => by simp [dd]
  | i + 1 => by rw [dd_succ]; exact nodup_addK (nodup_dd val i)
end SetQ
namespace L2
open PySem PySem.Spec PyProof.Rows
section
variable {X : Cx}
theorem vals_at : ∀ {ns : List Int} {vs : List Value}, Vals (ns.map V.int) vs → ∀ {i : Nat} {v : Value}, vs[i]? = some v → ∃ t, v = Value.int (ns.getD i 0) t
  | [], _, .nil, i, v, h => by simp at h
  | n :: ns, _, .cons r rs, 0, v, h => by
    obtain ⟨t, e⟩ := r
    rw [List.getElem?_cons_zero] at h
    exact ⟨t, by rw [← Option.some.inj h, e]; rfl⟩
  | n :: ns, _, .cons r rs, i + 1, v, h => by
    obtain ⟨t, e⟩ := vals_at rs (i := i) (v := v) (by simpa using h)
    exact ⟨t, by rw [e]; rfl⟩
theorem Inv.drew {pins : List (Addr × Obj)} {σ : St} {H : Hp} {s : Shared} {d' : Drawn} (I : Inv X pins σ H s) : Inv X pins σ H { s with drawn := d' } :=
  I.step (h' := s.heap) (H' := H) (g' := s.gens) (t' := s.toks) (d' := d') (ch := []) (fun b hb => nomatch hb) (fun b o _ _ _ e _ => e) (fun b o _ _ _ e _ => ⟨o.slots, e⟩) (fun _ _ _ _ n => n) (fun b o _ e => ⟨o, e⟩) (fun _ _ e => e) (fun _ _ _ e => e)
    (fun b ps e => ⟨#[], by rw [e]; simp⟩) (fun m h => h) I.hok I.bare
theorem strict {ns : List Int} (h : ns.Pairwise (· ≤ ·)) (hn : ns.Nodup) : ns.Pairwise (· < ·) := (List.Pairwise.and h hn).imp fun ⟨a, b⟩ => by omega
/-- sorted(set(l)), l a list of fewer than 64 whole numbers -/
def tSortSet (tl : TA) : TE := fun σ H Q => tl σ H fun vs H1 => ∃ (a : Addr) (ns : List Int), vs = [.ref a] ∧ H1 a = some (.lst (ns.map V.int)) ∧ ns.length < 64 ∧
  ∀ (p : Addr) (ms : List Int), H1 p = none → ms.Pairwise (· < ·) → (∀ x, x ∈ ms ↔ x ∈ ns) → Q (.ref p) (upd H1 p (.lst (ms.map V.int)))
theorem pe_sortset {l : Expr} {tl : TA} {p1 p2 pos1 pos2 : Pos} (hc : X.calm = true) (g1 : Gl X "sorted") (m1 : X.mg "sorted" = none) (b1 : bootBuiltins "sorted" = some (.builtin "sorted")) (g2 : Gl X "set") (m2 : X.mg "set" = none) (b2 : bootBuiltins "set" = some (.type "set"))
    (ha : PA X [l] tl) (hs1 : starEach [.Call (.Name "set" p2) [l] [] pos2] X.env = (false, eval (.Call (.Name "set" p2) [l] [] pos2) X.env) :: starEach [] X.env := by rfl)
    (hs2 : starEach [l] X.env = (false, eval l X.env) :: starEach [] X.env := by rfl) : PE X (.Call (.Name "sorted" p1) [.Call (.Name "set" p2) [l] [] pos2] [] pos1) (tSortSet tl) := by
  intro pins s σ H Q I h
  refine wpAny_Call_Name_kw (ld_blt I g1 m1 b1 ?_)
  refine PyProof.Rows.callWith_builtin1 ?_ hs1 rfl
  rw [hs1]
  show wpAny _ _ (spliced ((false, eval (.Call (.Name "set" p2) [l] [] pos2) X.env) :: backTo pos1 (starEach [] X.env))) _ _ s
  refine Calls.spliced_cons ?_
  refine wpAny_Call_Name_kw (ld_blt I g2 m2 b2 ?_)
  refine PyProof.Rows.callWith_type1 (thn (ha pos2 pins s σ H _ I h) fun us s1 ⟨vs, H1, I1, r1, q1⟩ => ?_) hs2 rfl
  obtain ⟨a, ns, rfl, hq, h64, q⟩ := q1
  obtain ⟨u, rfl, ru⟩ := vals1 r1
  cases ru
  obtain ⟨its, rv, pl, hz⟩ := I1.list (SqL.of hq)
  have hlen := rv.length
  rw [List.length_map] at hlen
  have hsz : its.toArray.size = ns.length := by rw [List.size_toArray]; exact hlen.symm
  have hd : X.A.handled = none := I1.ok.hd hc
  refine SetQ.make_ok (val := fun i => ns.getD i 0) hd pl.isList (fun i v hv => vals_at rv (by simpa using hv)) (by rw [hsz]; unfold scanBound; omega) fun h2 tk2 z k2 => ?_
  refine Calls.spliced_nil ?_
  have I2 : Inv X pins σ H1 { s1 with heap := h2, toks := tk2 } := I1.kept (t' := tk2) k2
  have dlen := SetQ.dd_len (fun i => ns.getD i 0) its.toArray.size
  refine SetQ.sorted_ok (s := { s1 with heap := h2, toks := tk2 }) hd z (by rw [hsz] at dlen ⊢; omega) fun h3 d3 tk3 p vs ms n hi hp ho lp gp k3 => ?_
  have hml : ms.length < 64 := by rw [hp.length_eq]; rw [hsz] at dlen ⊢; omega
  have fr : H1 p = none := I2.hok.fresh lp
  have I3 : Inv X pins σ (upd H1 p (.lst (ms.map V.int))) { s1 with heap := h3, drawn := d3, toks := tk3 } :=
    (I2.drew (d' := d3)).laid (t' := tk3) k3 lp ⟨by rw [List.length_map, sizeLine_eq]; omega, vs, n, vals_ints hi, gp⟩
  refine ⟨.ref p, _, I3, rfl, q p ms fr (strict ho (hp.nodup_iff.mpr (SetQ.nodup_dd _ _))) fun x => ?_⟩
  rw [hp.mem_iff, SetQ.mem_dd, hsz]
  constructor
  · rintro ⟨j, hj, e⟩
    rw [← e]
    simp [hj]
  · intro hx
    obtain ⟨j, hj, e⟩ := List.mem_iff_getElem.mp hx
    exact ⟨j, hj, by simp [hj, e]⟩
end
end L2

/-! ### d.setdefault(a tuple, x) -/
namespace DictQ
open PySem
section
variable {prog : Program} {w : World} {K : Type} [DecidableEq K] {knd : HeapKind prog w K} {A : Around} {E : Value → Shared → Prop} {s : Shared} {d a : Addr} {k : K} {xs : List (K × Addr × Value)}
theorem setdef_ok {x : Value} {Q : Value → Shared → Prop} (hu : knd.room A) (hkey : knd.is s.heap k a) (hm : s.heap.DictOfH knd d xs) (old : ∀ p, atKey xs k = some p → Q p.2 { s with toks := s.toks + knd.draws k })
    (new : atKey xs k = none → ∀ h', h'.DictOfH knd d (storedH xs k a x) → Heap.SameBut d s.heap h' → Q x { s with heap := h', toks := s.toks + knd.draws k }) (hz : xs.length ≤ sizeLine) :
    wpAny (model prog w) A (dictSetDefault d (.ref a) x) Q E s := by
  obtain ⟨o, es, ep, ho, hc, hd, he, his, hn⟩ := hm
  have hsz : es.size = xs.length := size_of_entries he
  unfold dictSetDefault
  refine wpAny_holding (wpAny_bind (knd.pyHash hu hkey (wpAny_bind (wpAny_dictFind_heap (s := { s with toks := s.toks + knd.draws k }) hu hkey ho hd he his hn (fun hno => ?_) fun j p hj => ?_))))
  · have z : atKey xs k = none := atKey_none_of_get hno
    have nk : k ∉ xs.map (·.1) := not_mem_keys_of_get hno
    have sb : Heap.SameBut d s.heap (s.heap.update d (Obj.mapDictKeys (·.push ⟨knd.hash k, .ref a, x⟩))) := Heap.SameBut.update ..
    refine wpAny_bind (wpAny_rule (wpAny_bind (wpAny_updateDictKeys (hz := by omega) (s := { s with toks := s.toks + knd.draws k }) ho hd (wpAny_pure (new z _ ?_ sb)))))
    refine ⟨_, _, ep + 1, Heap.get?_update_self _ ho (Obj.isFreed_of_dict (Obj.data_mapDictKeys hd _)), hc.mapDictKeys _, Obj.data_mapDictKeys hd _, ?_, ?_, ?_⟩ <;> rw [storedH_new z]
    · simp [he, entryOfKey]
    · intro y hy
      rcases List.mem_append.mp hy with hy | hy
      · exact knd.keeps (his y hy) ho hd sb
      · have e : y = (k, a, x) := by simpa using hy
        subst e
        exact knd.keeps hkey ho hd sb
    · rw [List.map_append]
      refine List.nodup_append.mpr ⟨hn, by simp, fun y hy y' hy' e => ?_⟩
      have e2 : y' = k := by simpa using hy'
      exact nk (by rw [← e2, ← e]; exact hy)
  · refine wpAny_bind (wpAny_dictEntries (s := { s with toks := s.toks + knd.draws k }) ho hd ?_)
    rw [entry_at he j, hj]
    exact wpAny_bind (wpAny_rule (wpAny_pure (old p (atKey_of_get hn hj))))
theorem meets_setdef (d a : Addr) (hd : (d == sysModules) = false) (x : Value) :
    MeetsIn prog w (Builtin.«dict.setdefault» ⟨[.ref d, .ref a, x], []⟩) (fun A R s => knd.room A.in1 ∧ ∃ k xs, knd.is s.heap k a ∧ s.heap.DictOfH knd d xs ∧ xs.length ≤ sizeLine ∧
      (∀ p, atKey xs k = some p → R (.ok (.ret p.2)) { s with toks := s.toks + knd.draws k }) ∧
      (atKey xs k = none → ∀ h', h'.DictOfH knd d (storedH xs k a x) → Heap.SameBut d s.heap h' → R (.ok (.ret x)) { s with heap := h', toks := s.toks + knd.draws k })) :=
  .of_wp fun A R s ⟨hu, k, xs, hkey, hm, hz, h1, h2⟩ => by
    unfold Builtin.«dict.setdefault» Builtin.Dict.keyAndDefault
    refine wpAny_bind (wpAny_bind (wpAny_notOrdered_dict hm.typeIs (wpAny_pure ?_)))
    show wpAny _ _ (if (d == sysModules) = true then _ else (dictSetDefault d (.ref a) x >>= _)) _ _ s
    rw [hd, if_neg Bool.false_ne_true]
    exact wpAny_bind (setdef_ok hu hkey hm (fun p hp => wpAny_pure ⟨p.2, rfl, h1 p hp⟩) (fun hn h' a1 a2 => wpAny_pure ⟨x, rfl, h2 hn h' a1 a2⟩) hz)
end
end DictQ
namespace L2
open PySem PySem.Spec PyProof.Rows
section
variable {X : Cx} {o e f : Expr} {apos cpos : Pos} {td ty tx : TE}
/-- d.setdefault(t, x): what is there, or x, which is put there -/
def tDSetdef (td ty tx : TE) : TE := fun σ H Q => td σ H fun x H1 => ∃ a, x = .ref a ∧ IsD H1 a ∧ ty σ H1 fun y H2 => tx σ H2 fun z H3 => ∃ kvs k b, H3 a = some (.dT kvs) ∧ y = .ref b ∧ H3 b = some (.tup (k.map kV)) ∧ kvs.length < sizeLine ∧
  (∀ v, valV kvs k = some v → Q v H3) ∧ (valV kvs k = none → Q z (upd H3 a (.dT (putK kvs k z))))
theorem pe_dsetdef (hu : X.A.units + 1 < cLine) (ho : PE X o td) (he : PE X e ty) (hf : PE X f tx) (m : M2 X o "setdefault" apos e f cpos) : PE X (.Call (.Attribute o "setdefault" apos) [e, f] [] cpos) (tDSetdef td ty tx) := by
  intro pins s σ H Q I h
  refine wpAny_Call_method m.base m.few m.line PySem.F.plainAttrs_dict PySem.F.slot_dict_setdefault PySem.F.type_dict_setdefault (thn (ho pins s σ H _ I h) fun u s1 ⟨x, H1, I1, rx, a, ex, d, q1⟩ => ?_)
  subst ex
  obtain rfl : u = Value.ref a := rx
  obtain ⟨t1, t2, _⟩ := isD_at I1 d
  refine ⟨t1, t2, ?_⟩
  rw [m.trees]
  refine Calls.callWith_builtin rfl (Calls.evalArgs_plain (Calls.spliced_cons (thn (he pins s1 σ H1 _ I1 q1) fun iv s2 ⟨y, H2, I2, ry, q2⟩ =>
    Calls.spliced_cons (thn (hf pins s2 σ H2 _ I2 q2) fun fv s3 ⟨z, H3, I3, rz, kvs, k, b, ea, ey, eb, hl, q3, q4⟩ => Calls.spliced_nil ?_))))
  subst ey
  cases (show iv = Value.ref b from ry)
  obtain ⟨hz, hd, xs, rel, dd⟩ := dt_of I3.hok ea
  have hz' : xs.length ≤ sizeLine := by rw [← Paired.length rel]; exact hz
  refine call_meetsIn PySem.F.slot_dict_setdefault dd.typeIs PySem.F.entry_dict_setdefault (PySem.F.args_dict_setdefault_3 _ _ _) (DictQ.meets_setdef (knd := tupleKind (mixKind X.prog X.w)) a b hd fv)
    ⟨tupleKind_room_in1 hu, k, xs, key_of I3.hok eb, dd, hz', fun p hp => ?_, fun hn h' dd' hs => ?_⟩
  · have r := rel.val k
    rw [hp] at r
    obtain ⟨v, e1, e2⟩ : ∃ v, valV kvs k = some v ∧ RelV v p.2 := by
      cases hv : valV kvs k with
      | none => rw [hv] at r; exact r.elim
      | some v => rw [hv] at r; exact ⟨v, rfl, r⟩
    exact ⟨v, H3, I3.tok _, e2, q3 v e1⟩
  · have r := rel.val k
    rw [hn] at r
    have e1 : valV kvs k = none := by
      cases hv : valV kvs k with
      | none => rfl
      | some v => rw [hv] at r; exact r.elim
    obtain ⟨q, es, ep, hq, h2, h3, h4, _, h5⟩ := dd'
    have hl' : (putK kvs k z).length ≤ sizeLine := by have := length_putK kvs k z; omega
    refine ⟨z, _, d_write (ob := .dT (putK kvs k z)) I3 (by rw [ea]; exact True.intro) hs ⟨q, hq⟩ ⟨hl', hd, _, (rel.put k eb rz).keeps fun c ys ec => ?_, q, es, ep, hq, h2, h3, h4, h5⟩, rz, q4 e1⟩
    rw [upd_ne (ne_of ec ea (fun z => nomatch z))]
    exact ec
end
end L2

/-! ### comprehensions over pairs: two names, in slots 0 and 1 -/
namespace L2
open PySem PySem.Spec PyProof.Rows
abbrev g2 (K : PySem.W.Frag) : TG := gTup K 2 (gCons (gName 0) (gCons (gName 1) gNil))
def CN2 (σ0 : St) (D : Addr) (Pv : Nat → List V → Hp → Prop) (i : Nat) : St → Hp → Prop := fun σ H => (∃ v u, σ = (σ0.set 0 v).set 1 u) ∧ ∃ ys, H D = some (.lst ys) ∧ Pv i ys H
def CE2 (σ0 : St) (D : Addr) (Pv : Nat → List V → Hp → Prop) (i : Nat) (σ : St) : VK := fun y H => ∃ ys, H D = some (.lst ys) ∧ ys.length < sizeLine ∧ CN2 σ0 D Pv i σ (upd H D (.lst (ys ++ [y])))
theorem CE2.mk {σ0 : St} {D : Addr} {Pv : Nat → List V → Hp → Prop} {i : Nat} {v u : Option V} {y : V} {H : Hp} {ys : List V} (hD : H D = some (.lst ys)) (hl : ys.length < sizeLine) (h : Pv i (ys ++ [y]) (upd H D (.lst (ys ++ [y])))) : CE2 σ0 D Pv i ((σ0.set 0 v).set 1 u) y H :=
  ⟨ys, hD, hl, ⟨v, u, rfl⟩, _, upd_same, h⟩
theorem CN2.mk {σ0 : St} {D : Addr} {Pv : Nat → List V → Hp → Prop} {i : Nat} {v u : Option V} {H : Hp} {ys : List V} (hD : H D = some (.lst ys)) (h : Pv i ys H) : CN2 σ0 D Pv i ((σ0.set 0 v).set 1 u) H := ⟨⟨v, u, rfl⟩, ys, hD, h⟩
theorem set_again (σ0 : St) (a b a' b' : Option V) : (((σ0.set 0 a).set 1 b).set 0 a').set 1 b' = (σ0.set 0 a').set 1 b' := by
  cases σ0 with
  | nil => rfl
  | cons x r => cases r with
    | nil => rfl
    | cons y r => rfl
theorem comp_pairs {K : PySem.W.Frag} {J : It} {n : Nat} {xs : Nat → V × V} {D : Addr} {tt : TT} {te : TE} {σ0 : St} {H1 : Hp} {Q : VK} (Pv : Nat → List V → Hp → Prop) (h0 : Pv 0 [] (upd H1 D (.lst [])))
    (hgo : ∀ i ys H, i < n → Pv i ys H → J.go i H) (hst : ∀ ys H, Pv n ys H → J.stop n H) (hy : ∀ i ys H x H', i < n → Pv i ys H → J.yld i H x H' → ∃ p, H p = none ∧ x = .ref p ∧ H' = upd H p (.tup [(xs i).1, (xs i).2]))
    (hs : ∀ i ys H p, i < n → Pv i ys H → H D = some (.lst ys) → H p = none → tt ((σ0.set 0 (some (xs i).1)).set 1 (some (xs i).2)) (upd H p (.tup [(xs i).1, (xs i).2])) fun b H4 =>
      if b = true then te ((σ0.set 0 (some (xs i).1)).set 1 (some (xs i).2)) H4 (CE2 σ0 D Pv (i + 1) ((σ0.set 0 (some (xs i).1)).set 1 (some (xs i).2))) else CN2 σ0 D Pv (i + 1) ((σ0.set 0 (some (xs i).1)).set 1 (some (xs i).2)) H4)
    (hd : ∀ ys H, Pv n ys H → H D = some (.lst ys) → Q (.ref D) H) :
    CompRun J (g2 K) tt te Q σ0 H1 D := by
  refine ⟨fun i m σ H => m = n - i ∧ i ≤ n ∧ (σ = σ0 ∨ ∃ v u, σ = (σ0.set 0 v).set 1 u) ∧ ∃ ys, H D = some (.lst ys) ∧ Pv i ys H, ⟨n, by simp, Nat.zero_le _, .inl rfl, [], upd_same, h0⟩, ?_⟩
  rintro i m σ H ⟨rfl, hi, hσ, ys, hD, p⟩
  by_cases hlt : i < n
  · refine .inr ⟨hgo i ys H hlt p, CN2 σ0 D Pv (i + 1), fun σ' H' ⟨a1, a2⟩ => ⟨n - (i + 1), by omega, rfl, hlt, .inr a1, a2⟩, fun x H' y => ?_⟩
    obtain ⟨q, hq, rfl, rfl⟩ := hy i ys H x H' hlt p y
    have eσ : (σ.set 0 (some (xs i).1)).set 1 (some (xs i).2) = (σ0.set 0 (some (xs i).1)).set 1 (some (xs i).2) := by
      rcases hσ with rfl | ⟨v, u, rfl⟩
      · rfl
      · exact set_again _ _ _ _ _
    refine ⟨q, _, rfl, SqT.of upd_same, rfl, _, _, rfl, ?_⟩
    refine ⟨_, _, rfl, rfl, ?_⟩
    show tt ((σ.set 0 (some (xs i).1)).set 1 (some (xs i).2)) _ _
    rw [eσ]
    exact hs i ys H q hlt p hD hq
  · have e : i = n := by omega
    subst e
    exact .inl ⟨hst ys H p, hd ys H p hD⟩
/-- [.. for i, x in enumerate(l) if ..] -/
theorem comp_enum {K : PySem.W.Frag} {a D : Addr} {xs : List V} {tt : TT} {te : TE} {σ0 : St} {H1 : Hp} {Q : VK} (Pv : Nat → List V → Hp → Prop) (h0 : Pv 0 [] (upd H1 D (.lst [])))
    (hl : ∀ i ys H, i ≤ xs.length → Pv i ys H → H a = some (.lst xs))
    (hs : ∀ i x ys H p, xs[i]? = some x → Pv i ys H → H D = some (.lst ys) → H p = none → tt ((σ0.set 0 (some (.int (i : Nat)))).set 1 (some x)) (upd H p (.tup [.int (i : Nat), x])) fun b H4 =>
      if b = true then te ((σ0.set 0 (some (.int (i : Nat)))).set 1 (some x)) H4 (CE2 σ0 D Pv (i + 1) ((σ0.set 0 (some (.int (i : Nat)))).set 1 (some x))) else CN2 σ0 D Pv (i + 1) ((σ0.set 0 (some (.int (i : Nat)))).set 1 (some x)) H4)
    (hd : ∀ ys H, Pv xs.length ys H → H D = some (.lst ys) → Q (.ref D) H) : CompRun (Ite K a) (g2 K) tt te Q σ0 H1 D := by
  refine comp_pairs (n := xs.length) (xs := fun i => (.int (i : Nat), (xs[i]?).getD .non)) Pv h0 (fun i ys H hi p => ?_) (fun ys H p => ?_) (fun i ys H x H' hi p y => ?_) (fun i ys H p hi hp hD hf => ?_) hd
  · exact ⟨xs, xs[i], SqL.of (hl i ys H (Nat.le_of_lt hi) p), List.getElem?_eq_getElem hi⟩
  · exact ⟨xs, SqL.of (hl _ ys H (Nat.le_refl _) p), Nat.le_refl _⟩
  · obtain ⟨q, hq, e, z⟩ := y
    refine ⟨q, hq, e, ?_⟩
    rw [z xs xs[i] (SqL.of (hl i ys H (Nat.le_of_lt hi) p)) (List.getElem?_eq_getElem hi), List.getElem?_eq_getElem hi]; rfl
  · have e : xs[i]? = some xs[i] := List.getElem?_eq_getElem hi
    have z := hs i xs[i] ys H p e hp hD hf
    dsimp only
    rw [e]
    exact z
/-- [.. for x, y in zip(l, m)] -/
theorem comp_zip {K : PySem.W.Frag} {a b D : Addr} {xs zs : List V} {tt : TT} {te : TE} {σ0 : St} {H1 : Hp} {Q : VK} (Pv : Nat → List V → Hp → Prop) (hxz : xs.length = zs.length) (h0 : Pv 0 [] (upd H1 D (.lst [])))
    (hl : ∀ i ys H, i ≤ xs.length → Pv i ys H → H a = some (.lst xs) ∧ H b = some (.lst zs))
    (hs : ∀ i x z ys H p, xs[i]? = some x → zs[i]? = some z → Pv i ys H → H D = some (.lst ys) → H p = none → tt ((σ0.set 0 (some x)).set 1 (some z)) (upd H p (.tup [x, z])) fun b H4 =>
      if b = true then te ((σ0.set 0 (some x)).set 1 (some z)) H4 (CE2 σ0 D Pv (i + 1) ((σ0.set 0 (some x)).set 1 (some z))) else CN2 σ0 D Pv (i + 1) ((σ0.set 0 (some x)).set 1 (some z)) H4)
    (hd : ∀ ys H, Pv xs.length ys H → H D = some (.lst ys) → Q (.ref D) H) : CompRun (Itz K a b) (g2 K) tt te Q σ0 H1 D := by
  refine comp_pairs (n := xs.length) (xs := fun i => ((xs[i]?).getD .non, (zs[i]?).getD .non)) Pv h0 (fun i ys H hi p => ?_) (fun ys H p => ?_) (fun i ys H x H' hi p y => ?_) (fun i ys H p hi hp hD hf => ?_) hd
  · obtain ⟨h1, h2⟩ := hl i ys H (Nat.le_of_lt hi) p
    exact ⟨xs, zs, xs[i], zs[i]'(by omega), SqL.of h1, SqL.of h2, List.getElem?_eq_getElem hi, List.getElem?_eq_getElem (by omega)⟩
  · obtain ⟨h1, h2⟩ := hl _ ys H (Nat.le_refl _) p
    exact ⟨xs, zs, SqL.of h1, SqL.of h2, .inl (Nat.le_refl _)⟩
  · obtain ⟨h1, h2⟩ := hl i ys H (Nat.le_of_lt hi) p
    obtain ⟨q, hq, e, z⟩ := y
    have e1 : xs[i]? = some xs[i] := List.getElem?_eq_getElem hi
    have e2 : zs[i]? = some (zs[i]'(by omega)) := List.getElem?_eq_getElem (by omega)
    refine ⟨q, hq, e, ?_⟩
    rw [z xs zs _ _ (SqL.of h1) (SqL.of h2) e1 e2, e1, e2]; rfl
  · have e1 : xs[i]? = some xs[i] := List.getElem?_eq_getElem hi
    have e2 : zs[i]? = some (zs[i]'(by omega)) := List.getElem?_eq_getElem (by omega)
    have z := hs i _ _ ys H p e1 e2 hp hD hf
    dsimp only
    rw [e1, e2]
    exact z

section
variable {X : Cx} {o e : Expr} {t : TA} {apos cpos : Pos}
theorem pe_extendK (K : PySem.W.Frag) {to : TE} (ho : PE X o to) (ha : PA X [e] t) (h : X.K = K := by rfl) (hbase : attributeBase o "extend" X.env (eval o X.env) = eval o X.env := by rfl)
    (hfew : ((backTo cpos (starEach [e] X.env)).all (fun x => !x.1) && (backToKw cpos (keywordEach [] X.env)).all (fun x => x.1.isSome)
      && decide ([e].length + ([] : List Keyword).length + (if ([] : List Keyword).isEmpty then 0 else 1) < 30)) = true := by rfl)
    (hline : (apos.endLine == cpos.line) = true := by rfl) (hs : starEach [e] X.env = (false, eval e X.env) :: starEach [] X.env := by rfl) (hplain : (backTo cpos (starEach [] X.env)).any (·.1) = false := by rfl) :
    PE X (.Call (.Attribute o "extend" apos) [e] [] cpos) (tBM K "list" rExtend to t) := by subst h; exact pe_bm PySem.F.plainAttrs_list PySem.F.slot_list_extend PySem.F.type_list_extend mt_extend ho ha hbase hfew hline hs hplain
end
end L2

namespace L2
open PySem PySem.Spec PyProof.Rows
end L2

namespace TC
/-! sets of columns as numbers -/

/-! one pass over the rules -/
end TC

namespace TC
end TC

namespace K06
open PySem L2 TC
def top (i : Nat) : Stmt := PySem.Challenge.pw_tellscolumns_k06_tables.main.body.getD i (.Pass ⟨0, 0, 0, 0⟩)
abbrev s_is_number : Stmt := top 11
abbrev s_is_list : Stmt := top 12
abbrev s_is_count : Stmt := top 13
abbrev s_all_columns : Stmt := top 14
abbrev s_is_set : Stmt := top 15
abbrev s_is_rule : Stmt := top 16
abbrev s_are_rules : Stmt := top 17
abbrev s_is_row : Stmt := top 18
abbrev s_is_table : Stmt := top 19
abbrev s_are_parts : Stmt := top 20
abbrev s_need_table : Stmt := top 21
abbrev s_need_parts : Stmt := top 22
abbrev s_cells : Stmt := top 23
abbrev s_keeps : Stmt := top 24
abbrev s_broken : Stmt := top 27
abbrev s_joined : Stmt := top 28
abbrev s_widened : Stmt := top 29
abbrev s_seen_in : Stmt := top 30
abbrev s_Rules_init : Stmt := inClass (top 32) 0
abbrev s_Rules_rules : Stmt := inClass (top 32) 1
abbrev s_law_cell_at : Stmt := top 34
abbrev s_law_draw : Stmt := top 35
abbrev s_law_set : Stmt := top 36
abbrev s_law_pairs : Stmt := top 37
abbrev s_law_like : Stmt := top 38
abbrev s_law_keeps : Stmt := top 39
abbrev s_law_numbers : Stmt := top 40
abbrev s_law_table : Stmt := top 41
abbrev s_law_parts : Stmt := top 42
abbrev s_law_made : Stmt := top 43
abbrev s_law_all_rows : Stmt := top 44
abbrev s_law_joined_right : Stmt := top 45
abbrev s_law : Stmt := top 46
abbrev csc_14 : Scope := { kind := PySem.ScopeKind.function, names := [ (PySem.Str.ofString ".0", PySem.NameKind.local), (PySem.Str.ofString "_law_part", PySem.NameKind.cell), (PySem.Str.ofString "any", PySem.NameKind.globalImplicit), (PySem.Str.ofString "_law_row", PySem.NameKind.free), (PySem.Str.ofString "_law_table_here", PySem.NameKind.free)], isGenerator := false, isCoroutine := false, more := [] : PySem.Scope }
theorem sc_is_number : FnScope ["value", "least", "most"] ["value", "least", "most"] (defScope s_is_number) := ⟨rfl, rfl, rfl, by decide +kernel, rfl, by decide +kernel, by decide +kernel⟩
theorem sc_is_list : FnScope ["value", "least", "most"] ["value", "least", "most"] (defScope s_is_list) := ⟨rfl, rfl, rfl, by decide +kernel, rfl, by decide +kernel, by decide +kernel⟩
theorem sc_is_count : FnScope ["columns"] ["columns"] (defScope s_is_count) := ⟨rfl, rfl, rfl, by decide +kernel, rfl, by decide +kernel, by decide +kernel⟩
theorem sc_all_columns : FnScope ["columns"] ["columns"] (defScope s_all_columns) := ⟨rfl, rfl, rfl, by decide +kernel, rfl, by decide +kernel, by decide +kernel⟩
theorem sc_is_set : FnScope ["value", "columns"] ["value", "columns"] (defScope s_is_set) := ⟨rfl, rfl, rfl, by decide +kernel, rfl, by decide +kernel, by decide +kernel⟩
theorem sc_is_rule : FnScope ["value", "columns"] ["value", "columns"] (defScope s_is_rule) := ⟨rfl, rfl, rfl, by decide +kernel, rfl, by decide +kernel, by decide +kernel⟩
theorem sc_are_rules : FnScope ["value", "columns"] ["value", "columns"] (defScope s_are_rules) := ⟨rfl, rfl, rfl, by decide +kernel, rfl, by decide +kernel, by decide +kernel⟩
theorem sc_is_row : FnScope ["value", "columns"] ["value", "columns"] (defScope s_is_row) := ⟨rfl, rfl, rfl, by decide +kernel, rfl, by decide +kernel, by decide +kernel⟩
theorem sc_is_table : FnScope ["value", "columns"] ["value", "columns"] (defScope s_is_table) := ⟨rfl, rfl, rfl, by decide +kernel, rfl, by decide +kernel, by decide +kernel⟩
theorem sc_are_parts : FnScope ["value", "columns", "together", "part"] ["value", "columns"] (defScope s_are_parts) := ⟨rfl, rfl, rfl, by decide +kernel, rfl, by decide +kernel, by decide +kernel⟩
theorem sc_need_table : FnScope ["columns", "table"] ["columns", "table"] (defScope s_need_table) := ⟨rfl, rfl, rfl, by decide +kernel, rfl, by decide +kernel, by decide +kernel⟩
theorem sc_need_parts : FnScope ["columns", "parts"] ["columns", "parts"] (defScope s_need_parts) := ⟨rfl, rfl, rfl, by decide +kernel, rfl, by decide +kernel, by decide +kernel⟩
theorem sc_cells : FnScope ["row", "some"] ["row", "some"] (defScope s_cells) := ⟨rfl, rfl, rfl, by decide +kernel, rfl, by decide +kernel, by decide +kernel⟩
theorem sc_keeps : FnScope ["table", "rule", "firsts", "row", "right"] ["table", "rule"] (defScope s_keeps) := ⟨rfl, rfl, rfl, by decide +kernel, rfl, by decide +kernel, by decide +kernel⟩
theorem sc_broken : FnScope ["rules", "table"] ["rules", "table"] (defScope s_broken) := ⟨rfl, rfl, rfl, by decide +kernel, rfl, by decide +kernel, by decide +kernel⟩
theorem sc_joined : FnScope ["columns", "table", "parts", "rows", "column"] ["columns", "table", "parts"] (defScope s_joined) := ⟨rfl, rfl, rfl, by decide +kernel, rfl, by decide +kernel, by decide +kernel⟩
theorem sc_widened : FnScope ["rows", "column", "table", "parts", "heads", "seen", "numbers", "wider", "row", "number", "longer"] ["rows", "column", "table", "parts"] (defScope s_widened) := ⟨rfl, rfl, rfl, by decide +kernel, rfl, by decide +kernel, by decide +kernel⟩
theorem sc_seen_in : FnScope ["table", "some", "seen", "row"] ["table", "some"] (defScope s_seen_in) := ⟨rfl, rfl, rfl, by decide +kernel, rfl, by decide +kernel, by decide +kernel⟩
theorem sc_Rules_init : FnScope ["self", "columns", "rules"] ["self", "columns", "rules"] (defScope s_Rules_init) := ⟨rfl, rfl, rfl, by decide +kernel, rfl, by decide +kernel, by decide +kernel⟩
theorem sc_Rules_rules : FnScope ["self"] ["self"] (defScope s_Rules_rules) := ⟨rfl, rfl, rfl, by decide +kernel, rfl, by decide +kernel, by decide +kernel⟩
theorem sc_law_cell_at : FnScope ["_law_script", "_law_k"] ["_law_script", "_law_k"] (defScope s_law_cell_at) := ⟨rfl, rfl, rfl, by decide +kernel, rfl, by decide +kernel, by decide +kernel⟩
theorem sc_law_draw : FnScope ["_law_cell", "_law_k", "_law_many", "_law_mixed"] ["_law_cell", "_law_k", "_law_many"] (defScope s_law_draw) := ⟨rfl, rfl, rfl, by decide +kernel, rfl, by decide +kernel, by decide +kernel⟩
theorem sc_law_set : FnScope ["_law_cell", "_law_columns", "_law_some", "_law_column"] ["_law_cell", "_law_columns"] (defScope s_law_set) := ⟨rfl, rfl, rfl, by decide +kernel, rfl, by decide +kernel, by decide +kernel⟩
theorem sc_law_pairs : FnScope ["_law_cell", "_law_columns", "_law_most", "_law_pairs_here", "_law_k", "_law_left", "_law_right"] ["_law_cell", "_law_columns", "_law_most"] (defScope s_law_pairs) := ⟨rfl, rfl, rfl, by decide +kernel, rfl, by decide +kernel, by decide +kernel⟩
theorem sc_law_like : FnScope ["_law_one", "_law_other", "_law_some", "_law_column"] ["_law_one", "_law_other", "_law_some"] (defScope s_law_like) := ⟨rfl, rfl, rfl, by decide +kernel, rfl, by decide +kernel, by decide +kernel⟩
theorem sc_law_keeps : FnScope ["_law_table_here", "_law_rule", "_law_one", "_law_other"] ["_law_table_here", "_law_rule"] (defScope s_law_keeps) := ⟨rfl, rfl, rfl, by decide +kernel, rfl, by decide +kernel, by decide +kernel⟩
theorem sc_law_numbers : FnScope ["_law_found", "_law_most"] ["_law_found", "_law_most"] (defScope s_law_numbers) := ⟨rfl, rfl, rfl, by decide +kernel, rfl, by decide +kernel, by decide +kernel⟩
theorem sc_law_table : FnScope ["_law_cell", "_law_columns", "_law_most", "_law_worths", "_law_found", "_law_row"] ["_law_cell", "_law_columns"] (defScope s_law_table) := ⟨rfl, rfl, rfl, by decide +kernel, rfl, by decide +kernel, by decide +kernel⟩
theorem sc_law_parts : FnScope ["_law_cell", "_law_columns", "_law_parts_here", "_law_one", "_law_k", "_law_left", "_law_part"] ["_law_cell", "_law_columns"] (defScope s_law_parts) := ⟨rfl, rfl, rfl, by decide +kernel, rfl, by decide +kernel, by decide +kernel⟩
theorem sc_law_made : FnScope ["_law_row", "_law_table_here", "_law_parts_here"] ["_law_row", "_law_table_here", "_law_parts_here"] (defScope s_law_made) := ⟨rfl, rfl, rfl, by decide +kernel, rfl, by decide +kernel, by decide +kernel⟩
theorem sc_law_all_rows : FnScope ["_law_table_here", "_law_columns", "_law_found", "_law_column", "_law_worths", "_law_longer", "_law_some"] ["_law_table_here", "_law_columns"] (defScope s_law_all_rows) := ⟨rfl, rfl, rfl, by decide +kernel, rfl, by decide +kernel, by decide +kernel⟩
theorem sc_law_joined_right : FnScope ["_law_table_here", "_law_parts_here", "_law_columns", "_law_found"] ["_law_table_here", "_law_parts_here", "_law_columns", "_law_found"] (defScope s_law_joined_right) := ⟨rfl, rfl, rfl, by decide +kernel, rfl, by decide +kernel, by decide +kernel⟩
theorem sc_law : FnScope ["_law_script", "_law_columns", "_law_pairs_here", "_law_table_here", "_law_parts_here", "_law_rules", "_law_handed", "_law_due", "_law_again", "_law_found", "_law_row"] ["_law_script"] (defScope s_law) := ⟨rfl, rfl, rfl, by decide +kernel, rfl, by decide +kernel, by decide +kernel⟩
theorem bt_all : bootBuiltins "all" = some (.builtin "all") := by decide +kernel
theorem bt_any : bootBuiltins "any" = some (.builtin "any") := by decide +kernel
theorem bt_bool : bootBuiltins "bool" = some (.type "bool") := by decide +kernel
theorem bt_enumerate : bootBuiltins "enumerate" = some (.type "enumerate") := by decide +kernel
theorem bt_int : bootBuiltins "int" = some (.type "int") := by decide +kernel
theorem bt_isinstance : bootBuiltins "isinstance" = some (.builtin "isinstance") := by decide +kernel
theorem bt_len : bootBuiltins "len" = some (.builtin "len") := by decide +kernel
theorem bt_list : bootBuiltins "list" = some (.type "list") := by decide +kernel
theorem bt_set : bootBuiltins "set" = some (.type "set") := by decide +kernel
theorem bt_sorted : bootBuiltins "sorted" = some (.builtin "sorted") := by decide +kernel
theorem bt_tuple : bootBuiltins "tuple" = some (.type "tuple") := by decide +kernel
theorem bt_zip : bootBuiltins "zip" = some (.type "zip") := by decide +kernel
structure Adr where
  f_is_number : Addr
  d_is_number : FuncData
  f_is_list : Addr
  d_is_list : FuncData
  f_is_count : Addr
  d_is_count : FuncData
  f_all_columns : Addr
  d_all_columns : FuncData
  f_is_set : Addr
  d_is_set : FuncData
  f_is_rule : Addr
  d_is_rule : FuncData
  f_are_rules : Addr
  d_are_rules : FuncData
  f_is_row : Addr
  d_is_row : FuncData
  f_is_table : Addr
  d_is_table : FuncData
  f_are_parts : Addr
  d_are_parts : FuncData
  f_need_table : Addr
  d_need_table : FuncData
  f_need_parts : Addr
  d_need_parts : FuncData
  f_cells : Addr
  d_cells : FuncData
  f_keeps : Addr
  d_keeps : FuncData
  f_broken : Addr
  d_broken : FuncData
  f_joined : Addr
  d_joined : FuncData
  f_widened : Addr
  d_widened : FuncData
  f_seen_in : Addr
  d_seen_in : FuncData
  f_Rules_init : Addr
  d_Rules_init : FuncData
  f_Rules_rules : Addr
  d_Rules_rules : FuncData
  f_law_cell_at : Addr
  d_law_cell_at : FuncData
  f_law_draw : Addr
  d_law_draw : FuncData
  f_law_set : Addr
  d_law_set : FuncData
  f_law_pairs : Addr
  d_law_pairs : FuncData
  f_law_like : Addr
  d_law_like : FuncData
  f_law_keeps : Addr
  d_law_keeps : FuncData
  f_law_numbers : Addr
  d_law_numbers : FuncData
  f_law_table : Addr
  d_law_table : FuncData
  f_law_parts : Addr
  d_law_parts : FuncData
  f_law_made : Addr
  d_law_made : FuncData
  f_law_all_rows : Addr
  d_law_all_rows : FuncData
  f_law_joined_right : Addr
  d_law_joined_right : FuncData
  f_law : Addr
  d_law : FuncData
  c_Rules : Addr
structure Txt (K : PySem.W.Frag) (mg : Str → Option Value) (A : Adr) : Prop where
  F_is_number : Fun K "is_number" "is_number" s_is_number A.f_is_number A.d_is_number
  b_is_number : Binds K A.d_is_number ["value", "least", "most"] []
  m_is_number : mg "is_number" = some (.ref A.f_is_number)
  F_is_list : Fun K "is_list" "is_list" s_is_list A.f_is_list A.d_is_list
  b_is_list : Binds K A.d_is_list ["value", "least", "most"] []
  m_is_list : mg "is_list" = some (.ref A.f_is_list)
  F_is_count : Fun K "is_count" "is_count" s_is_count A.f_is_count A.d_is_count
  b_is_count : Binds K A.d_is_count ["columns"] []
  m_is_count : mg "is_count" = some (.ref A.f_is_count)
  F_all_columns : Fun K "all_columns" "all_columns" s_all_columns A.f_all_columns A.d_all_columns
  b_all_columns : Binds K A.d_all_columns ["columns"] []
  m_all_columns : mg "all_columns" = some (.ref A.f_all_columns)
  F_is_set : Fun K "is_set" "is_set" s_is_set A.f_is_set A.d_is_set
  b_is_set : Binds K A.d_is_set ["value", "columns"] []
  m_is_set : mg "is_set" = some (.ref A.f_is_set)
  F_is_rule : Fun K "is_rule" "is_rule" s_is_rule A.f_is_rule A.d_is_rule
  b_is_rule : Binds K A.d_is_rule ["value", "columns"] []
  m_is_rule : mg "is_rule" = some (.ref A.f_is_rule)
  F_are_rules : Fun K "are_rules" "are_rules" s_are_rules A.f_are_rules A.d_are_rules
  b_are_rules : Binds K A.d_are_rules ["value", "columns"] []
  m_are_rules : mg "are_rules" = some (.ref A.f_are_rules)
  F_is_row : Fun K "is_row" "is_row" s_is_row A.f_is_row A.d_is_row
  b_is_row : Binds K A.d_is_row ["value", "columns"] []
  m_is_row : mg "is_row" = some (.ref A.f_is_row)
  F_is_table : Fun K "is_table" "is_table" s_is_table A.f_is_table A.d_is_table
  b_is_table : Binds K A.d_is_table ["value", "columns"] []
  m_is_table : mg "is_table" = some (.ref A.f_is_table)
  F_are_parts : Fun K "are_parts" "are_parts" s_are_parts A.f_are_parts A.d_are_parts
  b_are_parts : Binds K A.d_are_parts ["value", "columns"] []
  m_are_parts : mg "are_parts" = some (.ref A.f_are_parts)
  F_need_table : Fun K "need_table" "need_table" s_need_table A.f_need_table A.d_need_table
  b_need_table : Binds K A.d_need_table ["columns", "table"] []
  m_need_table : mg "need_table" = some (.ref A.f_need_table)
  F_need_parts : Fun K "need_parts" "need_parts" s_need_parts A.f_need_parts A.d_need_parts
  b_need_parts : Binds K A.d_need_parts ["columns", "parts"] []
  m_need_parts : mg "need_parts" = some (.ref A.f_need_parts)
  F_cells : Fun K "cells" "cells" s_cells A.f_cells A.d_cells
  b_cells : Binds K A.d_cells ["row", "some"] []
  m_cells : mg "cells" = some (.ref A.f_cells)
  F_keeps : Fun K "keeps" "keeps" s_keeps A.f_keeps A.d_keeps
  b_keeps : Binds K A.d_keeps ["table", "rule"] []
  m_keeps : mg "keeps" = some (.ref A.f_keeps)
  F_broken : Fun K "broken" "broken" s_broken A.f_broken A.d_broken
  b_broken : Binds K A.d_broken ["rules", "table"] []
  m_broken : mg "broken" = some (.ref A.f_broken)
  F_joined : Fun K "joined" "joined" s_joined A.f_joined A.d_joined
  b_joined : Binds K A.d_joined ["columns", "table", "parts"] []
  m_joined : mg "joined" = some (.ref A.f_joined)
  F_widened : Fun K "widened" "widened" s_widened A.f_widened A.d_widened
  b_widened : Binds K A.d_widened ["rows", "column", "table", "parts"] []
  m_widened : mg "widened" = some (.ref A.f_widened)
  F_seen_in : Fun K "seen_in" "seen_in" s_seen_in A.f_seen_in A.d_seen_in
  b_seen_in : Binds K A.d_seen_in ["table", "some"] []
  m_seen_in : mg "seen_in" = some (.ref A.f_seen_in)
  F_Rules_init : Fun K "__init__" "Rules.__init__" s_Rules_init A.f_Rules_init A.d_Rules_init
  b_Rules_init : Binds K A.d_Rules_init ["self", "columns", "rules"] []
  mk_Rules : Mk K A.c_Rules A.f_Rules_init
  F_Rules_rules : Fun K "rules" "Rules.rules" s_Rules_rules A.f_Rules_rules A.d_Rules_rules
  b_Rules_rules : Binds K A.d_Rules_rules ["self"] []
  mt_Rules_rules : Meth K A.c_Rules "rules" A.f_Rules_rules
  F_law_cell_at : Fun K "_law_cell_at" "_law_cell_at" s_law_cell_at A.f_law_cell_at A.d_law_cell_at
  b_law_cell_at : Binds K A.d_law_cell_at ["_law_script", "_law_k"] []
  m_law_cell_at : mg "_law_cell_at" = some (.ref A.f_law_cell_at)
  F_law_draw : Fun K "_law_draw" "_law_draw" s_law_draw A.f_law_draw A.d_law_draw
  b_law_draw : Binds K A.d_law_draw ["_law_cell", "_law_k", "_law_many"] []
  m_law_draw : mg "_law_draw" = some (.ref A.f_law_draw)
  F_law_set : Fun K "_law_set" "_law_set" s_law_set A.f_law_set A.d_law_set
  b_law_set : Binds K A.d_law_set ["_law_cell", "_law_columns"] []
  m_law_set : mg "_law_set" = some (.ref A.f_law_set)
  F_law_pairs : Fun K "_law_pairs" "_law_pairs" s_law_pairs A.f_law_pairs A.d_law_pairs
  b_law_pairs : Binds K A.d_law_pairs ["_law_cell", "_law_columns", "_law_most"] []
  m_law_pairs : mg "_law_pairs" = some (.ref A.f_law_pairs)
  F_law_like : Fun K "_law_like" "_law_like" s_law_like A.f_law_like A.d_law_like
  b_law_like : Binds K A.d_law_like ["_law_one", "_law_other", "_law_some"] []
  m_law_like : mg "_law_like" = some (.ref A.f_law_like)
  F_law_keeps : Fun K "_law_keeps" "_law_keeps" s_law_keeps A.f_law_keeps A.d_law_keeps
  b_law_keeps : Binds K A.d_law_keeps ["_law_table_here", "_law_rule"] []
  m_law_keeps : mg "_law_keeps" = some (.ref A.f_law_keeps)
  F_law_numbers : Fun K "_law_numbers" "_law_numbers" s_law_numbers A.f_law_numbers A.d_law_numbers
  b_law_numbers : Binds K A.d_law_numbers ["_law_found", "_law_most"] []
  m_law_numbers : mg "_law_numbers" = some (.ref A.f_law_numbers)
  F_law_table : Fun K "_law_table" "_law_table" s_law_table A.f_law_table A.d_law_table
  b_law_table : Binds K A.d_law_table ["_law_cell", "_law_columns"] []
  m_law_table : mg "_law_table" = some (.ref A.f_law_table)
  F_law_parts : Fun K "_law_parts" "_law_parts" s_law_parts A.f_law_parts A.d_law_parts
  b_law_parts : Binds K A.d_law_parts ["_law_cell", "_law_columns"] []
  m_law_parts : mg "_law_parts" = some (.ref A.f_law_parts)
  F_law_made : Fun K "_law_made" "_law_made" s_law_made A.f_law_made A.d_law_made
  b_law_made : Binds K A.d_law_made ["_law_row", "_law_table_here", "_law_parts_here"] []
  m_law_made : mg "_law_made" = some (.ref A.f_law_made)
  F_law_all_rows : Fun K "_law_all_rows" "_law_all_rows" s_law_all_rows A.f_law_all_rows A.d_law_all_rows
  b_law_all_rows : Binds K A.d_law_all_rows ["_law_table_here", "_law_columns"] []
  m_law_all_rows : mg "_law_all_rows" = some (.ref A.f_law_all_rows)
  F_law_joined_right : Fun K "_law_joined_right" "_law_joined_right" s_law_joined_right A.f_law_joined_right A.d_law_joined_right
  b_law_joined_right : Binds K A.d_law_joined_right ["_law_table_here", "_law_parts_here", "_law_columns", "_law_found"] []
  m_law_joined_right : mg "_law_joined_right" = some (.ref A.f_law_joined_right)
  F_law : Fun K "law" "law" s_law A.f_law A.d_law
  b_law : Binds K A.d_law ["_law_script"] []
  m_law : mg "law" = some (.ref A.f_law)
  cl_Rules : Cls K A.c_Rules
  m_Rules : mg "Rules" = some (.ref A.c_Rules)
  na_Rules_columns : NoAttr K A.c_Rules "columns"
  na_Rules_pairs : NoAttr K A.c_Rules "pairs"
  z_all : mg "all" = none
  z_any : mg "any" = none
  z_bool : mg "bool" = none
  z_enumerate : mg "enumerate" = none
  z_int : mg "int" = none
  z_isinstance : mg "isinstance" = none
  z_len : mg "len" = none
  z_list : mg "list" = none
  z_range : mg "range" = none
  z_set : mg "set" = none
  z_sorted : mg "sorted" = none
  z_tuple : mg "tuple" = none
  z_zip : mg "zip" = none
  g_MOST_COLUMNS : ∃ t, mg "MOST_COLUMNS" = some (.int 6 t)
  g_MOST_RULES : ∃ t, mg "MOST_RULES" = some (.int 64 t)
  g_MOST_ROWS : ∃ t, mg "MOST_ROWS" = some (.int 64 t)
  g_MOST_NUMBER : ∃ t, mg "MOST_NUMBER" = some (.int 99 t)
  g_MOST_PARTS : ∃ t, mg "MOST_PARTS" = some (.int 64 t)
  g_MOST_ROWS_JOINED : ∃ t, mg "MOST_ROWS_JOINED" = some (.int 8 t)
/-! ### the data -/
def Tps (H : Hp) : List Addr → List (Nat × Nat) → Prop
  | [], [] => True
  | t :: ts, p :: ps => H t = some (.tup [.int (p.1 : Nat), .int (p.2 : Nat)]) ∧ Tps H ts ps
  | _, _ => False
theorem Tps.same {H H' : Hp} (e : Same H H') : ∀ {ts : List Addr} {ps : List (Nat × Nat)}, Tps H ts ps → Tps H' ts ps
  | [], [], _ => trivial
  | _ :: _, _ :: _, ⟨h, t⟩ => ⟨e _ _ h, Tps.same e t⟩
  | [], _ :: _, h => h.elim
  | _ :: _, [], h => h.elim
theorem Tps.len {H : Hp} : ∀ {ts : List Addr} {ps : List (Nat × Nat)}, Tps H ts ps → ts.length = ps.length
  | [], [], _ => rfl
  | _ :: _, _ :: _, ⟨_, t⟩ => congrArg (· + 1) (Tps.len t)
  | [], _ :: _, h => h.elim
  | _ :: _, [], h => h.elim
theorem Tps.get {H : Hp} : ∀ {ts : List Addr} {ps : List (Nat × Nat)} {i : Nat} {v : V}, Tps H ts ps → (ts.map V.ref)[i]? = some v → ∃ t p, v = .ref t ∧ ps[i]? = some p ∧ H t = some (.tup [.int (p.1 : Nat), .int (p.2 : Nat)])
  | [], [], i, v, _, h => by simp at h
  | t :: _, p :: _, 0, v, ⟨h, _⟩, e => ⟨t, p, by simpa using e.symm, by simp, h⟩
  | _ :: _, _ :: _, i + 1, v, ⟨_, t⟩, e => by
    obtain ⟨a, b, h1, h2, h3⟩ := Tps.get (i := i) t (by simpa using e)
    exact ⟨a, b, h1, by simpa using h2, h3⟩
  | [], _ :: _, _, _, h, _ => h.elim
  | _ :: _, [], _, _, h, _ => h.elim
theorem Tps.snoc {H : Hp} {t : Addr} {p : Nat × Nat} (e : H t = some (.tup [.int (p.1 : Nat), .int (p.2 : Nat)])) : ∀ {ts : List Addr} {ps : List (Nat × Nat)}, Tps H ts ps → Tps H (ts ++ [t]) (ps ++ [p])
  | [], [], _ => ⟨e, trivial⟩
  | _ :: _, _ :: _, ⟨h, r⟩ => ⟨h, Tps.snoc e r⟩
  | [], _ :: _, h => h.elim
  | _ :: _, [], h => h.elim
theorem Tps.upd {H : Hp} {a : Addr} {xs : List V} {o : HO} (ha : H a = some (.lst xs)) : ∀ {ts : List Addr} {ps : List (Nat × Nat)}, Tps H ts ps → Tps (upd H a o) ts ps
  | [], [], _ => trivial
  | _ :: _, _ :: _, ⟨h, t⟩ => ⟨by rw [upd_ne (ne_of h ha (by intro z; cases z))]; exact h, Tps.upd ha t⟩
  | [], _ :: _, h => h.elim
  | _ :: _, [], h => h.elim
/-- a list of rules stands at l -/
def PrsAt (H : Hp) (l : Addr) (ps : List (Nat × Nat)) : Prop := ∃ ts : List Addr, H l = some (.lst (ts.map V.ref)) ∧ Tps H ts ps
theorem PrsAt.same {H H' : Hp} (e : Same H H') {l : Addr} {ps : List (Nat × Nat)} : PrsAt H l ps → PrsAt H' l ps := fun ⟨ts, h, t⟩ => ⟨ts, e _ _ h, t.same e⟩
theorem Same.up {H H' : Hp} {a : Addr} {o : HO} (e : Same H H') (h : H a = none) : Same H (upd H' a o) := fun b u q => by
  rw [upd_ne (ne_of_none q h)]; exact e b u q
theorem Same.new {H : Hp} {a : Addr} {o : HO} (h : H a = none) : Same H (upd H a o) := Same.up (Same.refl H) h
def flds (c : Nat) (l : Addr) : List (Str × V) := putF "pairs" (.ref l) (putF "columns" (.int (c : Nat)) [])
theorem kc : ¬ (("columns" : Str) = "pairs") := by decide +kernel
theorem flds_columns (c : Nat) (l : Addr) : (flds c l).lookup ("columns" : Str) = some (.int (c : Nat)) := by
  unfold flds; rw [lookup_putF, if_neg kc, lookup_putF, if_pos rfl]
theorem flds_pairs (c : Nat) (l : Addr) : (flds c l).lookup ("pairs" : Str) = some (.ref l) := by
  unfold flds; rw [lookup_putF, if_pos rfl]
theorem flds_no (c : Nat) (l : Addr) {m : Str} (h1 : ¬ m = "pairs") (h2 : ¬ m = "columns") : (flds c l).lookup m = none := by
  unfold flds; rw [lookup_putF, if_neg h1, lookup_putF, if_neg h2]; rfl
/-- Rules of c columns and the rules ps stand at p, their list at l -/
def RulesAt (C : Addr) (H : Hp) (p l : Addr) (c : Nat) (ps : List (Nat × Nat)) : Prop := (∃ dx, H p = some (.ins C dx (flds c l))) ∧ PrsAt H l ps
theorem RulesAt.same {C : Addr} {H H' : Hp} (e : Same H H') {p l : Addr} {c : Nat} {ps : List (Nat × Nat)} : RulesAt C H p l c ps → RulesAt C H' p l c ps := fun ⟨⟨dx, h⟩, t⟩ => ⟨⟨dx, e _ _ h⟩, t.same e⟩
/-- rules of c columns -/
def Good (c : Nat) (ps : List (Nat × Nat)) : Prop := 1 ≤ c ∧ c ≤ 6 ∧ ps.length ≤ 64 ∧ ∀ p ∈ ps, p.1 < 2 ^ c ∧ p.2 < 2 ^ c

/-! ### numbers -/
theorem in_set {a c : Nat} (h : a < 2 ^ c) : (decide ((0 : Int) ≤ (a : Int)) && decide ((a : Int) ≤ ((2 ^ c : Nat) : Int) - 1)) = true := by
  generalize 2 ^ c = N at h ⊢
  rw [Bool.and_eq_true]
  exact ⟨decide_eq_true (by omega), decide_eq_true (by omega)⟩
theorem or_nat (a b : Nat) : Builtin.bitOr (a : Int) (b : Int) = ((a ||| b : Nat) : Int) := by
  have h1 : ¬ (0 ≤ Builtin.bitNot (a : Int)) := by unfold Builtin.bitNot; omega
  have h2 : ¬ (0 ≤ Builtin.bitNot (b : Int)) := by unfold Builtin.bitNot; omega
  have e : ∀ z : Int, Builtin.bitNot (Builtin.bitNot z) = z := fun z => by unfold Builtin.bitNot; omega
  have e2 : Builtin.bitAnd (Builtin.bitNot (a : Int)) (Builtin.bitNot (b : Int)) = Builtin.bitNot (((Builtin.bitNot (Builtin.bitNot (a : Int))).toNat ||| (Builtin.bitNot (Builtin.bitNot (b : Int))).toNat : Nat) : Int) := by
    simp [Builtin.bitAnd, h1, h2]
  unfold Builtin.bitOr
  rw [e2, e, e, e, Int.toNat_natCast, Int.toNat_natCast]
theorem and_nat (a b : Nat) : Builtin.bitAnd (a : Int) (b : Int) = ((a &&& b : Nat) : Int) := by
  rw [PyProof.Rows.bitAnd_pp (Int.natCast_nonneg a) (Int.natCast_nonneg b)]; rfl
theorem shl_nat (c : Nat) : (1 : Int) * 2 ^ ((c : Int)).toNat = ((2 ^ c : Nat) : Int) := by
  rw [Int.one_mul, Int.toNat_natCast]; norm_cast

def sp_is_number : Sp := fun vs H Q _ => ∃ v a b : Int, vs = [.int v, .int a, .int b] ∧ Q (.bl (decide (a ≤ v) && decide (v ≤ b))) H
def sp_is_list : Sp := fun vs H Q _ => ∃ (p : Addr) (xs : List V) (a b : Int), vs = [.ref p, .int a, .int b] ∧ H p = some (.lst xs) ∧ Q (.bl (decide (a ≤ (xs.length : Int)) && decide ((xs.length : Int) ≤ b))) H
def sp_is_count : Sp := fun vs H Q _ => ∃ v : Int, vs = [.int v] ∧ Q (.bl (decide (1 ≤ v) && decide (v ≤ 6))) H
def sp_all_columns : Sp := fun vs H Q _ => ∃ c : Nat, vs = [.int (c : Nat)] ∧ c ≤ 6 ∧ Q (.int (((2 ^ c : Nat) : Int) - 1)) H
def sp_is_set : Sp := fun vs H Q _ => ∃ (v : Int) (c : Nat), vs = [.int v, .int (c : Nat)] ∧ c ≤ 6 ∧ Q (.bl (decide (0 ≤ v) && decide (v ≤ ((2 ^ c : Nat) : Int) - 1))) H
def sp_is_rule : Sp := fun vs H Q _ => ∃ (t : Addr) (a b c : Nat), vs = [.ref t, .int (c : Nat)] ∧ H t = some (.tup [.int (a : Nat), .int (b : Nat)]) ∧ c ≤ 6 ∧ a < 2 ^ c ∧ b < 2 ^ c ∧ Q (.bl true) H
def sp_are_rules : Sp := fun vs H Q _ => ∃ (l : Addr) (c : Nat) (ps : List (Nat × Nat)), vs = [.ref l, .int (c : Nat)] ∧ PrsAt H l ps ∧ Good c ps ∧ ∀ H', Same H H' → Q (.bl true) H'
def sp_Rules_init (C : Addr) : Sp := fun vs H Q _ => ∃ (p dx l : Addr) (c : Nat) (ps : List (Nat × Nat)), vs = [.ref p, .int (c : Nat), .ref l] ∧ H p = some (.ins C dx []) ∧ PrsAt H l ps ∧ Good c ps ∧
  ∀ (m : Addr) (H' : Hp), H m = none → RulesAt C H' p m c ps → (∀ b o, H b = some o → b ≠ p → H' b = some o) → Q .non H'
def sp_Rules_rules (C : Addr) : Sp := fun vs H Q _ => ∃ (p m : Addr) (c : Nat) (ps : List (Nat × Nat)), vs = [.ref p] ∧ RulesAt C H p m c ps ∧ ∀ (l : Addr) (ts : List Addr), H l = none → Tps H ts ps → Q (.ref l) (upd H l (.lst (ts.map V.ref)))
section
variable {P : Program} {w : World} {K : PySem.W.Frag} {mg : Str → Option Value} {base : Heap} {A : Adr}
theorem kit_int_bool : PySem.W.kitOne K (.type "int") (.type "bool") = some false := by kernel_rfl
theorem kit_int_int : PySem.W.kitOne K (.type "int") (.type "int") = some true := by kernel_rfl
theorem kit_list_list : PySem.W.kitOne K (.type "list") (.type "list") = some true := by kernel_rfl
theorem kit_tuple_tuple : PySem.W.kitOne K (.type "tuple") (.type "tuple") = some true := by kernel_rfl
theorem ok_is_number (T : Txt K mg A) : FnOk P w K mg base CX0 1 A.f_is_number A.d_is_number ["value", "least", "most"] sp_is_number := by
  refine T.F_is_number.ok sc_is_number (fun vs H Q E h => ?_) (fun cdv A' outer s H vs Q E hr h => ?_)
  · obtain ⟨v, a, b, rfl, _⟩ := h; rfl
  · obtain ⟨v, a, b, rfl, k⟩ := h
    refine ⟨_, (pss_cons (ps_if (pt_val (pe_callB (call_isinstK K) rfl T.z_isinstance bt_isinstance (pa_cons (pv 0) (pa_cons (pe_bltn (v := .ty "bool") rfl T.z_bool bt_bool rfl) pa_nil)))) (pss_one (ps_ret pe_bl)) pss_nil)
      (pss_one (ps_ret (pe_and (pe_callB (call_isinstK K) rfl T.z_isinstance bt_isinstance (pa_cons (pv 0) (pa_cons (pe_bltn (v := .ty "int") rfl T.z_int bt_int rfl) pa_nil))) (pe_one (pe_chain op_le op_le (pv 1) (pv 0) (pv 2))))))), ?_⟩
    refine ⟨_, rfl, _, _, _, false, rfl, .int v, kit_int_bool, false, rfl, iteF ?_⟩
    refine ⟨_, rfl, _, _, _, true, rfl, .int v, kit_int_int, true, rfl, iteT ?_⟩
    refine ⟨_, rfl, _, rfl, a, v, rfl, rfl, _, rfl, ?_⟩
    refine ite2 (fun e => ?_) (fun e => ?_)
    · refine ⟨_, rfl, v, b, rfl, rfl, ?_⟩
      rw [e, Bool.true_and] at k
      exact k
    · have e' : decide (a ≤ v) = false := by simpa using e
      rw [e', Bool.false_and] at k
      exact k
theorem ok_is_list (T : Txt K mg A) : FnOk P w K mg base CX0 1 A.f_is_list A.d_is_list ["value", "least", "most"] sp_is_list := by
  refine T.F_is_list.ok sc_is_list (fun vs H Q E h => ?_) (fun cdv A' outer s H vs Q E hr h => ?_)
  · obtain ⟨p, xs, a, b, rfl, _⟩ := h; rfl
  · obtain ⟨p, xs, a, b, rfl, hp, k⟩ := h
    refine ⟨_, (pss_one (ps_ret (pe_and (pe_callB (call_isinstK K) rfl T.z_isinstance bt_isinstance (pa_cons (pv 0) (pa_cons (pe_bltn (v := .ty "list") rfl T.z_list bt_list rfl) pa_nil))) (pe_one (pe_chain op_le op_le (pv 1) (pe_callB (call_lenK K) rfl T.z_len bt_len (pa_cons (pv 0) pa_nil)) (pv 2)))))), ?_⟩
    refine ⟨_, rfl, _, _, _, true, rfl, .lst hp, kit_list_list, true, rfl, iteT ?_⟩
    refine ⟨_, rfl, _, rfl, p, xs, rfl, .inl (SqL.of hp), a, _, rfl, rfl, _, rfl, ?_⟩
    refine ite2 (fun e => ?_) (fun e => ?_)
    · refine ⟨_, rfl, _, b, rfl, rfl, ?_⟩
      rw [e, Bool.true_and] at k
      exact k
    · have e' : decide (a ≤ (xs.length : Int)) = false := by simpa using e
      rw [e', Bool.false_and] at k
      exact k
theorem ok_is_count (T : Txt K mg A) : FnOk P w K mg base CX0 3 A.f_is_count A.d_is_count ["columns"] sp_is_count := by
  have G_is_number := ok_is_number (P := P) (w := w) (base := base) T
  refine T.F_is_count.ok sc_is_count (fun vs H Q E h => ?_) (fun cdv A' outer s H vs Q E hr h => ?_)
  · obtain ⟨v, rfl, _⟩ := h; rfl
  · obtain ⟨v, rfl, k⟩ := h
    refine ⟨_, (pss_one (ps_ret (pe_call G_is_number (hr.mono (by decide)) rfl T.m_is_number T.F_is_number.kp T.b_is_number .nil pass0 (pa_cons (pv 0) (pa_cons pe_int (pa_cons (pe_glob (v := .int 6) rfl T.g_MOST_COLUMNS.choose_spec ⟨_, rfl⟩) pa_nil)))))), ?_⟩
    exact ⟨_, rfl, v, 1, 6, rfl, k⟩
theorem ok_all_columns (T : Txt K mg A) : FnOk P w K mg base CX0 1 A.f_all_columns A.d_all_columns ["columns"] sp_all_columns := by
  refine T.F_all_columns.ok sc_all_columns (fun vs H Q E h => ?_) (fun cdv A' outer s H vs Q E hr h => ?_)
  · obtain ⟨v, rfl, _⟩ := h; rfl
  · obtain ⟨c, rfl, hc, k⟩ := h
    refine ⟨_, (pss_one (ps_ret (pe_op op_sub (pe_op op_shl pe_int (pv 0)) pe_int))), ?_⟩
    refine ⟨_, rfl, 1, (c : Int), rfl, rfl, ⟨Int.natCast_nonneg c, by omega, by decide⟩, _, 1, rfl, rfl, ?_⟩
    rw [shl_nat]
    exact k
theorem ok_is_set (T : Txt K mg A) : FnOk P w K mg base CX0 3 A.f_is_set A.d_is_set ["value", "columns"] sp_is_set := by
  have G_is_number := ok_is_number (P := P) (w := w) (base := base) T
  have G_all_columns := ok_all_columns (P := P) (w := w) (base := base) T
  refine T.F_is_set.ok sc_is_set (fun vs H Q E h => ?_) (fun cdv A' outer s H vs Q E hr h => ?_)
  · obtain ⟨v, c, rfl, _⟩ := h; rfl
  · obtain ⟨v, c, rfl, hc, k⟩ := h
    refine ⟨_, (pss_one (ps_ret (pe_call G_is_number (hr.mono (by decide)) rfl T.m_is_number T.F_is_number.kp T.b_is_number .nil pass0 (pa_cons (pv 0) (pa_cons pe_int (pa_cons (pe_call G_all_columns (hr.mono (by decide)) rfl T.m_all_columns T.F_all_columns.kp T.b_all_columns .nil pass0 (pa_cons (pv 1) pa_nil)) pa_nil)))))), ?_⟩
    exact ⟨_, rfl, _, rfl, c, rfl, hc, v, 0, _, rfl, k⟩
theorem ok_is_rule (T : Txt K mg A) : FnOk P w K mg base CX0 5 A.f_is_rule A.d_is_rule ["value", "columns"] sp_is_rule := by
  have G_is_set := ok_is_set (P := P) (w := w) (base := base) T
  refine T.F_is_rule.ok sc_is_rule (fun vs H Q E h => ?_) (fun cdv A' outer s H vs Q E hr h => ?_)
  · obtain ⟨t, a, b, c, rfl, _⟩ := h; rfl
  · obtain ⟨t, a, b, c, rfl, ht, hc, ha, hb, k⟩ := h
    refine ⟨_, (pss_cons (ps_if (PW.pt (pw_or (pt_not (pt_val (pe_callB (call_isinstK K) rfl T.z_isinstance bt_isinstance (pa_cons (pv 0) (pa_cons (pe_bltn (v := .ty "tuple") rfl T.z_tuple bt_tuple rfl) pa_nil))))) (pw_or1 (pt_cmpR op_ne (pe_callB (call_lenK K) rfl T.z_len bt_len (pa_cons (pv 0) pa_nil)) pe_int (nomark _))))) (pss_one (ps_ret pe_bl)) pss_nil)
      (pss_one (ps_ret (pe_and (pe_call G_is_set (hr.mono (by decide)) rfl T.m_is_set T.F_is_set.kp T.b_is_set .nil pass0 (pa_cons (pe_ix (ix_tupK K) (pv 0) pe_int (fun _ _ => rfl)) (pa_cons (pv 1) pa_nil))) (pe_one (pe_call G_is_set (hr.mono (by decide)) rfl T.m_is_set T.F_is_set.kp T.b_is_set .nil pass0 (pa_cons (pe_ix (ix_tupK K) (pv 0) pe_int (fun _ _ => rfl)) (pa_cons (pv 1) pa_nil)))))))), ?_⟩
    refine ⟨_, rfl, _, _, _, true, rfl, .tup ht, kit_tuple_tuple, true, rfl, iteF ?_⟩
    refine ⟨_, rfl, t, _, rfl, .inr (SqT.of ht), rfl, _, rfl, iteF ?_⟩
    refine ⟨_, rfl, t, _, 0, _, rfl, rfl, SqT.of ht, rfl, _, rfl, a, c, rfl, hc, _, rfl, ?_⟩
    have e1 := in_set ha
    have e2 := in_set hb
    rw [e1]
    refine iteT ⟨_, rfl, t, _, 1, _, rfl, rfl, SqT.of ht, rfl, _, rfl, b, c, rfl, hc, ?_⟩
    rw [e2]
    exact k
theorem ok_are_rules (T : Txt K mg A) : FnOk P w K mg base CX0 7 A.f_are_rules A.d_are_rules ["value", "columns"] sp_are_rules := by
  have G_is_list := ok_is_list (P := P) (w := w) (base := base) T
  have G_is_rule := ok_is_rule (P := P) (w := w) (base := base) T
  refine T.F_are_rules.ok sc_are_rules (fun vs H Q E h => ?_) (fun cdv A' outer s H vs Q E hr h => ?_)
  · obtain ⟨l, c, ps, rfl, _⟩ := h; rfl
  · obtain ⟨l, c, ps, rfl, ⟨ts, hl, htp⟩, ⟨hc1, hc6, hlen, hps⟩, k⟩ := h
    refine ⟨_, (pss_cons (ps_if (pt_not (pt_val (pe_call G_is_list (hr.mono (by decide)) rfl T.m_is_list T.F_is_list.kp T.b_is_list .nil pass0 (pa_cons (pv 0) (pa_cons pe_int (pa_cons (pe_glob (v := .int 64) rfl T.g_MOST_RULES.choose_spec ⟨_, rfl⟩) pa_nil)))))) (pss_one (ps_ret pe_bl)) pss_nil)
      (pss_one (ps_ret (pe_callB (call_allK K rfl) rfl T.z_all bt_all (pa_cons (pe_comp ["value", "columns"] (defScope s_are_rules) ["rule", "columns"] [none, some 1] ⟨rfl, by decide +kernel, by decide +kernel, by decide +kernel, by decide +kernel, by decide +kernel⟩ rfl (pi_listK K (pv 0)) (fun _ _ _ _ _ => (pg_name (i := 0) (by show List.Nodup (["rule", "columns"] : List Str); decide +kernel) rfl (Or.inl rfl) (Or.inr rfl))) (fun _ _ _ _ _ => pts_nil) (fun _ _ _ _ _ => (pe_call G_is_rule (hr.mono (by decide)) rfl T.m_is_rule T.F_is_rule.kp T.b_is_rule .nil pass0 (pa_cons (pv 0) (pa_cons (pv 1) pa_nil))))) pa_nil))))), ?_⟩
    refine ⟨_, rfl, l, ts.map V.ref, 0, 64, rfl, hl, _, rfl, ?_⟩
    have hln : (ts.map V.ref).length = ps.length := by rw [List.length_map]; exact htp.len
    have e : (decide ((0 : Int) ≤ ((ts.map V.ref).length : Int)) && decide (((ts.map V.ref).length : Int) ≤ 64)) = true := by
      rw [hln]; simp; omega
    rw [e]
    refine iteF ?_
    refine ⟨_, rfl, l, rfl, ⟨_, SqL.of hl⟩, fun D hD => comp_list (xs := ts.map V.ref) (fun i ys H' => Same H H' ∧ ys = List.replicate i (.bl true) ∧ i ≤ ps.length) ⟨Same.new hD, rfl, Nat.zero_le _⟩ (fun i ys H' _ ⟨e, _⟩ => SqL.of (e _ _ hl)) ?_ ?_⟩
    · rintro i x ys H' hx ⟨se, rfl, hi⟩ hDl
      obtain ⟨t, p, rfl, hp, ht⟩ := (htp.same se).get hx
      have hi' : i < ps.length := (List.getElem?_eq_some_iff.mp hp).1
      have hb := hps p (List.mem_of_getElem? hp)
      refine yes_mk ?_
      refine ⟨_, rfl, _, rfl, t, p.1, p.2, c, rfl, ht, hc6, hb.1, hb.2, CE1.mk hDl (small1000 (by rw [List.length_replicate]; omega)) ⟨Same.up se hD, ?_, hi'⟩⟩
      rw [List.replicate_succ']
    · rintro ys H' ⟨se, rfl, _⟩ hDl
      refine ⟨D, List.replicate _ true, rfl, SqL.of (by rw [List.map_replicate]; exact hDl), ?_⟩
      have e2 : (List.replicate (ts.map V.ref).length true).all id = true := by simp
      rw [e2]
      exact k H' se
theorem ok_Rules_init (T : Txt K mg A) : FnOk P w K mg base CX0 9 A.f_Rules_init A.d_Rules_init ["self", "columns", "rules"] (sp_Rules_init A.c_Rules) := by
  have G_is_count := ok_is_count (P := P) (w := w) (base := base) T
  have G_are_rules := ok_are_rules (P := P) (w := w) (base := base) T
  refine T.F_Rules_init.ok sc_Rules_init (fun vs H Q E h => ?_) (fun cdv A' outer s H vs Q E hr h => ?_)
  · obtain ⟨p, dx, l, c, ps, rfl, _⟩ := h; rfl
  · obtain ⟨p, dx, l, c, ps, rfl, hp, hP, hG, k⟩ := h
    obtain ⟨hc1, hc6, hlen, hps⟩ := id hG
    refine ⟨_, (pss_cons (ps_if (pt_not (pt_val (pe_call G_is_count (hr.mono (by decide)) rfl T.m_is_count T.F_is_count.kp T.b_is_count .nil pass0 (pa_cons (pv 1) pa_nil)))) (pss_one ps_never) pss_nil)
      (pss_cons (ps_if (pt_not (pt_val (pe_call G_are_rules (hr.mono (by decide)) rfl T.m_are_rules T.F_are_rules.kp T.b_are_rules .nil pass0 (pa_cons (pv 2) (pa_cons (pv 1) pa_nil))))) (pss_one ps_never) pss_nil)
      (pss_cons (ps_fldK K (pv 0) (pv 1))
      (pss_one (ps_fldK K (pv 0) (pe_comp ["self", "columns", "rules"] (defScope s_Rules_init) ["rule"] [none] ⟨rfl, by decide +kernel, by decide +kernel, by decide +kernel, by decide +kernel, by decide +kernel⟩ rfl (pi_listK K (pv 2)) (fun _ _ _ _ _ => (pg_name (i := 0) (by show List.Nodup (["rule"] : List Str); decide +kernel) rfl (Or.inl rfl) (Or.inr rfl))) (fun _ _ _ _ _ => pts_nil) (fun _ _ _ _ _ => (pe_tup (pa_cons (pe_ix (ix_tupK K) (pv 0) pe_int (fun _ _ => rfl)) (pa_cons (pe_ix (ix_tupK K) (pv 0) pe_int (fun _ _ => rfl)) pa_nil)))))))))), ?_⟩
    refine ⟨_, rfl, c, rfl, _, rfl, ?_⟩
    have e : (decide ((1 : Int) ≤ (c : Int)) && decide ((c : Int) ≤ 6)) = true := by simp; omega
    rw [e]
    refine iteF ?_
    refine ⟨_, rfl, _, rfl, l, c, ps, rfl, hP, hG, fun H1 s1 => ⟨_, rfl, iteF ?_⟩⟩
    obtain ⟨ts, hl, htp⟩ := hP.same s1
    have hp1 := s1 _ _ hp
    have npl : l ≠ p := ne_of hl hp1 (by intro z; cases z)
    refine ⟨_, rfl, _, rfl, p, A.c_Rules, dx, [], rfl, hp1, T.cl_Rules, T.na_Rules_columns, by show 0 < 1000; decide, ?_⟩
    -- self.pairs = [(rule[0], rule[1]) for rule in rules]
    have hl2 : (upd H1 p (.ins A.c_Rules dx (putF "columns" (.int (c : Nat)) []))) l = some (.lst (ts.map V.ref)) := by rw [upd_ne npl]; exact hl
    have hln : (ts.map V.ref).length = ps.length := by rw [List.length_map]; exact htp.len
    have htp2 : Tps (upd H1 p (.ins A.c_Rules dx (putF "columns" (.int (c : Nat)) []))) ts ps := by
      have : ∀ {ts : List Addr} {ps : List (Nat × Nat)}, Tps H1 ts ps → Tps (upd H1 p (.ins A.c_Rules dx (putF "columns" (.int (c : Nat)) []))) ts ps := by
        intro ts
        induction ts with
        | nil => intro ps h; cases ps with
          | nil => exact h
          | cons _ _ => exact h
        | cons t ts ih => intro ps h; cases ps with
          | nil => exact h
          | cons q ps => exact ⟨by rw [upd_ne (ne_of h.1 hp1 (by intro z; cases z))]; exact h.1, ih h.2⟩
      exact this htp
    refine ⟨_, rfl, l, rfl, ⟨_, SqL.of hl2⟩, fun D hD => comp_list (xs := ts.map V.ref) (fun i ys H' => Same (upd H1 p (.ins A.c_Rules dx (putF "columns" (.int (c : Nat)) []))) H' ∧ i ≤ ps.length ∧ ∃ qs : List Addr, ys = qs.map V.ref ∧ Tps H' qs (ps.take i)) ⟨Same.new hD, Nat.zero_le _, [], rfl, trivial⟩ (fun i ys H' _ ⟨e, _⟩ => SqL.of (e _ _ hl2)) ?_ ?_⟩
    · rintro i x ys H' hx ⟨se, hi, qs, rfl, hq⟩ hDl
      obtain ⟨t, q, rfl, hqe, ht⟩ := (htp2.same se).get hx
      have hi' : i < ps.length := (List.getElem?_eq_some_iff.mp hqe).1
      have hql : qs.length = i := by rw [hq.len, List.length_take]; omega
      refine yes_mk ?_
      refine ⟨_, rfl, t, _, 0, _, rfl, rfl, SqT.of ht, rfl, _, rfl, t, _, 1, _, rfl, rfl, SqT.of ht, rfl, by show 2 ≤ sizeLine; decide, fun n hn => ?_⟩
      have nD : D ≠ n := ne_of_none hDl hn
      have hDl2 : (upd H' n (.tup [.int (q.1 : Nat), .int (q.2 : Nat)])) D = some (.lst (qs.map V.ref)) := by rw [upd_ne nD]; exact hDl
      refine CE1.mk hDl2 (small1000 (by rw [List.length_map]; omega)) ⟨Same.up (Same.up se (se.free hn)) hD, hi', qs ++ [n], by rw [List.map_append]; rfl, ?_⟩
      have et : ps.take (i + 1) = ps.take i ++ [q] := by rw [List.take_succ, hqe]; rfl
      rw [et]
      exact Tps.snoc (by rw [upd_ne nD.symm, upd_same]) ((hq.same (Same.new hn)).upd hDl2)
    · rintro ys H' ⟨se, hi, qs, rfl, hq⟩ hDl
      rw [hln, List.take_length] at hq
      have hp3 := se p _ upd_same
      have nDp : D ≠ p := ne_of hDl hp3 (by intro z; cases z)
      refine ⟨_, rfl, p, A.c_Rules, dx, _, rfl, hp3, T.cl_Rules, T.na_Rules_pairs, by show 1 < 1000; decide, ?_⟩
      have hq2 : Tps (upd H' p (.ins A.c_Rules dx (flds c D))) qs ps := by
        have : ∀ {ts : List Addr} {ps : List (Nat × Nat)}, Tps H' ts ps → Tps (upd H' p (.ins A.c_Rules dx (flds c D))) ts ps := by
          intro ts
          induction ts with
          | nil => intro ps h; cases ps with
            | nil => exact h
            | cons _ _ => exact h
          | cons t ts ih => intro ps h; cases ps with
            | nil => exact h
            | cons q ps => exact ⟨by rw [upd_ne (ne_of h.1 hp3 (by intro z; cases z))]; exact h.1, ih h.2⟩
        exact this hq
      refine k D _ ?_ ⟨⟨dx, upd_same⟩, qs, by rw [upd_ne nDp]; exact hDl, hq2⟩ fun b o hb hbp => ?_
      · rw [upd_ne nDp] at hD
        exact s1.free hD
      · rw [upd_ne hbp]
        refine se _ _ ?_
        rw [upd_ne hbp]
        exact s1 _ _ hb
theorem ok_Rules_rules (T : Txt K mg A) : FnOk P w K mg base CX0 1 A.f_Rules_rules A.d_Rules_rules ["self"] (sp_Rules_rules A.c_Rules) := by
  refine T.F_Rules_rules.ok sc_Rules_rules (fun vs H Q E h => ?_) (fun cdv A' outer s H vs Q E hr h => ?_)
  · obtain ⟨p, m, c, ps, rfl, _⟩ := h; rfl
  · obtain ⟨p, m, c, ps, rfl, ⟨⟨dx, hp⟩, ts, hm, htp⟩, k⟩ := h
    refine ⟨_, (pss_one (ps_ret (pe_callTy (call_listK K) rfl T.z_list bt_list (pa_cons (pe_fldK K (pv 0)) pa_nil)))), ?_⟩
    exact ⟨_, rfl, p, A.c_Rules, dx, _, _, rfl, hp, T.cl_Rules, T.na_Rules_pairs, flds_pairs _ _, m, _, rfl, .inl (SqL.of hm), fun l hl => k l ts hl htp⟩
end
def nums (ns : List Nat) : List V := ns.map fun n => V.int (n : Nat)
def sp_numbers : Sp := fun vs H Q _ => ∃ (l : Addr) (ns : List Nat) (m : Nat), vs = [.ref l, .int (m : Nat)] ∧ H l = some (.lst (nums ns)) ∧ (∀ n ∈ ns, n < m) ∧ ns.length ≤ 64 ∧ ∀ H', Same H H' → Q (.bl true) H'
section
variable {P : Program} {w : World} {K : PySem.W.Frag} {mg : Str → Option Value} {base : Heap} {A : Adr}
theorem ok_law_numbers (T : Txt K mg A) : FnOk P w K mg base CX0 1 A.f_law_numbers A.d_law_numbers ["_law_found", "_law_most"] sp_numbers := by
  refine T.F_law_numbers.ok sc_law_numbers (fun vs H Q E h => ?_) (fun cdv A' outer s H vs Q E hr h => ?_)
  · obtain ⟨l, ns, m, rfl, _⟩ := h; rfl
  · obtain ⟨l, ns, m, rfl, hl, hns, hlen, k⟩ := h
    refine ⟨_, (pss_cons (ps_if (pt_not (pt_val (pe_callB (call_isinstK K) rfl T.z_isinstance bt_isinstance (pa_cons (pv 0) (pa_cons (pe_bltn (v := .ty "list") rfl T.z_list bt_list rfl) pa_nil))))) (pss_one (ps_ret pe_bl)) pss_nil)
      (pss_one (ps_ret (pe_callB (call_allK K rfl) rfl T.z_all bt_all (pa_cons (pe_comp ["_law_found", "_law_most"] (defScope s_law_numbers) ["_law_one", "_law_most"] [none, some 1] ⟨rfl, by decide +kernel, by decide +kernel, by decide +kernel, by decide +kernel, by decide +kernel⟩ rfl (pi_listK K (pv 0)) (fun _ _ _ _ _ => (pg_name (i := 0) (by show List.Nodup (["_law_one", "_law_most"] : List Str); decide +kernel) rfl (Or.inl rfl) (Or.inr rfl))) (fun _ _ _ _ _ => pts_nil) (fun _ _ _ _ _ => (pe_and (pe_callB (call_isinstK K) rfl T.z_isinstance bt_isinstance (pa_cons (pv 0) (pa_cons (pe_bltn (v := .ty "int") rfl T.z_int bt_int rfl) pa_nil))) (pe_and (pe_not (pe_callB (call_isinstK K) rfl T.z_isinstance bt_isinstance (pa_cons (pv 0) (pa_cons (pe_bltn (v := .ty "bool") rfl T.z_bool bt_bool rfl) pa_nil)))) (pe_one (pe_chain op_le op_lt pe_int (pv 0) (pv 1))))))) pa_nil))))), ?_⟩
    refine ⟨_, rfl, _, _, _, true, rfl, .lst hl, kit_list_list, true, rfl, iteF ?_⟩
    refine ⟨_, rfl, l, rfl, ⟨_, SqL.of hl⟩, fun D hD => comp_list (xs := nums ns) (fun i ys H' => Same H H' ∧ ys = List.replicate i (.bl true)) ⟨Same.new hD, rfl⟩ (fun i ys H' _ ⟨e, _⟩ => SqL.of (e _ _ hl)) ?_ ?_⟩
    · rintro i x ys H' hx ⟨se, rfl⟩ hDl
      have hi : i < ns.length := by
        have := (List.getElem?_eq_some_iff.mp hx).1
        unfold nums at this
        rwa [List.length_map] at this
      have hxe : x = .int ((ns[i] : Nat) : Int) := by
        unfold nums at hx
        rw [List.getElem?_map, List.getElem?_eq_getElem hi] at hx
        exact (Option.some.inj hx).symm
      subst hxe
      have hb := hns _ (List.getElem_mem hi)
      refine yes_mk ?_
      refine ⟨_, rfl, _, _, _, true, rfl, .int _, kit_int_int, true, rfl, iteT ?_⟩
      refine ⟨_, rfl, _, _, _, false, rfl, .int _, kit_int_bool, false, rfl, true, rfl, iteT ?_⟩
      refine ⟨_, rfl, 0, _, rfl, rfl, _, rfl, ?_⟩
      have e1 : decide ((0 : Int) ≤ ((ns[i] : Nat) : Int)) = true := decide_eq_true (Int.natCast_nonneg _)
      rw [e1]
      refine iteT ⟨_, rfl, _, _, rfl, rfl, ?_⟩
      have e2 : decide (((ns[i] : Nat) : Int) < ((m : Nat) : Int)) = true := decide_eq_true (by omega)
      show CE1 _ D _ (i + 1) _ (V.bl (decide (((ns[i] : Nat) : Int) < ((m : Nat) : Int)))) H'
      rw [e2]
      refine CE1.mk hDl (small1000 (by rw [List.length_replicate]; omega)) ⟨Same.up se hD, ?_⟩
      rw [List.replicate_succ']
    · rintro ys H' ⟨se, rfl⟩ hDl
      refine ⟨D, List.replicate _ true, rfl, SqL.of (by rw [List.map_replicate]; exact hDl), ?_⟩
      have e2 : (List.replicate (nums ns).length true).all id = true := by simp
      rw [e2]
      exact k H' se
end
/-! ### the law -/
theorem nums_dt {H : Hp} : ∀ (ns : List Nat), Dts H (nums ns) (ns.map fun n => PyData.int (n : Nat))
  | [] => .nil
  | _ :: ns => .cons (.int _) (nums_dt ns)
theorem lay_nums : ∀ ns : List Nat, PyData.canLayAll0 (ns.map fun n => PyData.int (n : Nat)) = true
  | [] => rfl
  | _ :: ns => by
    show (PyData.canLay0 (.int _) && PyData.canLayAll0 (ns.map fun n => PyData.int (n : Nat))) = true
    rw [lay_nums ns]; rfl
theorem depth_nums : ∀ ns : List Nat, PyData.depthAll (ns.map fun n => PyData.int (n : Nat)) ≤ 1
  | [] => Nat.zero_le _
  | _ :: ns => Nat.max_le.mpr ⟨Nat.zero_le _, depth_nums ns⟩
theorem eqv_nums : ∀ ns : List Nat, PyData.eqvAll (ns.map fun n => PyData.int (n : Nat)) (ns.map fun n => PyData.int (n : Nat)) = true
  | [] => rfl
  | n :: ns => by
    show (((n : Int) == (n : Int)) && PyData.eqvAll (ns.map fun n => PyData.int (n : Nat)) (ns.map fun n => PyData.int (n : Nat))) = true
    rw [eqv_nums ns]; simp
theorem menu (x : Int) : ∃ c : Nat, 1 ≤ c ∧ c ≤ 6 ∧ atI [V.int 3, V.int 4, V.int 2, V.int 5, V.int 3, V.int 4, V.int 1, V.int 6] (x % 8) = some (.int (c : Nat)) := by
  have h : x % 8 = 0 ∨ x % 8 = 1 ∨ x % 8 = 2 ∨ x % 8 = 3 ∨ x % 8 = 4 ∨ x % 8 = 5 ∨ x % 8 = 6 ∨ x % 8 = 7 := by omega
  rcases h with h | h | h | h | h | h | h | h <;> rw [h]
  · exact ⟨3, by decide, by decide, rfl⟩
  · exact ⟨4, by decide, by decide, rfl⟩
  · exact ⟨2, by decide, by decide, rfl⟩
  · exact ⟨5, by decide, by decide, rfl⟩
  · exact ⟨3, by decide, by decide, rfl⟩
  · exact ⟨4, by decide, by decide, rfl⟩
  · exact ⟨1, by decide, by decide, rfl⟩
  · exact ⟨6, by decide, by decide, rfl⟩
end K06

namespace K06
open PySem L2 TC
/-! ### tables -/
theorem and64 : ∀ a, a < 64 → ∀ i, i < 6 → ((a &&& 2 ^ i) != 0) = a.testBit i := by decide +kernel
theorem and_bit {a i : Nat} (ha : a < 64) (hi : i < 6) : (Builtin.bitAnd (a : Int) ((1 : Int) * 2 ^ ((i : Int)).toNat) != 0) = a.testBit i := by
  rw [shl_nat, and_nat, ← and64 a ha i hi]
  generalize a &&& 2 ^ i = z
  cases z with
  | zero => rfl
  | succ n => rfl
theorem nums_snoc (ns : List Nat) (n : Nat) : nums (ns ++ [n]) = nums ns ++ [.int (n : Nat)] := by unfold nums; rw [List.map_append]; rfl
theorem nums_len (ns : List Nat) : (nums ns).length = ns.length := by unfold nums; rw [List.length_map]
theorem nums_at {ns : List Nat} {i : Nat} {x : V} (h : (nums ns)[i]? = some x) : ∃ n, ns[i]? = some n ∧ x = .int (n : Nat) := by
  unfold nums at h
  rw [List.getElem?_map] at h
  cases e : ns[i]? with
  | none => rw [e] at h; cases h
  | some n => rw [e] at h; exact ⟨n, rfl, (Option.some.inj h).symm⟩
theorem nums_inj : ∀ {a b : List Nat}, nums a = nums b → a = b
  | [], [], _ => rfl
  | [], _ :: _, h => by cases h
  | _ :: _, [], h => by cases h
  | x :: a, y :: b, h => by
    have h' : V.int (x : Nat) :: nums a = V.int (y : Nat) :: nums b := h
    injection h' with h1 h2
    injection h1 with h1
    rw [nums_inj h2, Int.ofNat.inj h1]
/-- rows stand at ts -/
def Rws (H : Hp) : List Addr → List (List Nat) → Prop
  | [], [] => True
  | t :: ts, r :: rs => H t = some (.lst (nums r)) ∧ Rws H ts rs
  | _, _ => False
theorem Rws.same {H H' : Hp} (e : Same H H') : ∀ {ts : List Addr} {rs : List (List Nat)}, Rws H ts rs → Rws H' ts rs
  | [], [], _ => trivial
  | _ :: _, _ :: _, ⟨h, t⟩ => ⟨e _ _ h, Rws.same e t⟩
  | [], _ :: _, h => h.elim
  | _ :: _, [], h => h.elim
theorem Rws.len {H : Hp} : ∀ {ts : List Addr} {rs : List (List Nat)}, Rws H ts rs → ts.length = rs.length
  | [], [], _ => rfl
  | _ :: _, _ :: _, ⟨_, t⟩ => congrArg (· + 1) (Rws.len t)
  | [], _ :: _, h => h.elim
  | _ :: _, [], h => h.elim
theorem Rws.get {H : Hp} : ∀ {ts : List Addr} {rs : List (List Nat)} {i : Nat} {v : V}, Rws H ts rs → (ts.map V.ref)[i]? = some v → ∃ t r, v = .ref t ∧ rs[i]? = some r ∧ H t = some (.lst (nums r))
  | [], [], i, v, _, h => by simp at h
  | t :: _, r :: _, 0, v, ⟨h, _⟩, e => ⟨t, r, by simpa using e.symm, by simp, h⟩
  | _ :: _, _ :: _, i + 1, v, ⟨_, t⟩, e => by
    obtain ⟨a, b, h1, h2, h3⟩ := Rws.get (i := i) t (by simpa using e)
    exact ⟨a, b, h1, by simpa using h2, h3⟩
  | [], _ :: _, _, _, h, _ => h.elim
  | _ :: _, [], _, _, h, _ => h.elim
theorem Rws.snoc {H : Hp} {t : Addr} {r : List Nat} (e : H t = some (.lst (nums r))) : ∀ {ts : List Addr} {rs : List (List Nat)}, Rws H ts rs → Rws H (ts ++ [t]) (rs ++ [r])
  | [], [], _ => ⟨e, trivial⟩
  | _ :: _, _ :: _, ⟨h, t⟩ => ⟨h, Rws.snoc e t⟩
  | [], _ :: _, h => h.elim
  | _ :: _, [], h => h.elim
def TblAt (H : Hp) (l : Addr) (rs : List (List Nat)) : Prop := ∃ ts : List Addr, H l = some (.lst (ts.map V.ref)) ∧ Rws H ts rs
theorem TblAt.same {H H' : Hp} (e : Same H H') {l : Addr} {rs : List (List Nat)} : TblAt H l rs → TblAt H' l rs := fun ⟨ts, h, t⟩ => ⟨ts, e _ _ h, t.same e⟩
/-- a table of c columns -/
def GoodT (c : Nat) (rs : List (List Nat)) : Prop := rs.length ≤ 64 ∧ ∀ r ∈ rs, r.length = c ∧ ∀ n ∈ r, n ≤ 99
/-- what a row has in a set of columns -/
def cellsI (r : List Nat) (s i : Nat) : List Nat := ((List.range i).filter fun j => s.testBit j).map fun j => r.getD j 0
def cellsN (r : List Nat) (s : Nat) : List Nat := cellsI r s r.length
theorem cellsI_succ (r : List Nat) (s i : Nat) : cellsI r s (i + 1) = cellsI r s i ++ (if s.testBit i = true then [r.getD i 0] else []) := by
  unfold cellsI
  rw [List.range_succ, List.filter_append, List.map_append]
  congr 1
  by_cases h : s.testBit i = true
  · rw [if_pos h, List.filter_cons, if_pos h]; rfl
  · rw [if_neg h, List.filter_cons, if_neg h]; rfl
theorem cellsI_len (r : List Nat) (s i : Nat) : (cellsI r s i).length ≤ i := by
  unfold cellsI
  rw [List.length_map]
  exact Nat.le_trans (List.length_filter_le _ _) (by rw [List.length_range]; exact Nat.le_refl _)
/-- whether a table keeps a rule -/
def Keeps (rs : List (List Nat)) (p : Nat × Nat) : Prop := ∀ a ∈ rs, ∀ b ∈ rs, cellsN a p.1 = cellsN b p.1 → cellsN a p.2 = cellsN b p.2
instance (rs : List (List Nat)) (p : Nat × Nat) : Decidable (Keeps rs p) := by unfold Keeps; infer_instance
def sp_is_row : Sp := fun vs H Q _ => ∃ (l : Addr) (c : Nat) (r : List Nat), vs = [.ref l, .int (c : Nat)] ∧ c ≤ 6 ∧ H l = some (.lst (nums r)) ∧ r.length = c ∧ (∀ n ∈ r, n ≤ 99) ∧ ∀ H', Same H H' → Q (.bl true) H'
def sp_is_table : Sp := fun vs H Q _ => ∃ (l : Addr) (c : Nat) (rs : List (List Nat)), vs = [.ref l, .int (c : Nat)] ∧ c ≤ 6 ∧ TblAt H l rs ∧ GoodT c rs ∧ ∀ H', Same H H' → Q (.bl true) H'
def sp_are_parts : Sp := fun vs H Q _ => ∃ (l : Addr) (c : Nat) (ps : List Nat), vs = [.ref l, .int (c : Nat)] ∧ c ≤ 6 ∧ H l = some (.lst (nums ps)) ∧ 1 ≤ ps.length ∧ ps.length ≤ 64 ∧ (∀ p ∈ ps, 1 ≤ p ∧ p < 2 ^ c) ∧ ps.foldl (· ||| ·) 0 = 2 ^ c - 1 ∧ Q (.bl true) H
def sp_cells : Sp := fun vs H Q _ => ∃ (l : Addr) (r : List Nat) (s : Nat), vs = [.ref l, .int (s : Nat)] ∧ H l = some (.lst (nums r)) ∧ r.length ≤ 6 ∧ s < 64 ∧ ∀ (t : Addr) (H' : Hp), H t = none → Same H H' → H' t = some (.tup (nums (cellsN r s))) → Q (.ref t) H'
def sp_keeps : Sp := fun vs H Q _ => ∃ (l t : Addr) (rs : List (List Nat)) (p : Nat × Nat), vs = [.ref l, .ref t] ∧ TblAt H l rs ∧ rs.length ≤ 64 ∧ (∀ r ∈ rs, r.length ≤ 6) ∧ H t = some (.tup [.int (p.1 : Nat), .int (p.2 : Nat)]) ∧ p.1 < 64 ∧ p.2 < 64 ∧ ∀ H', Same H H' → Q (.bl (decide (Keeps rs p))) H'
section
variable {P : Program} {w : World} {K : PySem.W.Frag} {mg : Str → Option Value} {base : Heap} {A : Adr}
theorem ok_is_row (T : Txt K mg A) : FnOk P w K mg base CX0 3 A.f_is_row A.d_is_row ["value", "columns"] sp_is_row := by
  have G_is_list := ok_is_list (P := P) (w := w) (base := base) T
  have G_is_number := ok_is_number (P := P) (w := w) (base := base) T
  refine T.F_is_row.ok sc_is_row (fun vs H Q E h => ?_) (fun cdv A' outer s H vs Q E hr h => ?_)
  · obtain ⟨l, c, r, rfl, _⟩ := h; rfl
  · obtain ⟨l, c, r, rfl, hc, hl, hlen, hr9, k⟩ := h
    refine ⟨_, (pss_cons (ps_if (pt_not (pt_val (pe_call G_is_list (hr.mono (by decide)) rfl T.m_is_list T.F_is_list.kp T.b_is_list .nil pass0 (pa_cons (pv 0) (pa_cons (pv 1) (pa_cons (pv 1) pa_nil)))))) (pss_one (ps_ret pe_bl)) pss_nil)
      (pss_one (ps_ret (pe_callB (call_allK K rfl) rfl T.z_all bt_all (pa_cons (pe_comp ["value", "columns"] (defScope s_is_row) ["number"] [none] ⟨rfl, by decide +kernel, by decide +kernel, by decide +kernel, by decide +kernel, by decide +kernel⟩ rfl (pi_listK K (pv 0)) (fun _ _ _ _ _ => (pg_name (i := 0) (by show List.Nodup (["number"] : List Str); decide +kernel) rfl (Or.inl rfl) (Or.inr rfl))) (fun _ _ _ _ _ => pts_nil) (fun _ _ _ _ _ => (pe_call G_is_number (hr.mono (by decide)) rfl T.m_is_number T.F_is_number.kp T.b_is_number .nil pass0 (pa_cons (pv 0) (pa_cons pe_int (pa_cons (pe_glob (v := .int 99) rfl T.g_MOST_NUMBER.choose_spec ⟨_, rfl⟩) pa_nil)))))) pa_nil))))), ?_⟩
    refine ⟨_, rfl, _, rfl, _, rfl, l, nums r, (c : Int), (c : Int), rfl, hl, _, rfl, ?_⟩
    have e : (decide ((c : Int) ≤ ((nums r).length : Int)) && decide (((nums r).length : Int) ≤ (c : Int))) = true := by
      rw [nums_len, hlen]; simp
    rw [e]
    refine iteF ?_
    refine ⟨_, rfl, l, rfl, ⟨_, SqL.of hl⟩, fun D hD => comp_list (xs := nums r) (fun i ys H' => Same H H' ∧ ys = List.replicate i (.bl true) ∧ i ≤ r.length) ⟨Same.new hD, rfl, Nat.zero_le _⟩ (fun i ys H' _ ⟨e, _⟩ => SqL.of (e _ _ hl)) ?_ ?_⟩
    · rintro i x ys H' hx ⟨se, rfl, hi⟩ hDl
      obtain ⟨n, hn, rfl⟩ := nums_at hx
      have hi' : i < r.length := (List.getElem?_eq_some_iff.mp hn).1
      have hb := hr9 n (List.mem_of_getElem? hn)
      refine yes_mk ?_
      refine ⟨_, rfl, (n : Int), 0, 99, rfl, ?_⟩
      have e2 : (decide ((0 : Int) ≤ (n : Int)) && decide ((n : Int) ≤ 99)) = true := by simp; omega
      rw [e2]
      refine CE1.mk hDl (small1000 (by rw [List.length_replicate]; omega)) ⟨Same.up se hD, ?_, hi'⟩
      rw [List.replicate_succ']
    · rintro ys H' ⟨se, rfl, _⟩ hDl
      refine ⟨D, List.replicate _ true, rfl, SqL.of (by rw [List.map_replicate]; exact hDl), ?_⟩
      have e2 : (List.replicate (nums r).length true).all id = true := by simp
      rw [e2]
      exact k H' se
theorem ok_is_table (T : Txt K mg A) : FnOk P w K mg base CX0 5 A.f_is_table A.d_is_table ["value", "columns"] sp_is_table := by
  have G_is_list := ok_is_list (P := P) (w := w) (base := base) T
  have G_is_row := ok_is_row (P := P) (w := w) (base := base) T
  refine T.F_is_table.ok sc_is_table (fun vs H Q E h => ?_) (fun cdv A' outer s H vs Q E hr h => ?_)
  · obtain ⟨l, c, rs, rfl, _⟩ := h; rfl
  · obtain ⟨l, c, rs, rfl, hc, ⟨ts, hl, htp⟩, ⟨hlen, hrs⟩, k⟩ := h
    refine ⟨_, (pss_cons (ps_if (pt_not (pt_val (pe_call G_is_list (hr.mono (by decide)) rfl T.m_is_list T.F_is_list.kp T.b_is_list .nil pass0 (pa_cons (pv 0) (pa_cons pe_int (pa_cons (pe_glob (v := .int 64) rfl T.g_MOST_ROWS.choose_spec ⟨_, rfl⟩) pa_nil)))))) (pss_one (ps_ret pe_bl)) pss_nil)
      (pss_one (ps_ret (pe_callB (call_allK K rfl) rfl T.z_all bt_all (pa_cons (pe_comp ["value", "columns"] (defScope s_is_table) ["row", "columns"] [none, some 1] ⟨rfl, by decide +kernel, by decide +kernel, by decide +kernel, by decide +kernel, by decide +kernel⟩ rfl (pi_listK K (pv 0)) (fun _ _ _ _ _ => (pg_name (i := 0) (by show List.Nodup (["row", "columns"] : List Str); decide +kernel) rfl (Or.inl rfl) (Or.inr rfl))) (fun _ _ _ _ _ => pts_nil) (fun _ _ _ _ _ => (pe_call G_is_row (hr.mono (by decide)) rfl T.m_is_row T.F_is_row.kp T.b_is_row .nil pass0 (pa_cons (pv 0) (pa_cons (pv 1) pa_nil))))) pa_nil))))), ?_⟩
    refine ⟨_, rfl, l, ts.map V.ref, 0, 64, rfl, hl, _, rfl, ?_⟩
    have hln : (ts.map V.ref).length = rs.length := by rw [List.length_map]; exact htp.len
    have e : (decide ((0 : Int) ≤ ((ts.map V.ref).length : Int)) && decide (((ts.map V.ref).length : Int) ≤ 64)) = true := by
      rw [hln]; simp; omega
    rw [e]
    refine iteF ?_
    refine ⟨_, rfl, l, rfl, ⟨_, SqL.of hl⟩, fun D hD => comp_list (xs := ts.map V.ref) (fun i ys H' => Same H H' ∧ H' D = some (.lst ys) ∧ ys = List.replicate i (.bl true) ∧ i ≤ rs.length) ⟨Same.new hD, upd_same, rfl, Nat.zero_le _⟩ (fun i ys H' _ ⟨e, _⟩ => SqL.of (e _ _ hl)) ?_ ?_⟩
    · rintro i x ys H' hx ⟨se, _, rfl, hi⟩ hDl
      obtain ⟨t, r, rfl, hp, ht⟩ := (htp.same se).get hx
      have hi' : i < rs.length := (List.getElem?_eq_some_iff.mp hp).1
      have hb := hrs r (List.mem_of_getElem? hp)
      refine yes_mk ?_
      refine ⟨_, rfl, _, rfl, t, c, r, rfl, hc, ht, hb.1, hb.2, fun H2 s2 => ?_⟩
      refine CE1.mk (s2 _ _ hDl) (small1000 (by rw [List.length_replicate]; omega)) ⟨Same.up (se.trans s2) hD, upd_same, ?_, hi'⟩
      rw [List.replicate_succ']
    · rintro ys H' ⟨se, _, rfl, _⟩ hDl
      refine ⟨D, List.replicate _ true, rfl, SqL.of (by rw [List.map_replicate]; exact hDl), ?_⟩
      have e2 : (List.replicate (ts.map V.ref).length true).all id = true := by simp
      rw [e2]
      exact k H' se
theorem ok_cells (T : Txt K mg A) : FnOk P w K mg base CX0 1 A.f_cells A.d_cells ["row", "some"] sp_cells := by
  refine T.F_cells.ok sc_cells (fun vs H Q E h => ?_) (fun cdv A' outer s H vs Q E hr h => ?_)
  · obtain ⟨l, r, s, rfl, _⟩ := h; rfl
  · obtain ⟨l, r, s, rfl, hl, hr6, hs, k⟩ := h
    refine ⟨_, (pss_one (ps_ret (pe_callTy (call_tupleK K) rfl T.z_tuple bt_tuple (pa_cons (pe_comp ["row", "some"] (defScope s_cells) ["column", "number", "some"] [none, none, some 1] ⟨rfl, by decide +kernel, by decide +kernel, by decide +kernel, by decide +kernel, by decide +kernel⟩ rfl (pi_enumK K rfl T.z_enumerate bt_enumerate (pa_cons (pv 0) pa_nil)) (fun _ _ _ _ _ => pg_tupK K (n := 2) rfl (pgs_cons (pg_name (i := 0) (by show List.Nodup (["column", "number", "some"] : List Str); decide +kernel) rfl (Or.inl rfl) (Or.inr rfl)) (pgs_cons (pg_name (i := 1) (by show List.Nodup (["column", "number", "some"] : List Str); decide +kernel) rfl (Or.inl rfl) (Or.inr rfl)) pgs_nil))) (fun _ _ _ _ _ => pts_one (pt_truthK K (pe_op op_and (pv 2) (pe_op op_shl pe_int (pv 0))))) (fun _ _ _ _ _ => (pv 1))) pa_nil)))), ?_⟩
    refine ⟨_, rfl, l, nums r, rfl, hl, fun D hD => comp_enum (xs := nums r) (fun i ys H' => Same H H' ∧ i ≤ r.length ∧ ys = nums (cellsI r s i)) ⟨Same.new hD, Nat.zero_le _, rfl⟩ (fun i ys H' _ ⟨e, _⟩ => e _ _ hl) ?_ ?_⟩
    · rintro i x ys H' p hx ⟨se, hi, rfl⟩ hDl hp
      obtain ⟨n, hn, rfl⟩ := nums_at hx
      have hi' : i < r.length := (List.getElem?_eq_some_iff.mp hn).1
      have hll : (nums (cellsI r s i)).length ≤ 64 := by
        rw [nums_len]
        exact Nat.le_trans (cellsI_len r s i) (by omega)
      have hDl2 : (upd H' p (.tup [.int (i : Nat), .int (n : Nat)])) D = some (.lst (nums (cellsI r s i))) := by rw [upd_ne (ne_of_none hDl hp)]; exact hDl
      have hg : r.getD i 0 = n := by simp [List.getD, hn]
      refine ⟨_, rfl, _, rfl, 1, (i : Int), rfl, rfl, ⟨Int.natCast_nonneg i, by omega, by decide⟩, _, _, rfl, rfl, _, rfl, ?_⟩
      rw [and_bit hs (by omega)]
      refine ite2 (fun e => ?_) (fun e => ?_)
      · refine ⟨_, rfl, CE2.mk hDl2 (small1000 (by omega)) ⟨Same.up (Same.up se (se.free hp)) hD, hi', ?_⟩⟩
        rw [cellsI_succ, if_pos e, nums_snoc, hg]
      · refine CN2.mk hDl2 ⟨Same.up se (se.free hp), hi', ?_⟩
        rw [cellsI_succ, if_neg e, List.append_nil]
    · rintro ys H' ⟨se, _, rfl⟩ hDl
      rw [nums_len] at hDl
      refine ⟨D, _, rfl, .inl ⟨SqL.of hDl, fun t ht => ?_⟩⟩
      exact k t _ (se.free ht) (Same.up se (se.free ht)) upd_same
end
end K06

namespace K06
open PySem L2 TC
def keyN (ns : List Nat) : List Key := ns.map fun (n : Nat) => (Sum.inl ((n : Nat) : Int) : Key)
theorem keyN_map : ∀ ns : List Nat, (keyN ns).map kV = nums ns
  | [] => rfl
  | n :: ns => by
    show kV (Sum.inl ((n : Nat) : Int)) :: (keyN ns).map kV = V.int (n : Nat) :: nums ns
    rw [keyN_map ns]; rfl
theorem keyN_inj {a b : List Nat} (h : keyN a = keyN b) : a = b := nums_inj (by rw [← keyN_map, ← keyN_map, h])
theorem eqv_numsD : ∀ a b : List Nat, PyData.eqvAll (a.map fun n => PyData.int (n : Nat)) (b.map fun n => PyData.int (n : Nat)) = decide (a = b)
  | [], [] => rfl
  | [], _ :: _ => by simp [PyData.eqvAll]
  | _ :: _, [] => by simp [PyData.eqvAll]
  | x :: a, y :: b => by
    show (((x : Int) == (y : Int)) && PyData.eqvAll (a.map fun n => PyData.int (n : Nat)) (b.map fun n => PyData.int (n : Nat))) = _
    rw [eqv_numsD a b]
    by_cases h : x = y
    · subst h; simp
    · have h1 : ((x : Int) == (y : Int)) = false := by
        rw [beq_eq_false_iff_ne]; omega
      rw [h1]; simp [h]
def tupD (ns : List Nat) : PyData := .tuple (ns.map fun n => PyData.int (n : Nat))
theorem tupD_dt {H : Hp} {t : Addr} {ns : List Nat} (h : H t = some (.tup (nums ns))) : Dt H (.ref t) (tupD ns) := .tup h (nums_dt ns)
theorem tupD_lay (ns : List Nat) : (tupD ns).canLay0 = true := lay_nums ns
theorem tupD_depth (ns : List Nat) : (tupD ns).depth ≤ 60 := by
  show PyData.depthAll _ + 1 ≤ 60
  have := depth_nums ns
  omega
theorem tupD_eqv (a b : List Nat) : PyData.eqv (tupD a) (tupD b) = decide (a = b) := eqv_numsD a b
theorem take_mem {α : Type} {rs : List α} {i : Nat} {r a : α} (h : rs[i]? = some r) : a ∈ rs.take (i + 1) ↔ a ∈ rs.take i ∨ a = r := by
  rw [List.take_succ, h, List.mem_append]; simp
def sp_seen : Sp := fun vs H Q _ => ∃ (l : Addr) (rs : List (List Nat)) (s : Nat), vs = [.ref l, .int (s : Nat)] ∧ TblAt H l rs ∧ rs.length ≤ 64 ∧ (∀ r ∈ rs, r.length ≤ 6) ∧ s < 64 ∧ ∀ (d : Addr) (kvs : List (List Key × V)) (H' : Hp), H d = none → Same H H' → H' d = some (.dT kvs) → (∀ k, (valV kvs k).isSome = true ↔ ∃ r ∈ rs, k = keyN (cellsN r s)) → Q (.ref d) H'
def brk (rs : List (List Nat)) (ps : List (Nat × Nat)) : List Nat := (List.range ps.length).filter fun i => !decide (Keeps rs (ps.getD i (0, 0)))
def sp_broken (C : Addr) : Sp := fun vs H Q _ => ∃ (p m l : Addr) (c : Nat) (ps : List (Nat × Nat)) (rs : List (List Nat)), vs = [.ref p, .ref l] ∧ RulesAt C H p m c ps ∧ Good c ps ∧ TblAt H l rs ∧ GoodT c rs ∧
  ∀ (d : Addr) (H' : Hp), H d = none → Same H H' → H' d = some (.lst (nums (brk rs ps))) → Q (.ref d) H'
section
variable {P : Program} {w : World} {K : PySem.W.Frag} {mg : Str → Option Value} {base : Heap} {A : Adr}
theorem ok_keeps (T : Txt K mg A) : FnOk P w K mg base CX0 3 A.f_keeps A.d_keeps ["table", "rule"] sp_keeps := by
  have G_cells := ok_cells (P := P) (w := w) (base := base) T
  refine T.F_keeps.ok sc_keeps (fun vs H Q E h => ?_) (fun cdv A' outer s H vs Q E hr h => ?_)
  · obtain ⟨l, t, rs, p, rfl, _⟩ := h; rfl
  · obtain ⟨l, t, rs, p, rfl, ⟨ts, hl, htp⟩, hlen, hr6, ht, hp1, hp2, k⟩ := h
    refine ⟨_, (pss_cons (ps_set (i := 2) sc_keeps.nd rfl (Or.inl rfl) pe_dnewT)
      (pss_cons (ps_for PassesOwn.never rfl (pi_listK K (pv 0)) (pg_name (i := 3) sc_keeps.nd rfl (Or.inl rfl))
      (pss_cons (ps_set (i := 4) sc_keeps.nd rfl (Or.inl rfl) (pe_call G_cells (hr.mono (by decide)) rfl T.m_cells T.F_cells.kp T.b_cells .nil pass0 (pa_cons (pv 3) (pa_cons (pe_ix (ix_tupK K) (pv 1) pe_int (fun _ _ => rfl)) pa_nil))))
      (pss_one (ps_if (pt_cmpR (op_neD hr.units) (pe_dsetdef (hu_of hr) (pv 2) (pe_call G_cells (hr.mono (by decide)) rfl T.m_cells T.F_cells.kp T.b_cells .nil pass0 (pa_cons (pv 3) (pa_cons (pe_ix (ix_tupK K) (pv 1) pe_int (fun _ _ => rfl)) pa_nil))) (pv 4) ⟨rfl, rfl, rfl, rfl⟩) (pv 4) (nomark _)) (pss_one (ps_ret pe_bl)) pss_nil))))
      (pss_one (ps_ret pe_bl)))), ?_⟩
    refine fun D hD => ?_
    have hln : (ts.map V.ref).length = rs.length := by rw [List.length_map]; exact htp.len
    refine ⟨_, rfl, l, rfl, ⟨_, SqL.of (Same.new hD _ _ hl)⟩, for_list (K := K) (a := l) (xs := ts.map V.ref) (fun i σ' H' => Same H H' ∧ (∃ rv gv, σ' = [some (.ref l), some (.ref t), some (.ref D), rv, gv]) ∧ ∃ kvs, H' D = some (.dT kvs) ∧ kvs.length ≤ i ∧
        (∀ r ∈ rs.take i, ∃ v, valV kvs (keyN (cellsN r p.1)) = some (.ref v) ∧ H' v = some (.tup (nums (cellsN r p.2)))) ∧
        (∀ q v, valV kvs q = some v → ∃ r ∈ rs.take i, q = keyN (cellsN r p.1) ∧ ∃ tv, v = .ref tv ∧ H' tv = some (.tup (nums (cellsN r p.2)))))
      ⟨Same.new hD, ⟨none, none, rfl⟩, [], upd_same, Nat.le_refl _, fun r hr' => by simp at hr', fun q v h => by cases h⟩ (fun i σ' H' _ ⟨e, _⟩ => SqL.of (e _ _ hl)) ?_ ?_⟩
    · rintro i x σ' H' hx ⟨se, ⟨rv, gv, rfl⟩, kvs, hDd, hkl, i1, i2⟩
      obtain ⟨tr, r, rfl, hri, hrow⟩ := (htp.same se).get hx
      have hrm : r ∈ rs := List.mem_of_getElem? hri
      have hi' : i < rs.length := (List.getElem?_eq_some_iff.mp hri).1
      refine ⟨_, rfl, _, rfl, t, _, 1, _, rfl, rfl, SqT.of (se _ _ ht), rfl, tr, r, p.2, rfl, hrow, hr6 r hrm, hp2, fun t2 H2 f2 s2 c2 => ?_⟩
      have hD2 := s2 _ _ hDd
      refine ⟨_, rfl, D, rfl, .inr ⟨kvs, .inl hD2⟩, _, rfl, _, rfl, t, _, 0, _, rfl, rfl, SqT.of (s2 _ _ (se _ _ ht)), rfl, tr, r, p.1, rfl, s2 _ _ hrow, hr6 r hrm, hp1, fun t1 H3 f3 s3 c3 => ?_⟩
      have hD3 := s3 _ _ hD2
      have c2' := s3 _ _ c2
      have s13 : Same H' H3 := s2.trans s3
      refine ⟨_, rfl, kvs, keyN (cellsN r p.1), t1, hD3, rfl, by rw [keyN_map]; exact c3, small1000 (by omega), fun v hv => ?_, fun hv => ?_⟩
      · obtain ⟨r0, hr0, ek, tv, rfl, htv⟩ := i2 _ _ hv
        have htv3 := s13 _ _ htv
        refine ⟨_, rfl, tupD (cellsN r0 p.2), tupD (cellsN r p.2), tupD_dt htv3, tupD_dt c2', tupD_lay _, tupD_lay _, tupD_depth _, _, rfl, ?_⟩
        rw [if_pos rfl, tupD_eqv]
        refine ite2 (fun e => ?_) (fun e => ?_)
        · have hne : ¬ cellsN r0 p.2 = cellsN r p.2 := by simpa using e
          have hk : decide (Keeps rs p) = false := decide_eq_false fun z => hne (z r0 (List.mem_of_mem_take hr0) r hrm (keyN_inj ek).symm)
          have z := k H3 (se.trans s13)
          rw [hk] at z
          exact z
        · have he : cellsN r0 p.2 = cellsN r p.2 := by simpa using e
          refine ⟨se.trans s13, ⟨_, _, rfl⟩, kvs, hD3, by omega, fun a ha => ?_, fun q v hq => ?_⟩
          · rcases (take_mem hri).mp ha with ha | rfl
            · obtain ⟨v, h1, h2⟩ := i1 a ha
              exact ⟨v, h1, s13 _ _ h2⟩
            · exact ⟨tv, hv, by rw [← he]; exact htv3⟩
          · obtain ⟨a, ha, h1, tv', h2, h3⟩ := i2 q v hq
            exact ⟨a, (take_mem hri).mpr (.inl ha), h1, tv', h2, s13 _ _ h3⟩
      · have nD : ∀ v xs, H3 v = some (.tup xs) → v ≠ D := fun v xs h => ne_of h hD3 (by intro z; cases z)
        have c2u : (upd H3 D (.dT (putK kvs (keyN (cellsN r p.1)) (.ref t2)))) t2 = some (.tup (nums (cellsN r p.2))) := by rw [upd_ne (nD _ _ c2')]; exact c2'
        refine ⟨_, rfl, tupD (cellsN r p.2), tupD (cellsN r p.2), tupD_dt c2u, tupD_dt c2u, tupD_lay _, tupD_lay _, tupD_depth _, _, rfl, ?_⟩
        rw [if_pos rfl, tupD_eqv, decide_eq_true rfl]
        refine iteF ?_
        refine ⟨Same.up (se.trans s13) hD, ⟨_, _, rfl⟩, _, upd_same, by have := length_putK kvs (keyN (cellsN r p.1)) (.ref t2); omega, fun a ha => ?_, fun q v hq => ?_⟩
        · rw [valV_put]
          rcases (take_mem hri).mp ha with ha | rfl
          · obtain ⟨v, h1, h2⟩ := i1 a ha
            have h2' := s13 _ _ h2
            refine ⟨v, ?_, by rw [upd_ne (nD _ _ h2')]; exact h2'⟩
            rw [if_neg fun z => by rw [z, hv] at h1; cases h1]
            exact h1
          · exact ⟨t2, if_pos rfl, c2u⟩
        · rw [valV_put] at hq
          by_cases hqe : q = keyN (cellsN r p.1)
          · rw [if_pos hqe] at hq
            exact ⟨r, (take_mem hri).mpr (.inr rfl), hqe, t2, (Option.some.inj hq).symm, c2u⟩
          · rw [if_neg hqe] at hq
            obtain ⟨a, ha, h1, tv', h2, h3⟩ := i2 q v hq
            have h3' := s13 _ _ h3
            exact ⟨a, (take_mem hri).mpr (.inl ha), h1, tv', h2, by rw [upd_ne (nD _ _ h3')]; exact h3'⟩
    · rintro σ' H' ⟨se, ⟨rv, gv, rfl⟩, kvs, hDd, hkl, i1, i2⟩
      rw [hln, List.take_length] at i1
      have hk : decide (Keeps rs p) = true := decide_eq_true fun a ha b hb e => by
        obtain ⟨v, h1, h2⟩ := i1 a ha
        obtain ⟨u, h3, h4⟩ := i1 b hb
        rw [e, h3] at h1
        cases h1
        rw [h2] at h4
        injection h4 with h4
        injection h4 with h4
        exact nums_inj h4
      have z := k H' se
      rw [hk] at z
      exact z
theorem ok_are_parts (T : Txt K mg A) : FnOk P w K mg base CX0 3 A.f_are_parts A.d_are_parts ["value", "columns"] sp_are_parts := by
  have G_is_list := ok_is_list (P := P) (w := w) (base := base) T
  have G_is_number := ok_is_number (P := P) (w := w) (base := base) T
  have G_all_columns := ok_all_columns (P := P) (w := w) (base := base) T
  refine T.F_are_parts.ok sc_are_parts (fun vs H Q E h => ?_) (fun cdv A' outer s H vs Q E hr h => ?_)
  · obtain ⟨l, c, ps, rfl, _⟩ := h; rfl
  · obtain ⟨l, c, ps, rfl, hc, hl, hl1, hl64, hps, hall, k⟩ := h
    refine ⟨_, (pss_cons (ps_if (pt_not (pt_val (pe_call G_is_list (hr.mono (by decide)) rfl T.m_is_list T.F_is_list.kp T.b_is_list .nil pass0 (pa_cons (pv 0) (pa_cons pe_int (pa_cons (pe_glob (v := .int 64) rfl T.g_MOST_PARTS.choose_spec ⟨_, rfl⟩) pa_nil)))))) (pss_one (ps_ret pe_bl)) pss_nil)
      (pss_cons (ps_set (i := 2) sc_are_parts.nd rfl (Or.inl rfl) pe_int)
      (pss_cons (ps_for PassesOwn.never rfl (pi_listK K (pv 0)) (pg_name (i := 3) sc_are_parts.nd rfl (Or.inl rfl))
      (pss_cons (ps_if (pt_not (pt_val (pe_call G_is_number (hr.mono (by decide)) rfl T.m_is_number T.F_is_number.kp T.b_is_number .nil pass0 (pa_cons (pv 3) (pa_cons pe_int (pa_cons (pe_call G_all_columns (hr.mono (by decide)) rfl T.m_all_columns T.F_all_columns.kp T.b_all_columns .nil pass0 (pa_cons (pv 1) pa_nil)) pa_nil)))))) (pss_one (ps_ret pe_bl)) pss_nil)
      (pss_one (ps_set (i := 2) sc_are_parts.nd rfl (Or.inl rfl) (pe_op op_or (pv 2) (pv 3))))))
      (pss_one (ps_ret (pe_cmpR op_eq (pv 2) (pe_call G_all_columns (hr.mono (by decide)) rfl T.m_all_columns T.F_all_columns.kp T.b_all_columns .nil pass0 (pa_cons (pv 1) pa_nil)) (nomark _))))))), ?_⟩
    refine ⟨_, rfl, l, nums ps, 1, 64, rfl, hl, _, rfl, ?_⟩
    have e : (decide ((1 : Int) ≤ ((nums ps).length : Int)) && decide (((nums ps).length : Int) ≤ 64)) = true := by
      rw [nums_len]; simp; omega
    rw [e]
    refine iteF ?_
    refine ⟨_, rfl, l, rfl, ⟨_, SqL.of hl⟩, for_list (K := K) (a := l) (xs := nums ps) (fun i σ' H' => H' = H ∧ ∃ pv, σ' = [some (.ref l), some (.int (c : Nat)), some (.int ((ps.take i).foldl (· ||| ·) 0 : Nat)), pv])
      ⟨rfl, none, rfl⟩ (fun i σ' H' _ ⟨e, _⟩ => by subst e; exact SqL.of hl) ?_ ?_⟩
    · rintro i x σ' H' hx ⟨rfl, pv, rfl⟩
      obtain ⟨n, hn, rfl⟩ := nums_at hx
      obtain ⟨b1, b2⟩ := hps n (List.mem_of_getElem? hn)
      refine ⟨_, rfl, _, rfl, c, rfl, hc, (n : Int), 1, _, rfl, _, rfl, ?_⟩
      have e2 : (decide ((1 : Int) ≤ (n : Int)) && decide ((n : Int) ≤ ((2 ^ c : Nat) : Int) - 1)) = true := by
        generalize 2 ^ c = N at b2 ⊢
        simp; omega
      rw [e2]
      refine iteF ⟨_, rfl, _, rfl, _, _, rfl, rfl, rfl, some (.int (n : Nat)), ?_⟩
      have et : (ps.take (i + 1)).foldl (· ||| ·) 0 = (ps.take i).foldl (· ||| ·) 0 ||| n := by rw [List.take_succ, hn, List.foldl_append]; rfl
      rw [et, ← or_nat]; rfl
    · rintro σ' H' ⟨rfl, pv, rfl⟩
      rw [nums_len, List.take_length, hall]
      refine ⟨_, rfl, _, rfl, c, rfl, hc, rfl, ?_⟩
      have e3 : ((2 ^ c - 1 : Nat) : Int) = ((2 ^ c : Nat) : Int) - 1 := by
        have : 0 < 2 ^ c := Nat.two_pow_pos c
        generalize 2 ^ c = N at this ⊢
        omega
      rw [e3, decide_eq_true rfl]
      exact k
theorem ok_seen_in (T : Txt K mg A) : FnOk P w K mg base CX0 3 A.f_seen_in A.d_seen_in ["table", "some"] sp_seen := by
  have G_cells := ok_cells (P := P) (w := w) (base := base) T
  refine T.F_seen_in.ok sc_seen_in (fun vs H Q E h => ?_) (fun cdv A' outer s H vs Q E hr h => ?_)
  · obtain ⟨l, rs, s, rfl, _⟩ := h; rfl
  · obtain ⟨l, rs, s, rfl, ⟨ts, hl, htp⟩, hlen, hr6, hs, k⟩ := h
    refine ⟨_, (pss_cons (ps_set (i := 2) sc_seen_in.nd rfl (Or.inl rfl) pe_dnewT)
      (pss_cons (ps_for PassesOwn.never rfl (pi_listK K (pv 0)) (pg_name (i := 3) sc_seen_in.nd rfl (Or.inl rfl))
      (pss_one (ps_dput (hu_of hr) (pv 2) (pe_call G_cells (hr.mono (by decide)) rfl T.m_cells T.F_cells.kp T.b_cells .nil pass0 (pa_cons (pv 3) (pa_cons (pv 1) pa_nil))) pe_bl rfl)))
      (pss_one (ps_ret (pv 2))))), ?_⟩
    refine fun D hD => ?_
    have hln : (ts.map V.ref).length = rs.length := by rw [List.length_map]; exact htp.len
    refine ⟨_, rfl, l, rfl, ⟨_, SqL.of (Same.new hD _ _ hl)⟩, for_list (K := K) (a := l) (xs := ts.map V.ref) (fun i σ' H' => Same H H' ∧ (∃ rv, σ' = [some (.ref l), some (.int (s : Nat)), some (.ref D), rv]) ∧ ∃ kvs, H' D = some (.dT kvs) ∧ kvs.length ≤ i ∧
        (∀ q, (valV kvs q).isSome = true ↔ ∃ r ∈ rs.take i, q = keyN (cellsN r s)))
      ⟨Same.new hD, ⟨none, rfl⟩, [], upd_same, Nat.le_refl _, fun q => by simp [valV_nil]⟩ (fun i σ' H' _ ⟨e, _⟩ => SqL.of (e _ _ hl)) ?_ ?_⟩
    · rintro i x σ' H' hx ⟨se, ⟨rv, rfl⟩, kvs, hDd, hkl, i1⟩
      obtain ⟨tr, r, rfl, hri, hrow⟩ := (htp.same se).get hx
      have hrm : r ∈ rs := List.mem_of_getElem? hri
      have hi' : i < rs.length := (List.getElem?_eq_some_iff.mp hri).1
      refine ⟨_, rfl, _, rfl, _, rfl, tr, r, s, rfl, hrow, hr6 r hrm, hs, fun t2 H2 f2 s2 c2 => ?_⟩
      have hD2 := s2 _ _ hDd
      refine ⟨D, _, rfl, DPut.t hD2 (by rw [keyN_map]; exact c2) (small1000 (by omega)), ?_⟩
      refine ⟨Same.up (se.trans s2) hD, ⟨_, rfl⟩, _, upd_same, by have := length_putK kvs (keyN (cellsN r s)) (.bl true); omega, fun q => ?_⟩
      rw [valV_put]
      constructor
      · intro hq
        by_cases hqe : q = keyN (cellsN r s)
        · exact ⟨r, (take_mem hri).mpr (.inr rfl), hqe⟩
        · rw [if_neg hqe] at hq
          obtain ⟨a, ha, e⟩ := (i1 q).mp hq
          exact ⟨a, (take_mem hri).mpr (.inl ha), e⟩
      · rintro ⟨a, ha, e⟩
        by_cases hqe : q = keyN (cellsN r s)
        · rw [if_pos hqe]; rfl
        · rw [if_neg hqe]
          rcases (take_mem hri).mp ha with ha | rfl
          · exact (i1 q).mpr ⟨a, ha, e⟩
          · exact absurd e hqe
    · rintro σ' H' ⟨se, ⟨rv, rfl⟩, kvs, hDd, hkl, i1⟩
      rw [hln, List.take_length] at i1
      exact ⟨_, rfl, k D kvs H' hD se hDd i1⟩
end
end K06

namespace K06
open PySem L2 TC
def sp_need_table : Sp := fun vs H Q _ => ∃ (l : Addr) (c : Nat) (rs : List (List Nat)), vs = [.int (c : Nat), .ref l] ∧ 1 ≤ c ∧ c ≤ 6 ∧ TblAt H l rs ∧ GoodT c rs ∧ ∀ H', Same H H' → Q .non H'
section
variable {P : Program} {w : World} {K : PySem.W.Frag} {mg : Str → Option Value} {base : Heap} {A : Adr}
theorem ok_need_table (T : Txt K mg A) : FnOk P w K mg base CX0 7 A.f_need_table A.d_need_table ["columns", "table"] sp_need_table := by
  have G_is_count := ok_is_count (P := P) (w := w) (base := base) T
  have G_is_table := ok_is_table (P := P) (w := w) (base := base) T
  refine T.F_need_table.ok sc_need_table (fun vs H Q E h => ?_) (fun cdv A' outer s H vs Q E hr h => ?_)
  · obtain ⟨l, c, rs, rfl, _⟩ := h; rfl
  · obtain ⟨l, c, rs, rfl, hc1, hc6, hT, hG, k⟩ := h
    refine ⟨_, (pss_cons (ps_if (pt_not (pt_val (pe_call G_is_count (hr.mono (by decide)) rfl T.m_is_count T.F_is_count.kp T.b_is_count .nil pass0 (pa_cons (pv 0) pa_nil)))) (pss_one ps_never) pss_nil)
      (pss_one (ps_if (pt_not (pt_val (pe_call G_is_table (hr.mono (by decide)) rfl T.m_is_table T.F_is_table.kp T.b_is_table .nil pass0 (pa_cons (pv 1) (pa_cons (pv 0) pa_nil))))) (pss_one ps_never) pss_nil))), ?_⟩
    refine ⟨_, rfl, (c : Int), rfl, _, rfl, ?_⟩
    have e : (decide ((1 : Int) ≤ (c : Int)) && decide ((c : Int) ≤ 6)) = true := by simp; omega
    rw [e]
    refine iteF ⟨_, rfl, _, rfl, l, c, rs, rfl, hc6, hT, hG, fun H1 s1 => ?_⟩
    exact ⟨_, rfl, iteF (k H1 s1)⟩
end
def sp_need_parts : Sp := fun vs H Q _ => ∃ (l : Addr) (c : Nat) (ps : List Nat), vs = [.int (c : Nat), .ref l] ∧ c ≤ 6 ∧ H l = some (.lst (nums ps)) ∧ 1 ≤ ps.length ∧ ps.length ≤ 64 ∧ (∀ p ∈ ps, 1 ≤ p ∧ p < 2 ^ c) ∧ ps.foldl (· ||| ·) 0 = 2 ^ c - 1 ∧ Q .non H
section
variable {P : Program} {w : World} {K : PySem.W.Frag} {mg : Str → Option Value} {base : Heap} {A : Adr}
theorem ok_need_parts (T : Txt K mg A) : FnOk P w K mg base CX0 5 A.f_need_parts A.d_need_parts ["columns", "parts"] sp_need_parts := by
  have G_are_parts := ok_are_parts (P := P) (w := w) (base := base) T
  refine T.F_need_parts.ok sc_need_parts (fun vs H Q E h => ?_) (fun cdv A' outer s H vs Q E hr h => ?_)
  · obtain ⟨l, c, ps, rfl, _⟩ := h; rfl
  · obtain ⟨l, c, ps, rfl, hc, hl, h1, h64, hps, hall, k⟩ := h
    refine ⟨_, (pss_one (ps_if (pt_not (pt_val (pe_call G_are_parts (hr.mono (by decide)) rfl T.m_are_parts T.F_are_parts.kp T.b_are_parts .nil pass0 (pa_cons (pv 1) (pa_cons (pv 0) pa_nil))))) (pss_one ps_never) pss_nil)), ?_⟩
    exact ⟨_, rfl, _, rfl, l, c, ps, rfl, hc, hl, h1, h64, hps, hall, _, rfl, iteF k⟩
end
theorem full_castN (c : Nat) : ((2 ^ c : Nat) : Int) - 1 = ((2 ^ c - 1 : Nat) : Int) := by
  have : 0 < 2 ^ c := Nat.two_pow_pos c
  generalize 2 ^ c = N at this ⊢
  omega
theorem brk_succ (p : Nat → Bool) (i : Nat) : (List.range (i + 1)).filter p = (List.range i).filter p ++ (if p i = true then [i] else []) := by
  rw [List.range_succ, List.filter_append]
  congr 1
  by_cases h : p i = true
  · simp [h]
  · simp [h]
section
variable {P : Program} {w : World} {K : PySem.W.Frag} {mg : Str → Option Value} {base : Heap} {A : Adr}
theorem ok_broken (T : Txt K mg A) : FnOk P w K mg base CX0 9 A.f_broken A.d_broken ["rules", "table"] (sp_broken A.c_Rules) := by
  have G_need_table := ok_need_table (P := P) (w := w) (base := base) T
  have G_keeps := ok_keeps (P := P) (w := w) (base := base) T
  have G_Rules_rules := ok_Rules_rules (P := P) (w := w) (base := base) T
  refine T.F_broken.ok sc_broken (fun vs H Q E h => ?_) (fun cdv A' outer s H vs Q E hr h => ?_)
  · obtain ⟨p, m, l, c, ps, rs, rfl, _⟩ := h; rfl
  · obtain ⟨p, m, l, c, ps, rs, rfl, hR, ⟨hc1, hc6, hlen, hps⟩, hT, hG, k⟩ := h
    obtain ⟨⟨dx, hp⟩, _⟩ := id hR
    have h64 : 2 ^ c ≤ 64 := Nat.pow_le_pow_right (by decide) hc6
    refine ⟨_, (pss_cons (ps_expr (pe_call G_need_table (hr.mono (by decide)) rfl T.m_need_table T.F_need_table.kp T.b_need_table .nil pass0 (pa_cons (pe_fldK K (pv 0)) (pa_cons (pv 1) pa_nil))))
      (pss_one (ps_ret (pe_comp ["rules", "table"] (defScope s_broken) ["place", "rule", "table"] [none, none, some 1] ⟨rfl, by decide +kernel, by decide +kernel, by decide +kernel, by decide +kernel, by decide +kernel⟩ rfl (pi_enumK K rfl T.z_enumerate bt_enumerate (pa_cons (pe_meth0 (pv 0) T.cl_Rules T.mt_Rules_rules G_Rules_rules (hr.mono (by decide)) T.b_Rules_rules .nil pass0) pa_nil)) (fun _ _ _ _ _ => pg_tupK K (n := 2) rfl (pgs_cons (pg_name (i := 0) (by show List.Nodup (["place", "rule", "table"] : List Str); decide +kernel) rfl (Or.inl rfl) (Or.inr rfl)) (pgs_cons (pg_name (i := 1) (by show List.Nodup (["place", "rule", "table"] : List Str); decide +kernel) rfl (Or.inl rfl) (Or.inr rfl)) pgs_nil))) (fun _ _ _ _ _ => pts_one (pt_not (pt_val (pe_call G_keeps (hr.mono (by decide)) rfl T.m_keeps T.F_keeps.kp T.b_keeps .nil pass0 (pa_cons (pv 2) (pa_cons (pv 1) pa_nil)))))) (fun _ _ _ _ _ => (pv 0)))))), ?_⟩
    refine ⟨_, rfl, p, A.c_Rules, dx, _, _, rfl, hp, T.cl_Rules, T.na_Rules_columns, flds_columns _ _, _, rfl, l, c, rs, rfl, hc1, hc6, hT, hG, fun H1 s1 => ?_⟩
    have hp1 := s1 _ _ hp
    refine ⟨_, rfl, p, dx, _, rfl, hp1, flds_no _ _ (by decide +kernel) (by decide +kernel), p, m, c, ps, rfl, hR.same s1, fun l2 ts hl2 htp => ?_⟩
    have s2 : Same H1 (upd H1 l2 (.lst (ts.map V.ref))) := Same.new hl2
    refine ⟨l2, ts.map V.ref, rfl, upd_same, ?_⟩
    have hL2 : (upd H1 l2 (.lst (ts.map V.ref))) l2 = some (.lst (ts.map V.ref)) := upd_same
    have htp2 := htp.same s2
    generalize upd H1 l2 (.lst (ts.map V.ref)) = H2 at s2 hL2 htp2 ⊢
    have s12 : Same H H2 := s1.trans s2
    have hln : (ts.map V.ref).length = ps.length := by rw [List.length_map]; exact htp.len
    refine fun D hD => comp_enum (xs := ts.map V.ref) (fun i ys H' => Same H2 H' ∧ i ≤ ps.length ∧ ys = nums ((List.range i).filter fun i => !decide (Keeps rs (ps.getD i (0, 0))))) ⟨Same.new hD, Nat.zero_le _, rfl⟩ (fun i ys H' _ ⟨e, _⟩ => e _ _ hL2) ?_ ?_
    · rintro i x ys H' q hx ⟨se, hi, rfl⟩ hDl hq
      obtain ⟨t, r, rfl, hri, hrt⟩ := (htp2.same se).get hx
      have hi' : i < ps.length := (List.getElem?_eq_some_iff.mp hri).1
      have hb := hps r (List.mem_of_getElem? hri)
      have hg : ps.getD i (0, 0) = r := by simp [List.getD, hri]
      have sq : Same H' (upd H' q (.tup [.int (i : Nat), .ref t])) := Same.new hq
      have hDl2 := sq _ _ hDl
      have hrt2 := sq _ _ hrt
      have hT2 := hT.same ((s12.trans se).trans sq)
      have sD : Same H2 (upd H' q (.tup [.int (i : Nat), .ref t])) := se.trans sq
      generalize upd H' q (.tup [.int (i : Nat), .ref t]) = H3 at sq hDl2 hrt2 hT2 sD ⊢
      refine ⟨_, rfl, _, rfl, l, t, rs, r, rfl, hT2, hG.1, fun a ha => by rw [(hG.2 a ha).1]; exact hc6, hrt2, by omega, by omega, fun H4 s4 => ⟨_, rfl, ?_⟩⟩
      have hll : (nums ((List.range i).filter fun i => !decide (Keeps rs (ps.getD i (0, 0))))).length ≤ 64 := by
        rw [nums_len]
        exact Nat.le_trans (List.length_filter_le _ _) (by rw [List.length_range]; omega)
      have e1 : (!decide (Keeps rs r)) = !decide (Keeps rs (ps.getD i (0, 0))) := by rw [hg]
      refine ite2 (fun e => ?_) (fun e => ?_)
      · refine ⟨_, rfl, CE2.mk (s4 _ _ hDl2) (small1000 (by omega)) ⟨Same.up (sD.trans s4) hD, hi', ?_⟩⟩
        rw [brk_succ, if_pos (e1.symm.trans e), nums_snoc]
      · refine CN2.mk (s4 _ _ hDl2) ⟨sD.trans s4, hi', ?_⟩
        rw [brk_succ, if_neg (fun z => e (e1.trans z)), List.append_nil]
    · rintro ys H' ⟨se, _, rfl⟩ hDl
      rw [hln] at hDl
      exact k D H' (s12.free hD) (s12.trans se) hDl
end
end K06

namespace K06
open PySem L2 TC
/-! ### joined -/
theorem uniq : ∀ {a b : List Int}, a.Pairwise (· < ·) → b.Pairwise (· < ·) → (∀ x, x ∈ a ↔ x ∈ b) → a = b
  | [], [], _, _, _ => rfl
  | [], y :: b, _, _, h => by simpa using (h y).mpr List.mem_cons_self
  | x :: a, [], _, _, h => by simpa using (h x).mp List.mem_cons_self
  | x :: a, y :: b, ha, hb, h => by
    obtain ⟨a1, a2⟩ := List.pairwise_cons.mp ha
    obtain ⟨b1, b2⟩ := List.pairwise_cons.mp hb
    have e : x = y := by
      rcases List.mem_cons.mp ((h x).mp List.mem_cons_self) with z | z
      · exact z
      · rcases List.mem_cons.mp ((h y).mpr List.mem_cons_self) with u | u
        · exact u.symm
        · have := a1 y u
          have := b1 x z
          omega
    subst e
    rw [uniq a2 b2 fun z => ⟨fun q => ?_, fun q => ?_⟩]
    · rcases List.mem_cons.mp ((h z).mp (List.mem_cons_of_mem _ q)) with u | u
      · have := a1 z q
        omega
      · exact u
    · rcases List.mem_cons.mp ((h z).mpr (List.mem_cons_of_mem _ q)) with u | u
      · have := b1 z q
        omega
      · exact u
/-- the numbers of a list, rising, each once -/
def srt (B : Nat) (ks : List Nat) : List Nat := (List.range B).filter fun x => decide (x ∈ ks)
theorem mem_srt {B : Nat} {ks : List Nat} (h : ∀ k ∈ ks, k < B) (x : Nat) : x ∈ srt B ks ↔ x ∈ ks := by
  unfold srt
  rw [List.mem_filter, List.mem_range]
  constructor
  · intro z; simpa using z.2
  · intro z; exact ⟨h x z, by simpa using z⟩
theorem nums_int (ks : List Nat) : nums ks = (ks.map fun n => ((n : Nat) : Int)).map V.int := by unfold nums; rw [List.map_map]; rfl
theorem srt_eq {B : Nat} {ks : List Nat} (h : ∀ k ∈ ks, k < B) {ms : List Int} (hs : ms.Pairwise (· < ·)) (hm : ∀ x, x ∈ ms ↔ x ∈ ks.map fun n => ((n : Nat) : Int)) : ms.map V.int = nums (srt B ks) := by
  rw [nums_int]
  congr 1
  refine uniq hs ?_ fun x => ?_
  · rw [List.pairwise_map]
    exact ((List.pairwise_lt_range (n := B)).filter _).imp fun h => by omega
  · rw [hm, List.mem_map, List.mem_map]
    constructor
    · rintro ⟨n, h1, h2⟩
      exact ⟨n, (mem_srt h n).mpr h1, h2⟩
    · rintro ⟨n, h1, h2⟩
      exact ⟨n, (mem_srt h n).mp h1, h2⟩
def headL (ps : List Nat) (j : Nat) : List Nat := (ps.filter fun p => p.testBit j).map fun p => p &&& (2 ^ (j + 1) - 1)
def colN (rs : List (List Nat)) (j : Nat) : List Nat := srt 100 (rs.map fun r => r.getD j 0)
def headN (ps : List Nat) (j : Nat) : List Nat := srt 64 (headL ps j)
/-- whether the table has what a row has in a set of columns -/
def Has (rs : List (List Nat)) (r : List Nat) (h : Nat) : Prop := ∃ t ∈ rs, cellsN t h = cellsN r h
instance (rs : List (List Nat)) (r : List Nat) (h : Nat) : Decidable (Has rs r h) := by unfold Has; infer_instance
def okB (rs : List (List Nat)) (ps : List Nat) (j : Nat) (r : List Nat) : Bool := (headN ps j).all fun h => decide (Has rs r h)
def wid (rs : List (List Nat)) (ps : List Nat) (j : Nat) (ws : List (List Nat)) : List (List Nat) := ws.flatMap fun r => ((colN rs j).map fun n => r ++ [n]).filter (okB rs ps j)
theorem headL_snoc {ps : List Nat} {j i p : Nat} (h : ps[i]? = some p) : headL (ps.take (i + 1)) j = headL (ps.take i) j ++ (if p.testBit j = true then [p &&& (2 ^ (j + 1) - 1)] else []) := by
  unfold headL
  rw [List.take_succ, h, List.filter_append, List.map_append]
  congr 1
  by_cases e : p.testBit j = true
  · simp [e]
  · simp [e]
theorem headL_lt {ps : List Nat} (h : ∀ p ∈ ps, p < 64) (j : Nat) : ∀ k ∈ headL ps j, k < 64 := by
  intro k hk
  obtain ⟨p, hp, rfl⟩ := List.mem_map.mp hk
  exact Nat.lt_of_le_of_lt Nat.and_le_left (h p (List.mem_filter.mp hp).1)
theorem headL_len (ps : List Nat) (j : Nat) : (headL ps j).length ≤ ps.length := by unfold headL; rw [List.length_map]; exact List.length_filter_le _ _
/-- dicts of what the table has, at ds -/
def Sn (rs : List (List Nat)) (H : Hp) : List Addr → List Nat → Prop
  | [], [] => True
  | d :: ds, h :: hs => (∃ kvs, H d = some (.dT kvs) ∧ ∀ k, (valV kvs k).isSome = true ↔ ∃ r ∈ rs, k = keyN (cellsN r h)) ∧ Sn rs H ds hs
  | _, _ => False
theorem Sn.same {rs : List (List Nat)} {H H' : Hp} (e : Same H H') : ∀ {ds : List Addr} {hs : List Nat}, Sn rs H ds hs → Sn rs H' ds hs
  | [], [], _ => trivial
  | _ :: _, _ :: _, ⟨⟨kvs, h, z⟩, t⟩ => ⟨⟨kvs, e _ _ h, z⟩, Sn.same e t⟩
  | [], _ :: _, h => h.elim
  | _ :: _, [], h => h.elim
theorem Sn.len {rs : List (List Nat)} {H : Hp} : ∀ {ds : List Addr} {hs : List Nat}, Sn rs H ds hs → ds.length = hs.length
  | [], [], _ => rfl
  | _ :: _, _ :: _, ⟨_, t⟩ => congrArg (· + 1) (Sn.len t)
  | [], _ :: _, h => h.elim
  | _ :: _, [], h => h.elim
theorem Sn.snoc {rs : List (List Nat)} {H : Hp} {d : Addr} {h : Nat} (e : ∃ kvs, H d = some (.dT kvs) ∧ ∀ k, (valV kvs k).isSome = true ↔ ∃ r ∈ rs, k = keyN (cellsN r h)) : ∀ {ds : List Addr} {hs : List Nat}, Sn rs H ds hs → Sn rs H (ds ++ [d]) (hs ++ [h])
  | [], [], _ => ⟨e, trivial⟩
  | _ :: _, _ :: _, ⟨h, t⟩ => ⟨h, Sn.snoc e t⟩
  | [], _ :: _, h => h.elim
  | _ :: _, [], h => h.elim
theorem Sn.upd {rs : List (List Nat)} {H : Hp} {a : Addr} {xs : List V} {o : HO} (ha : H a = some (.lst xs)) : ∀ {ds : List Addr} {hs : List Nat}, Sn rs H ds hs → Sn rs (upd H a o) ds hs
  | [], [], _ => trivial
  | _ :: _, _ :: _, ⟨⟨kvs, h, z⟩, t⟩ => ⟨⟨kvs, by rw [upd_ne (ne_of h ha (by intro z; cases z))]; exact h, z⟩, Sn.upd ha t⟩
  | [], _ :: _, h => h.elim
  | _ :: _, [], h => h.elim
theorem Sn.get {rs : List (List Nat)} {H : Hp} : ∀ {ds : List Addr} {hs : List Nat} {i : Nat} {v : V} {h : Nat}, Sn rs H ds hs → (ds.map V.ref)[i]? = some v → hs[i]? = some h → ∃ d kvs, v = .ref d ∧ H d = some (.dT kvs) ∧ ∀ k, (valV kvs k).isSome = true ↔ ∃ r ∈ rs, k = keyN (cellsN r h)
  | [], [], i, v, h, _, e, _ => by simp at e
  | d :: _, g :: _, 0, v, h, ⟨⟨kvs, a, b⟩, _⟩, e, e2 => by
    have : g = h := by simpa using e2
    subst this
    exact ⟨d, kvs, by simpa using e.symm, a, b⟩
  | _ :: _, _ :: _, i + 1, v, h, ⟨_, t⟩, e, e2 => Sn.get (i := i) t (by simpa using e) (by simpa using e2)
  | [], _ :: _, _, _, _, h, _, _ => h.elim
  | _ :: _, [], _, _, _, h, _, _ => h.elim
theorem Rws.upd {H : Hp} {a : Addr} {o : HO} : ∀ {ts : List Addr} {rs : List (List Nat)}, Rws H ts rs → a ∉ ts → Rws (upd H a o) ts rs
  | [], [], _, _ => trivial
  | _ :: _, _ :: _, ⟨h, t⟩, n => ⟨by rw [upd_ne (fun z => n (by rw [z]; exact List.mem_cons_self))]; exact h, Rws.upd t fun z => n (List.mem_cons_of_mem _ z)⟩
  | [], _ :: _, h, _ => h.elim
  | _ :: _, [], h, _ => h.elim
/-- rows stand anew at a list -/
def NewRows (H0 H : Hp) (l : Addr) (rs : List (List Nat)) : Prop := ∃ ts : List Addr, H l = some (.lst (ts.map V.ref)) ∧ Rws H ts rs ∧ (∀ t ∈ ts, H0 t = none ∧ t ≠ l) ∧ ts.Nodup
def sp_wid : Sp := fun vs H Q _ => ∃ (q l pp : Addr) (j c : Nat) (ws rs : List (List Nat)) (ps : List Nat), vs = [.ref q, .int (j : Nat), .ref l, .ref pp] ∧ j < c ∧ c ≤ 6 ∧ TblAt H q ws ∧ (∀ r ∈ ws, r.length = j) ∧ ws.length ≤ 1000 ∧
  TblAt H l rs ∧ rs.length < 64 ∧ GoodT c rs ∧ H pp = some (.lst (nums ps)) ∧ ps.length < 64 ∧ (∀ p ∈ ps, p < 64) ∧
  ∀ (d : Addr) (H' : Hp), H d = none → Same H H' → NewRows H H' d (wid rs ps j ws) → Q (.ref d) H'
end K06

namespace K06
open PySem L2 TC
theorem colN_len (rs : List (List Nat)) (j : Nat) : (colN rs j).length ≤ 100 := by
  unfold colN srt
  exact Nat.le_trans (List.length_filter_le _ _) (by rw [List.length_range]; exact Nat.le_refl _)
theorem wid_len (rs : List (List Nat)) (ps : List Nat) (j : Nat) : ∀ ws : List (List Nat), (wid rs ps j ws).length ≤ ws.length * 100
  | [] => Nat.zero_le _
  | r :: ws => by
    unfold wid
    rw [List.flatMap_cons, List.length_append, List.length_cons]
    have h1 := wid_len rs ps j ws
    unfold wid at h1
    have h2 : (((colN rs j).map fun n => r ++ [n]).filter (okB rs ps j)).length ≤ 100 := Nat.le_trans (List.length_filter_le _ _) (by rw [List.length_map]; exact colN_len rs j)
    omega
theorem wid_snoc {rs : List (List Nat)} {ps : List Nat} {j i : Nat} {ws : List (List Nat)} {r : List Nat} (h : ws[i]? = some r) : wid rs ps j (ws.take (i + 1)) = wid rs ps j (ws.take i) ++ ((colN rs j).map fun n => r ++ [n]).filter (okB rs ps j) := by
  unfold wid
  rw [List.take_succ, h, List.flatMap_append]
  congr 1
  simp
theorem part_snoc {rs : List (List Nat)} {ps : List Nat} {j k n : Nat} {cs : List Nat} {r : List Nat} (h : cs[k]? = some n) : ((cs.take (k + 1)).map fun n => r ++ [n]).filter (okB rs ps j) = ((cs.take k).map fun n => r ++ [n]).filter (okB rs ps j) ++ (if okB rs ps j (r ++ [n]) = true then [r ++ [n]] else []) := by
  rw [List.take_succ, h, List.map_append, List.filter_append]
  congr 1
  by_cases e : okB rs ps j (r ++ [n]) = true
  · simp [e]
  · simp [e]
theorem getD_at {r : List Nat} {j : Nat} (h : j < r.length) : r[j]? = some (r.getD j 0) := by simp [List.getD, h]
section
variable {P : Program} {w : World} {K : PySem.W.Frag} {mg : Str → Option Value} {base : Heap} {A : Adr}
theorem ok_widened (T : Txt K mg A) : FnOk P w K mg base CX0 5 A.f_widened A.d_widened ["rows", "column", "table", "parts"] sp_wid := by
  have G_all_columns := ok_all_columns (P := P) (w := w) (base := base) T
  have G_seen_in := ok_seen_in (P := P) (w := w) (base := base) T
  have G_cells := ok_cells (P := P) (w := w) (base := base) T
  refine T.F_widened.ok sc_widened (fun vs H Q E h => ?_) (fun cdv A' outer s H vs Q E hr h => ?_)
  · obtain ⟨q, l, pp, j, c, ws, rs, ps, rfl, _⟩ := h; rfl
  · obtain ⟨q, l, pp, j, c, ws, rs, ps, rfl, hjc, hc6, hQ, hwl, hws, hT, hT63, hG, hpp, hp63, hp64, k⟩ := h
    refine ⟨_, (pss_cons (ps_set (i := 4) sc_widened.nd rfl (Or.inl rfl) (pe_sortset rfl rfl T.z_sorted bt_sorted rfl T.z_set bt_set (pa_cons (pe_comp ["rows", "column", "table", "parts", "heads", "seen", "numbers", "wider", "row", "number", "longer"] (defScope s_widened) ["part", "column"] [none, some 1] ⟨rfl, by decide +kernel, by decide +kernel, by decide +kernel, by decide +kernel, by decide +kernel⟩ rfl (pi_listK K (pv 3)) (fun _ _ _ _ _ => (pg_name (i := 0) (by show List.Nodup (["part", "column"] : List Str); decide +kernel) rfl (Or.inl rfl) (Or.inr rfl))) (fun _ _ _ _ _ => pts_one (pt_truthK K (pe_op op_and (pv 0) (pe_op op_shl pe_int (pv 1))))) (fun _ _ _ _ _ => (pe_op op_and (pv 0) (pe_call G_all_columns (hr.mono (by decide)) rfl T.m_all_columns T.F_all_columns.kp T.b_all_columns .nil pass0 (pa_cons (pe_op op_add (pv 1) pe_int) pa_nil))))) pa_nil)))
      (pss_cons (ps_setC (i := 5) ["rows", "column", "table", "parts", "heads", "seen", "numbers", "wider", "row", "number", "longer"] (defScope s_widened) ["head", "table"] [none, some 2] ⟨rfl, by decide +kernel, by decide +kernel, by decide +kernel, by decide +kernel, by decide +kernel⟩ rfl sc_widened.nd rfl rfl (pi_listK K (pv 4)) (fun _ _ _ _ _ => (pg_name (i := 0) (by show List.Nodup (["head", "table"] : List Str); decide +kernel) rfl (Or.inl rfl) (Or.inr rfl))) (fun _ _ _ _ _ => pts_nil) (fun _ _ _ _ _ => (pe_call G_seen_in (hr.mono (by decide)) rfl T.m_seen_in T.F_seen_in.kp T.b_seen_in .nil pass0 (pa_cons (pv 1) (pa_cons (pv 0) pa_nil)))))
      (pss_cons (ps_set (i := 6) sc_widened.nd rfl (Or.inl rfl) (pe_sortset rfl rfl T.z_sorted bt_sorted rfl T.z_set bt_set (pa_cons (pe_comp ["rows", "column", "table", "parts", "heads", "seen", "numbers", "wider", "row", "number", "longer"] (defScope s_widened) ["row", "column"] [none, some 1] ⟨rfl, by decide +kernel, by decide +kernel, by decide +kernel, by decide +kernel, by decide +kernel⟩ rfl (pi_listK K (pv 2)) (fun _ _ _ _ _ => (pg_name (i := 0) (by show List.Nodup (["row", "column"] : List Str); decide +kernel) rfl (Or.inl rfl) (Or.inr rfl))) (fun _ _ _ _ _ => pts_nil) (fun _ _ _ _ _ => (pe_ix (ix_listK K) (pv 0) (pv 1) (fun _ _ => rfl)))) pa_nil)))
      (pss_cons (ps_set (i := 7) sc_widened.nd rfl (Or.inl rfl) (pe_lst pa_nil))
      (pss_cons (ps_for PassesOwn.never rfl (pi_listK K (pv 0)) (pg_name (i := 8) sc_widened.nd rfl (Or.inl rfl))
      (pss_one (ps_for PassesOwn.never rfl (pi_listK K (pv 6)) (pg_name (i := 9) sc_widened.nd rfl (Or.inl rfl))
      (pss_cons (ps_set (i := 10) sc_widened.nd rfl (Or.inr rfl) (pe_op op_cat (pv 8) (pe_lst (pa_cons (pv 9) pa_nil))))
      (pss_one (ps_if (pt_val (pe_callB (call_allK K rfl) rfl T.z_all bt_all (pa_cons (pe_comp ["rows", "column", "table", "parts", "heads", "seen", "numbers", "wider", "row", "number", "longer"] (defScope s_widened) ["head", "known", "longer"] [none, none, some 10] ⟨rfl, by decide +kernel, by decide +kernel, by decide +kernel, by decide +kernel, by decide +kernel⟩ rfl (pi_zipK K rfl T.z_zip bt_zip (pa_cons (pv 4) (pa_cons (pv 5) pa_nil))) (fun _ _ _ _ _ => pg_tupK K (n := 2) rfl (pgs_cons (pg_name (i := 0) (by show List.Nodup (["head", "known", "longer"] : List Str); decide +kernel) rfl (Or.inl rfl) (Or.inr rfl)) (pgs_cons (pg_name (i := 1) (by show List.Nodup (["head", "known", "longer"] : List Str); decide +kernel) rfl (Or.inl rfl) (Or.inr rfl)) pgs_nil))) (fun _ _ _ _ _ => pts_nil) (fun _ _ _ _ _ => (pe_cmp (pc_din (hu_of hr) (pe_call G_cells (hr.mono (by decide)) rfl T.m_cells T.F_cells.kp T.b_cells .nil pass0 (pa_cons (pv 2) (pa_cons (pv 0) pa_nil))) (pv 1)) (by with_unfolding_all rfl)))) pa_nil))) (pss_one (ps_expr (pe_appendK K (pv 7) (pa_cons (pv 10) pa_nil)))) pss_nil))))))
      (pss_one (ps_ret (pv 7)))))))), ?_⟩
    -- heads
    refine ⟨_, rfl, pp, rfl, ⟨_, SqL.of hpp⟩, fun D hD => comp_list (xs := nums ps) (fun i ys H' => Same H H' ∧ i ≤ ps.length ∧ ys = nums (headL (ps.take i) j)) ⟨Same.new hD, Nat.zero_le _, rfl⟩ (fun i ys H' _ ⟨e, _⟩ => SqL.of (e _ _ hpp)) ?_ ?_⟩
    · rintro i x ys H' hx ⟨se, hi, rfl⟩ hDl
      obtain ⟨p, hpi, rfl⟩ := nums_at hx
      have hi' : i < ps.length := (List.getElem?_eq_some_iff.mp hpi).1
      have hb := hp64 p (List.mem_of_getElem? hpi)
      have hll : (nums (headL (ps.take i) j)).length ≤ 64 := by
        rw [nums_len]
        exact Nat.le_trans (headL_len _ _) (by rw [List.length_take]; omega)
      refine ⟨_, rfl, _, rfl, 1, (j : Int), rfl, rfl, ⟨Int.natCast_nonneg j, by omega, by decide⟩, _, _, rfl, rfl, _, rfl, ?_⟩
      rw [and_bit hb (by omega)]
      refine ite2 (fun e => ?_) (fun e => ?_)
      · refine ⟨_, rfl, _, rfl, (j : Int), 1, rfl, rfl, j + 1, rfl, by omega, _, _, rfl, rfl, ?_⟩
        refine CE1.mk hDl (small1000 (by omega)) ⟨Same.up se hD, hi', ?_⟩
        rw [headL_snoc hpi, if_pos e, nums_snoc, ← and_nat, ← full_castN]
      · refine CN.mk hDl ⟨se, hi', ?_⟩
        rw [headL_snoc hpi, if_neg e, List.append_nil]
    rintro ys H1 ⟨s1, _, rfl⟩ hDl
    rw [nums_len, List.take_length] at hDl
    refine ⟨D, (headL ps j).map fun n => ((n : Nat) : Int), rfl, by rw [← nums_int]; exact hDl, by rw [List.length_map]; have := headL_len ps j; omega, fun hd ms hf1 hsrt hmem => ?_⟩
    rw [srt_eq (headL_lt hp64 j) hsrt hmem]
    have s2 : Same H1 (upd H1 hd (.lst (nums (headN ps j)))) := Same.new hf1
    have hh2 : (upd H1 hd (.lst (nums (headN ps j)))) hd = some (.lst (nums (headN ps j))) := upd_same
    show tSeq _ _ _ _ (upd H1 hd (.lst (nums (headN ps j))))
    generalize upd H1 hd (.lst (nums (headN ps j))) = H2 at s2 hh2 ⊢
    have s02 : Same H H2 := s1.trans s2
    have hhn : ∀ h ∈ headN ps j, h < 64 := fun h hh => headL_lt hp64 j h ((mem_srt (headL_lt hp64 j) h).mp hh)
    have hhl : (headN ps j).length ≤ 64 := by
      unfold headN srt
      exact Nat.le_trans (List.length_filter_le _ _) (by rw [List.length_range]; exact Nat.le_refl _)
    -- seen
    refine ⟨_, rfl, hd, rfl, ⟨_, SqL.of hh2⟩, fun D2 hD2 => comp_list (xs := nums (headN ps j)) (fun i ys H' => Same H2 H' ∧ i ≤ (headN ps j).length ∧ ∃ ds : List Addr, ys = ds.map V.ref ∧ Sn rs H' ds ((headN ps j).take i)) ⟨Same.new hD2, Nat.zero_le _, [], rfl, trivial⟩ (fun i ys H' _ ⟨e, _⟩ => SqL.of (e _ _ hh2)) ?_ ?_⟩
    · rintro i x ys H' hx ⟨se, hi, ds, rfl, hSn⟩ hDl
      obtain ⟨h, hhi, rfl⟩ := nums_at hx
      have hi' : i < (headN ps j).length := (List.getElem?_eq_some_iff.mp hhi).1
      have hdl : ds.length = i := by rw [hSn.len, List.length_take]; omega
      refine yes_mk ?_
      refine ⟨_, rfl, _, rfl, l, rs, h, rfl, hT.same (s02.trans se), hG.1, fun a ha => by rw [(hG.2 a ha).1]; exact hc6, hhn h (List.mem_of_getElem? hhi), fun d kvs H3 hf3 s3 hd3 hk => ?_⟩
      refine CE1.mk (s3 _ _ hDl) (small1000 (by rw [List.length_map]; omega)) ⟨Same.up (se.trans s3) hD2, hi', ds ++ [d], by rw [List.map_append]; rfl, ?_⟩
      rw [List.take_succ, hhi]
      exact Sn.upd (s3 _ _ hDl) (Sn.snoc ⟨kvs, hd3, hk⟩ (hSn.same s3))
    rintro ys H3 ⟨s3, _, ds, rfl, hSn⟩ hDs
    rw [nums_len, List.take_length] at hSn
    have s03 : Same H H3 := s02.trans s3
    show tSeq _ _ _ _ H3
    -- numbers
    obtain ⟨ts, hl, htp⟩ := hT.same s03
    have hln : (ts.map V.ref).length = rs.length := by rw [List.length_map]; exact htp.len
    refine ⟨_, rfl, l, rfl, ⟨_, SqL.of hl⟩, fun D3 hD3 => comp_list (xs := ts.map V.ref) (fun i ys H' => Same H3 H' ∧ i ≤ rs.length ∧ ys = nums ((rs.take i).map fun r => r.getD j 0)) ⟨Same.new hD3, Nat.zero_le _, rfl⟩ (fun i ys H' _ ⟨e, _⟩ => SqL.of (e _ _ hl)) ?_ ?_⟩
    · rintro i x ys H' hx ⟨se, hi, rfl⟩ hDl
      obtain ⟨t, r, rfl, hri, hrow⟩ := (htp.same se).get hx
      have hi' : i < rs.length := (List.getElem?_eq_some_iff.mp hri).1
      have hrl := (hG.2 r (List.mem_of_getElem? hri)).1
      refine yes_mk ?_
      have hat : (nums r)[j]? = some (.int (r.getD j 0 : Nat)) := by
        unfold nums
        rw [List.getElem?_map, getD_at (by omega)]; rfl
      refine ⟨_, rfl, _, rfl, t, nums r, (j : Int), _, rfl, rfl, SqL.of hrow, atI_nat hat, CE1.mk hDl (small1000 (by rw [nums_len, List.length_map, List.length_take]; omega)) ⟨Same.up se hD3, hi', ?_⟩⟩
      rw [List.take_succ, hri, List.map_append]
      exact (nums_snoc _ _).symm
    rintro ys H4 ⟨s4, _, rfl⟩ hDl
    rw [hln, List.take_length] at hDl
    have hcol : ∀ x ∈ rs.map (fun r => r.getD j 0), x < 100 := fun x hx => by
      obtain ⟨r, hr', rfl⟩ := List.mem_map.mp hx
      obtain ⟨a1, a2⟩ := hG.2 r hr'
      have := a2 (r.getD j 0) (List.mem_of_getElem? (getD_at (by omega)))
      omega
    refine ⟨D3, (rs.map fun r => r.getD j 0).map fun n => ((n : Nat) : Int), rfl, by rw [← nums_int]; exact hDl, by rw [List.length_map, List.length_map]; exact hT63, fun nd ms hf5 hsrt hmem => ?_⟩
    rw [srt_eq hcol hsrt hmem]
    have s5 : Same H4 (upd H4 nd (.lst (nums (colN rs j)))) := Same.new hf5
    have hn5 : (upd H4 nd (.lst (nums (colN rs j)))) nd = some (.lst (nums (colN rs j))) := upd_same
    show tSeq _ _ _ _ (upd H4 nd (.lst (nums (colN rs j))))
    generalize upd H4 nd (.lst (nums (colN rs j))) = H5 at s5 hn5 ⊢
    have s35 : Same H3 H5 := s4.trans s5
    have s05 : Same H H5 := s03.trans s35
    have hds := s35 _ _ hDs
    have hSn5 := hSn.same s35
    have hh5 := (s3.trans s35) _ _ hh2
    obtain ⟨tq, hq, htq⟩ := hQ.same s05
    have hqn : (tq.map V.ref).length = ws.length := by rw [List.length_map]; exact htq.len
    -- wider = []
    refine ⟨Nat.zero_le _, fun W hW => ?_⟩
    refine ⟨_, rfl, q, rfl, ⟨_, SqL.of (Same.new hW _ _ hq)⟩, for_list (K := K) (a := q) (xs := tq.map V.ref) (fun i σ' H' => Same H5 H' ∧ NewRows H5 H' W (wid rs ps j (ws.take i)) ∧
        ∃ rv nv gv, σ' = [some (.ref q), some (.int (j : Nat)), some (.ref l), some (.ref pp), some (.ref hd), some (.ref D2), some (.ref nd), some (.ref W), rv, nv, gv])
      ⟨Same.new hW, ⟨[], upd_same, trivial, (fun _ h => nomatch h), List.nodup_nil⟩, none, none, none, rfl⟩ (fun i σ' H' _ ⟨e, _⟩ => SqL.of (e _ _ hq)) ?_ ?_⟩
    · rintro i x σ' H' hx ⟨se, hN, rv, nv, gv, rfl⟩
      obtain ⟨tr, r, rfl, hri, hrow5⟩ := htq.get hx
      have hi' : i < ws.length := (List.getElem?_eq_some_iff.mp hri).1
      have hrl := hwl r (List.mem_of_getElem? hri)
      have hwid := wid_len rs ps j (ws.take i)
      refine ⟨_, rfl, nd, rfl, ⟨_, SqL.of (se _ _ hn5)⟩, for_list (K := K) (a := nd) (xs := nums (colN rs j)) (fun m σ' H' => Same H5 H' ∧ NewRows H5 H' W (wid rs ps j (ws.take i) ++ (((colN rs j).take m).map fun n => r ++ [n]).filter (okB rs ps j)) ∧
          ∃ nv gv, σ' = [some (.ref q), some (.int (j : Nat)), some (.ref l), some (.ref pp), some (.ref hd), some (.ref D2), some (.ref nd), some (.ref W), some (.ref tr), nv, gv])
        ⟨se, by simpa using hN, _, _, rfl⟩ (fun i σ' H' _ ⟨e, _⟩ => SqL.of (e _ _ hn5)) ?_ ?_⟩
      · rintro m x σ' H6 hx ⟨s6, ⟨ts6, hW6, hR6, hF6, hnd6⟩, nv, gv, rfl⟩
        obtain ⟨n, hni, rfl⟩ := nums_at hx
        have hm' : m < (colN rs j).length := (List.getElem?_eq_some_iff.mp hni).1
        have hcl := colN_len rs j
        have hrow6 := s6 _ _ hrow5
        refine ⟨_, rfl, _, rfl, by show 1 ≤ sizeLine; decide, fun b hb => ⟨tr, b, nums r, [.int (n : Nat)], rfl, rfl, by rw [upd_ne (ne_of_none hrow6 hb)]; exact hrow6, upd_same, by rw [nums_len, hrl, sizeLine_eq]; show j + 1 ≤ _; omega, fun g hg => ?_⟩⟩
        have hg6 : H6 g = none := (Same.new hb).free hg
        have s67 : Same H6 (upd (upd H6 b (.lst [.int (n : Nat)])) g (.lst (nums r ++ [.int (n : Nat)]))) := Same.up (Same.new hb) hg6
        have hg7 : (upd (upd H6 b (.lst [.int (n : Nat)])) g (.lst (nums r ++ [.int (n : Nat)]))) g = some (.lst (nums (r ++ [n]))) := by rw [nums_snoc]; exact upd_same
        generalize upd (upd H6 b (.lst [.int (n : Nat)])) g (.lst (nums r ++ [.int (n : Nat)])) = H7 at s67 hg7 ⊢
        have s57 : Same H5 H7 := s6.trans s67
        have hgW : g ≠ W := fun z => by rw [z, hW6] at hg6; cases hg6
        have hgt : g ∉ ts6 := fun z => by
          obtain ⟨i', hi2⟩ := List.mem_iff_getElem?.mp z
          obtain ⟨t', r', e1, _, e3⟩ := hR6.get (i := i') (v := .ref g) (by rw [List.getElem?_map, hi2]; rfl)
          injection e1 with e1
          rw [← e1, hg6] at e3
          cases e3
        have hg5 : H5 g = none := s6.free hg6
        refine ⟨_, rfl, _, rfl, hd, D2, rfl, ⟨_, SqL.of (s57 _ _ hh5)⟩, ⟨_, SqL.of (s57 _ _ hds)⟩, fun D4 hD4 => comp_zip (xs := nums (headN ps j)) (zs := ds.map V.ref)
          (fun i ys H8 => Same H7 H8 ∧ i ≤ (headN ps j).length ∧ ys = ((headN ps j).take i).map fun h => V.bl (decide (Has rs (r ++ [n]) h))) (by rw [nums_len, List.length_map, hSn.len]) ⟨Same.new hD4, Nat.zero_le _, rfl⟩
          (fun i ys H8 _ ⟨e, _⟩ => ⟨e _ _ (s57 _ _ hh5), e _ _ (s57 _ _ hds)⟩) ?_ ?_⟩
        · rintro i3 x3 z3 ys H8 p8 hx3 hz3 ⟨se8, hi8, rfl⟩ hDl8 hp8
          obtain ⟨h, hhi, rfl⟩ := nums_at hx3
          have hi3 : i3 < (headN ps j).length := (List.getElem?_eq_some_iff.mp hhi).1
          have sp8 : Same H8 (upd H8 p8 (.tup [.int (h : Nat), z3])) := Same.new hp8
          generalize upd H8 p8 (.tup [.int (h : Nat), z3]) = H9 at sp8 ⊢
          have s79 : Same H7 H9 := se8.trans sp8
          obtain ⟨d, kvs, rfl, hd9, hk⟩ := (hSn5.same (s57.trans s79)).get hz3 hhi
          refine yes_mk ?_
          refine ⟨_, rfl, _, rfl, g, r ++ [n], h, rfl, s79 _ _ hg7, by rw [List.length_append, hrl]; show j + 1 ≤ 6; omega, hhn h (List.mem_of_getElem? hhi), fun t10 H10 f10 s10 c10 => ⟨_, rfl, d, _, rfl, DGet.t (s10 _ _ hd9) (by rw [keyN_map]; exact c10), ?_⟩⟩
          have eB : (valV kvs (keyN (cellsN (r ++ [n]) h))).isSome = decide (Has rs (r ++ [n]) h) := by
            rw [Bool.eq_iff_iff, decide_eq_true_iff, hk]
            exact ⟨fun ⟨t, ht, e⟩ => ⟨t, ht, (keyN_inj e).symm⟩, fun ⟨t, ht, e⟩ => ⟨t, ht, by rw [e]⟩⟩
          rw [eB]
          refine CE2.mk (s10 _ _ (sp8 _ _ hDl8)) (small1000 (by rw [List.length_map, List.length_take]; omega)) ⟨Same.up (s79.trans s10) hD4, hi3, ?_⟩
          rw [List.take_succ, hhi, List.map_append]; rfl
        · rintro ys H8 ⟨se8, _, rfl⟩ hDl8
          rw [nums_len, List.take_length] at hDl8
          have s58 : Same H5 H8 := s57.trans se8
          have s68 : Same H6 H8 := s67.trans se8
          have hW8 := s68 _ _ hW6
          have hR8 := hR6.same s68
          refine ⟨D4, (headN ps j).map fun h => decide (Has rs (r ++ [n]) h), rfl, SqL.of (by rw [List.map_map]; exact hDl8), _, rfl, ?_⟩
          have eO : ((headN ps j).map fun h => decide (Has rs (r ++ [n]) h)).all id = okB rs ps j (r ++ [n]) := by unfold okB; rw [List.all_map]; rfl
          refine ite2 (fun e => ?_) (fun e => ?_)
          · rw [eO] at e
            have hsz : (ts6.map V.ref).length < sizeLine := by
              have h1 : ((((colN rs j).take m).map fun n => r ++ [n]).filter (okB rs ps j)).length ≤ 100 := Nat.le_trans (List.length_filter_le _ _) (by rw [List.length_map, List.length_take]; omega)
              rw [List.length_take] at hwid
              rw [List.length_map, hR6.len, List.length_append, sizeLine_eq]
              omega
            refine ⟨_, rfl, .inl ⟨rfl, _, SqL.of hW8⟩, _, rfl, W, ts6.map V.ref, .ref g, rfl, rfl, hW8, hsz, ?_⟩
            refine ⟨Same.up s58 hW, ⟨ts6 ++ [g], by rw [upd_same, List.map_append]; rfl, ?_, fun t ht => ?_, ?_⟩, _, _, rfl⟩
            · rw [part_snoc hni, if_pos e, ← List.append_assoc]
              refine Rws.upd (Rws.snoc (se8 _ _ hg7) hR8) fun z => ?_
              rcases List.mem_append.mp z with z | z
              · exact (hF6 W z).2 rfl
              · exact hgW (List.mem_singleton.mp z).symm
            · rcases List.mem_append.mp ht with z | z
              · exact hF6 t z
              · have e1 : t = g := by simpa using z
                subst e1
                exact ⟨hg5, hgW⟩
            · refine List.nodup_append.mpr ⟨hnd6, by simp, fun a ha b' hb' z => ?_⟩
              have e1 : b' = g := by simpa using hb'
              subst e1; subst z
              exact hgt ha
          · rw [eO] at e
            refine ⟨s58, ⟨ts6, hW8, ?_, hF6, hnd6⟩, _, _, rfl⟩
            rw [part_snoc hni, if_neg e, List.append_nil]
            exact hR8
      · rintro σ' H6 ⟨s6, hN6, nv, gv, rfl⟩
        rw [nums_len, List.take_length, ← wid_snoc hri] at hN6
        exact ⟨s6, hN6, _, _, _, rfl⟩
    · rintro σ' H' ⟨se, hN, rv, nv, gv, rfl⟩
      rw [hqn, List.take_length] at hN
      obtain ⟨ts6, a1, a2, a3, a4⟩ := hN
      exact ⟨_, rfl, k W H' (s05.free hW) (s05.trans se) ⟨ts6, a1, a2, fun t ht => ⟨s05.free (a3 t ht).1, (a3 t ht).2⟩, a4⟩⟩
end
end K06

namespace K06
open PySem L2 TC
def joinN (rs : List (List Nat)) (ps : List Nat) : Nat → List (List Nat)
  | 0 => [[]]
  | j + 1 => wid rs ps j (joinN rs ps j)
theorem mem_wid {rs : List (List Nat)} {ps : List Nat} {j : Nat} {ws : List (List Nat)} {x : List Nat} (h : x ∈ wid rs ps j ws) : ∃ r ∈ ws, ∃ n ∈ colN rs j, x = r ++ [n] := by
  obtain ⟨r, hr, hx⟩ := List.mem_flatMap.mp h
  obtain ⟨n, hn, e⟩ := List.mem_map.mp (List.mem_filter.mp hx).1
  exact ⟨r, hr, n, hn, e.symm⟩
theorem joinN_row (rs : List (List Nat)) (ps : List Nat) : ∀ (j : Nat), ∀ r ∈ joinN rs ps j, r.length = j
  | 0, r, h => by
    have e : r = [] := by simpa [joinN] using h
    rw [e]; rfl
  | j + 1, r, h => by
    obtain ⟨r', h1, n, _, rfl⟩ := mem_wid h
    rw [List.length_append, joinN_row rs ps j r' h1]; rfl
theorem wid_len3 {rs : List (List Nat)} {ps : List Nat} {j : Nat} (h3 : (colN rs j).length ≤ 3) : ∀ ws : List (List Nat), (wid rs ps j ws).length ≤ ws.length * 3
  | [] => Nat.zero_le _
  | r :: ws => by
    unfold wid
    rw [List.flatMap_cons, List.length_append, List.length_cons]
    have h1 := wid_len3 (ps := ps) h3 ws
    unfold wid at h1
    have h2 : (((colN rs j).map fun n => r ++ [n]).filter (okB rs ps j)).length ≤ 3 := Nat.le_trans (List.length_filter_le _ _) (by rw [List.length_map]; exact h3)
    omega
theorem joinN_len {rs : List (List Nat)} {ps : List Nat} : ∀ {j : Nat}, (∀ i, i < j → (colN rs i).length ≤ 3) → (joinN rs ps j).length ≤ 3 ^ j
  | 0, _ => Nat.le_refl _
  | j + 1, h => by
    have h1 := joinN_len (ps := ps) (j := j) fun i hi => h i (by omega)
    have h2 := wid_len3 (ps := ps) (h j (by omega)) (joinN rs ps j)
    have e : 3 ^ (j + 1) = 3 ^ j * 3 := Nat.pow_succ ..
    show (wid rs ps j (joinN rs ps j)).length ≤ _
    rw [e]
    exact Nat.le_trans h2 (Nat.mul_le_mul_right 3 h1)
def sp_joined : Sp := fun vs H Q _ => ∃ (l pp : Addr) (c : Nat) (rs : List (List Nat)) (ps : List Nat), vs = [.int (c : Nat), .ref l, .ref pp] ∧ 1 ≤ c ∧ c ≤ 6 ∧ TblAt H l rs ∧ rs.length ≤ 8 ∧ GoodT c rs ∧ (∀ j, j < c → (colN rs j).length ≤ 3) ∧
  H pp = some (.lst (nums ps)) ∧ 1 ≤ ps.length ∧ ps.length < 64 ∧ (∀ p ∈ ps, 1 ≤ p ∧ p < 2 ^ c) ∧ ps.foldl (· ||| ·) 0 = 2 ^ c - 1 ∧
  ∀ (d : Addr) (H' : Hp), H d = none → Same H H' → NewRows H H' d (joinN rs ps c) → Q (.ref d) H'
theorem NewRows.tbl {H0 H : Hp} {l : Addr} {rs : List (List Nat)} : NewRows H0 H l rs → TblAt H l rs := fun ⟨ts, h, r, _⟩ => ⟨ts, h, r⟩
section
variable {P : Program} {w : World} {K : PySem.W.Frag} {mg : Str → Option Value} {base : Heap} {A : Adr}
theorem ok_joined (T : Txt K mg A) : FnOk P w K mg base CX0 9 A.f_joined A.d_joined ["columns", "table", "parts"] sp_joined := by
  have G_need_table := ok_need_table (P := P) (w := w) (base := base) T
  have G_need_parts := ok_need_parts (P := P) (w := w) (base := base) T
  have G_widened := ok_widened (P := P) (w := w) (base := base) T
  refine T.F_joined.ok sc_joined (fun vs H Q E h => ?_) (fun cdv A' outer s H vs Q E hr h => ?_)
  · obtain ⟨l, pp, c, rs, ps, rfl, _⟩ := h; rfl
  · obtain ⟨l, pp, c, rs, ps, rfl, hc1, hc6, hT, hT63, hG, h3, hpp, hp1, hp63, hps, hall, k⟩ := h
    have h64 : 2 ^ c ≤ 64 := Nat.pow_le_pow_right (by decide) hc6
    refine ⟨_, (pss_cons (ps_expr (pe_call G_need_table (hr.mono (by decide)) rfl T.m_need_table T.F_need_table.kp T.b_need_table .nil pass0 (pa_cons (pv 0) (pa_cons (pv 1) pa_nil))))
      (pss_cons (ps_if (pt_cmpR op_gt (pe_callB (call_lenK K) rfl T.z_len bt_len (pa_cons (pv 1) pa_nil)) (pe_glob (v := .int 8) rfl T.g_MOST_ROWS_JOINED.choose_spec ⟨_, rfl⟩) (nomark _)) (pss_one ps_never) pss_nil)
      (pss_cons (ps_expr (pe_call G_need_parts (hr.mono (by decide)) rfl T.m_need_parts T.F_need_parts.kp T.b_need_parts .nil pass0 (pa_cons (pv 0) (pa_cons (pv 2) pa_nil))))
      (pss_cons (ps_set (i := 3) sc_joined.nd rfl (Or.inl rfl) (pe_lst (pa_cons (pe_lst pa_nil) pa_nil)))
      (pss_cons (ps_for PassesOwn.never rfl (pi_range1 rfl T.z_range (pa_cons (pv 0) pa_nil)) (pg_name (i := 4) sc_joined.nd rfl (Or.inl rfl))
      (pss_one (ps_set (i := 3) sc_joined.nd rfl (Or.inl rfl) (pe_call G_widened (hr.mono (by decide)) rfl T.m_widened T.F_widened.kp T.b_widened .nil pass0 (pa_cons (pv 3) (pa_cons (pv 4) (pa_cons (pv 1) (pa_cons (pv 2) pa_nil))))))))
      (pss_one (ps_ret (pv 3)))))))), ?_⟩
    refine ⟨_, rfl, _, rfl, l, c, rs, rfl, hc1, hc6, hT, hG, fun H1 s1 => ?_⟩
    obtain ⟨tl, htl, htr⟩ := hT.same s1
    have hnl : (tl.map V.ref).length = rs.length := by rw [List.length_map]; exact htr.len
    refine ⟨_, rfl, l, _, rfl, .inl (SqL.of htl), _, 8, rfl, rfl, _, rfl, ?_⟩
    refine ite2 (fun e => absurd (of_decide_eq_true e) (by rw [hnl]; omega)) (fun _ => ?_)
    refine ⟨_, rfl, _, rfl, pp, c, ps, rfl, hc6, s1 _ _ hpp, hp1, by omega, hps, hall, ?_⟩
    refine ⟨Nat.zero_le _, fun e0 he0 => ⟨by show 1 ≤ sizeLine; decide, fun q0 hq0 => ?_⟩⟩
    have hq1 : H1 q0 = none := (Same.new he0).free hq0
    refine ⟨_, rfl, (c : Int), rfl, by omega, by omega, ?_⟩
    rw [Int.toNat_natCast]
    refine for_range (lo := 0) (n := c) (fun i σ' H' => Same H1 H' ∧ ∃ q cv, σ' = [some (.int (c : Nat)), some (.ref l), some (.ref pp), some (.ref q), cv] ∧ H1 q = none ∧ NewRows H1 H' q (joinN rs ps i)) ⟨Same.up (Same.new he0) hq1, q0, none, rfl, hq1, [e0], upd_same, ⟨?_, trivial⟩, ?_, by simp⟩ ?_ ?_
    · have ne : e0 ≠ q0 := fun z => by rw [← z, upd_same] at hq0; cases hq0
      rw [upd_ne ne]; exact upd_same
    · intro t ht
      have e1 : t = e0 := by simpa using ht
      subst e1
      exact ⟨he0, fun z => by rw [← z, upd_same] at hq0; cases hq0⟩
    · rintro i σ' H' hi ⟨se, q, cv, rfl, hqn, hN⟩
      rw [Int.zero_add]
      have s0 : Same H H' := s1.trans se
      have hwl : (joinN rs ps i).length ≤ 1000 := by
        have h1 := joinN_len (ps := ps) (j := i) fun i' hi' => h3 i' (by omega)
        have h2 : 3 ^ i ≤ 3 ^ 6 := Nat.pow_le_pow_right (by decide) (by omega)
        have h4 : 3 ^ 6 = 729 := by decide
        omega
      refine ⟨_, rfl, _, rfl, _, rfl, _, rfl, q, l, pp, i, c, joinN rs ps i, rs, ps, rfl, hi, hc6, hN.tbl, joinN_row rs ps i, hwl, hT.same s0, by omega, hG, s0 _ _ hpp, hp63, fun p hp => by have := (hps p hp).2; omega, fun d H2 hd s2 ⟨ts, a1, a2, a3, a4⟩ => ?_⟩
      exact ⟨se.trans s2, d, _, rfl, se.free hd, ts, a1, a2, fun t ht => ⟨se.free (a3 t ht).1, (a3 t ht).2⟩, a4⟩
    · rintro σ' H' ⟨se, q, cv, rfl, hqn, ts, a1, a2, a3, a4⟩
      exact ⟨_, rfl, k q H' (s1.free hqn) (s1.trans se) ⟨ts, a1, a2, fun t ht => ⟨s1.free (a3 t ht).1, (a3 t ht).2⟩, a4⟩⟩
end
end K06

namespace K06
open PySem L2 TC
def sp_cell_at (K : PySem.W.Frag) : Sp := fun vs H Q _ => ∃ (a : Addr) (ns : List Int) (k : Nat), vs = [.ref a, .int (k : Nat)] ∧ SqL K H a (ns.map V.int) ∧ ∀ x : Int, Q (.int x) H
def sp_draw : Sp := fun vs H Q _ => ∃ (x : Int) (k : Nat) (m : Nat), vs = [.int x, .int (k : Nat), .int (m : Nat)] ∧ 0 < m ∧ m < 1000 ∧ ∀ r : Nat, r < m → Q (.int (r : Nat)) H
def sp_set : Sp := fun vs H Q _ => ∃ (x : Int) (c : Nat), vs = [.int x, .int (c : Nat)] ∧ c ≤ 6 ∧ ∀ s : Nat, s < 2 ^ c → Q (.int (s : Nat)) H
def sp_pairs : Sp := fun vs H Q _ => ∃ (x : Int) (c m : Nat), vs = [.int x, .int (c : Nat), .int (m : Nat)] ∧ c ≤ 6 ∧ m ≤ 64 ∧
  ∀ (l : Addr) (ps : List (Nat × Nat)) (H' : Hp), H l = none → Same H H' → PrsAt H' l ps → ps.length ≤ m → (∀ p ∈ ps, p.1 < 2 ^ c ∧ p.2 < 2 ^ c) → Q (.ref l) H'
section
variable {P : Program} {w : World} {K : PySem.W.Frag} {mg : Str → Option Value} {base : Heap} {A : Adr}
/-! ### the law's own defs -/
theorem ok_law_cell_at (T : Txt K mg A) : FnOk P w K mg base CX0 1 A.f_law_cell_at A.d_law_cell_at ["_law_script", "_law_k"] (sp_cell_at K) := by
  refine T.F_law_cell_at.ok sc_law_cell_at (fun vs H Q E h => ?_) (fun cdv A' outer s H vs Q E hr h => ?_)
  · obtain ⟨a, ns, n, rfl, _⟩ := h; rfl
  · obtain ⟨a, ns, n, rfl, hS, k⟩ := h
    refine ⟨_, (pss_cons (ps_if (pt_cmpR op_lt (pv 1) (pe_callB (call_lenK K) rfl T.z_len bt_len (pa_cons (pv 0) pa_nil)) (nomark _)) (pss_one (ps_ret (pe_ix (ix_listK K) (pv 0) (pv 1) (fun _ _ => rfl)))) pss_nil)
      (pss_one (ps_ret pe_int))), ?_⟩
    refine ⟨_, rfl, _, rfl, a, _, rfl, .inl hS, _, _, rfl, rfl, _, rfl, ?_⟩
    refine ite2 (fun e => ?_) (fun e => ?_)
    · have e' := of_decide_eq_true e
      rw [List.length_map] at e'
      have hi : n < ns.length := by omega
      have hg : (ns.map V.int)[n]? = some (.int ns[n]) := by rw [List.getElem?_map, List.getElem?_eq_getElem hi]; rfl
      exact ⟨_, rfl, _, rfl, a, _, (n : Int), _, rfl, rfl, hS, atI_nat hg, k _⟩
    · exact k 0
theorem ok_law_draw (T : Txt K mg A) : FnOk P w K mg base CX0 1 A.f_law_draw A.d_law_draw ["_law_cell", "_law_k", "_law_many"] sp_draw := by
  refine T.F_law_draw.ok sc_law_draw (fun vs H Q E h => ?_) (fun cdv A' outer s H vs Q E hr h => ?_)
  · obtain ⟨x, n, m, rfl, _⟩ := h; rfl
  · obtain ⟨x, n, m, rfl, hm, hm2, k⟩ := h
    refine ⟨_, (pss_cons (ps_set (i := 3) sc_law_draw.nd rfl (Or.inl rfl) (pe_op op_mod (pe_op op_add (pe_op op_add (pe_op op_mul (pe_op op_mod (pv 0) pe_int) pe_int) (pe_op op_mul (pv 1) pe_int)) pe_int) pe_int))
      (pss_one (ps_ret (pe_op op_mod (pe_op op_mod (pe_op op_fdiv (pe_op op_mul (pv 3) (pv 3)) pe_int) pe_int) (pv 2))))), ?_⟩
    refine ⟨_, rfl, x, 1000000007, rfl, rfl, (by show (0 : Int) < 1000000007; decide), _, 48271, rfl, rfl, .inr ⟨by decide, by decide⟩, _, rfl, _, 69621, rfl, rfl, .inr ⟨by decide, by decide⟩, _, _, rfl, rfl, _, 7, rfl, rfl, _, 1000000007, rfl, rfl, (by show (0 : Int) < 1000000007; decide), ?_⟩
    have y0 : 0 ≤ (x % 1000000007 * 48271 + (n : Int) * 69621 + 7) % 1000000007 := Int.emod_nonneg _ (by decide)
    have y1 : (x % 1000000007 * 48271 + (n : Int) * 69621 + 7) % 1000000007 < 1000000007 := Int.emod_lt_of_pos _ (by decide)
    refine ⟨_, rfl, _, rfl, _, _, rfl, rfl, .inl ⟨by omega, by omega⟩, _, 1013, rfl, rfl, ⟨by decide, by decide⟩, _, 1000003, rfl, rfl, (by show (0 : Int) < 1000003; decide), _, rfl, _, (m : Int), rfl, rfl, (by show (0 : Int) < (m : Int); omega), ?_⟩
    generalize (x % 1000000007 * 48271 + (n : Int) * 69621 + 7) % 1000000007 = y
    show Q (V.int (y * y / 1013 % 1000003 % (m : Int))) H
    have z0 : 0 ≤ y * y / 1013 % 1000003 % (m : Int) := Int.emod_nonneg _ (by omega)
    have z1 : y * y / 1013 % 1000003 % (m : Int) < m := Int.emod_lt_of_pos _ (by omega)
    obtain ⟨r, hr'⟩ := Int.eq_ofNat_of_zero_le z0
    rw [hr'] at z1 ⊢
    exact k r (by omega)
theorem ok_law_set (T : Txt K mg A) : FnOk P w K mg base CX0 3 A.f_law_set A.d_law_set ["_law_cell", "_law_columns"] sp_set := by
  have G_law_draw := ok_law_draw (P := P) (w := w) (base := base) T
  refine T.F_law_set.ok sc_law_set (fun vs H Q E h => ?_) (fun cdv A' outer s H vs Q E hr h => ?_)
  · obtain ⟨x, c, rfl, _⟩ := h; rfl
  · obtain ⟨x, c, rfl, hc, k⟩ := h
    refine ⟨_, (pss_cons (ps_set (i := 2) sc_law_set.nd rfl (Or.inl rfl) pe_int)
      (pss_cons (ps_for PassesOwn.never rfl (pi_range1 rfl T.z_range (pa_cons (pv 1) pa_nil)) (pg_name (i := 3) sc_law_set.nd rfl (Or.inl rfl))
      (pss_one (ps_if (pt_cmpR op_eq (pe_call G_law_draw (hr.mono (by decide)) rfl T.m_law_draw T.F_law_draw.kp T.b_law_draw .nil pass0 (pa_cons (pe_op op_add (pv 0) (pe_op op_mul pe_int (pv 3))) (pa_cons pe_int (pa_cons pe_int pa_nil)))) pe_int (nomark _)) (pss_one (ps_set (i := 2) sc_law_set.nd rfl (Or.inl rfl) (pe_op op_or (pv 2) (pe_op op_shl pe_int (pv 3))))) pss_nil)))
      (pss_one (ps_ret (pv 2))))), ?_⟩
    refine ⟨_, rfl, _, rfl, by omega, by omega, for_range (lo := 0) (n := ((c : Nat) : Int).toNat) (fun i σ' H' => H' = H ∧ ∃ (s : Nat) (cv : Option V), σ' = [some (.int x), some (.int (c : Nat)), some (.int (s : Nat)), cv] ∧ s < 2 ^ c) ⟨rfl, 0, none, rfl, Nat.two_pow_pos c⟩ ?_ ?_⟩
    · rintro i σ' H' hi ⟨rfl, s, cv, rfl, hs⟩
      rw [Int.toNat_natCast] at hi
      rw [Int.zero_add]
      refine ⟨_, rfl, _, rfl, 31, (i : Int), rfl, rfl, .inl ⟨by decide, by decide⟩, _, _, rfl, rfl, _, 2, 3, rfl, by decide, by decide, fun r hr' => ⟨rfl, _, rfl, ?_⟩⟩
      refine ite2 (fun e => ?_) (fun e => ?_)
      · refine ⟨_, rfl, _, rfl, 1, (i : Int), rfl, rfl, ⟨Int.natCast_nonneg i, by omega, by decide⟩, (s : Int), _, rfl, rfl, ?_⟩
        refine ⟨rfl, s ||| 2 ^ i, some (.int (i : Nat)), ?_, Nat.or_lt_two_pow hs (Nat.pow_lt_pow_right (by decide) hi)⟩
        rw [← or_nat, ← shl_nat]; rfl
      · exact ⟨rfl, s, _, rfl, hs⟩
    · rintro σ' H' ⟨rfl, s, cv, rfl, hs⟩
      exact ⟨_, rfl, k s hs⟩
theorem ok_law_pairs (T : Txt K mg A) : FnOk P w K mg base CX0 5 A.f_law_pairs A.d_law_pairs ["_law_cell", "_law_columns", "_law_most"] sp_pairs := by
  have G_law_draw := ok_law_draw (P := P) (w := w) (base := base) T
  have G_law_set := ok_law_set (P := P) (w := w) (base := base) T
  refine T.F_law_pairs.ok sc_law_pairs (fun vs H Q E h => ?_) (fun cdv A' outer s H vs Q E hr h => ?_)
  · obtain ⟨x, c, m, rfl, _⟩ := h; rfl
  · obtain ⟨x, c, m, rfl, hc, hm, k⟩ := h
    refine ⟨_, (pss_cons (ps_set (i := 3) sc_law_pairs.nd rfl (Or.inl rfl) (pe_lst pa_nil))
      (pss_cons (ps_for PassesOwn.never rfl (pi_range1 rfl T.z_range (pa_cons (pe_call G_law_draw (hr.mono (by decide)) rfl T.m_law_draw T.F_law_draw.kp T.b_law_draw .nil pass0 (pa_cons (pv 0) (pa_cons pe_int (pa_cons (pe_op op_add (pv 2) pe_int) pa_nil)))) pa_nil)) (pg_name (i := 4) sc_law_pairs.nd rfl (Or.inl rfl))
      (pss_cons (ps_set (i := 5) sc_law_pairs.nd rfl (Or.inl rfl) (pe_call G_law_set (hr.mono (by decide)) rfl T.m_law_set T.F_law_set.kp T.b_law_set .nil pass0 (pa_cons (pe_op op_add (pe_op op_fdiv (pv 0) (pe_op op_add (pv 4) pe_int)) (pe_op op_mul pe_int (pv 4))) (pa_cons (pv 1) pa_nil))))
      (pss_cons (ps_set (i := 6) sc_law_pairs.nd rfl (Or.inl rfl) (pe_call G_law_set (hr.mono (by decide)) rfl T.m_law_set T.F_law_set.kp T.b_law_set .nil pass0 (pa_cons (pe_op op_add (pe_op op_add (pe_op op_fdiv (pv 0) (pe_op op_add (pv 4) pe_int)) (pe_op op_mul pe_int (pv 4))) pe_int) (pa_cons (pv 1) pa_nil))))
      (pss_cons (ps_if (PW.pt (pw_and (pt_cmpR op_eq (pe_call G_law_draw (hr.mono (by decide)) rfl T.m_law_draw T.F_law_draw.kp T.b_law_draw .nil pass0 (pa_cons (pe_op op_add (pv 0) (pv 4)) (pa_cons pe_int (pa_cons pe_int pa_nil)))) pe_int (nomark _)) (pw_and1 (pt_cmpR op_gt (pv 4) pe_int (nomark _))))) (pss_one (ps_set (i := 5) sc_law_pairs.nd rfl (Or.inl rfl) (pe_ix (ix_tupK K) (pe_ix (ix_listK K) (pv 3) (pe_un un_neg pe_int) (fun _ _ => rfl)) pe_int (fun _ _ => rfl)))) pss_nil)
      (pss_one (ps_expr (pe_appendK K (pv 3) (pa_cons (pe_tup (pa_cons (pv 5) (pa_cons (pv 6) pa_nil))) pa_nil))))))))
      (pss_one (ps_ret (pv 3))))), ?_⟩
    refine ⟨Nat.zero_le _, fun l hl => ?_⟩
    refine ⟨_, rfl, _, rfl, (m : Int), 1, rfl, rfl, x, 1, m + 1, rfl, by omega, by omega, fun n hn => ⟨(n : Int), rfl, by omega, by omega, ?_⟩⟩
    refine for_range (lo := 0) (n := ((n : Nat) : Int).toNat) (fun i σ' H' => ∃ (ps : List (Nat × Nat)) (kv lv rv : Option V), σ' = [some (.int x), some (.int (c : Nat)), some (.int (m : Nat)), some (.ref l), kv, lv, rv] ∧ Same H H' ∧ PrsAt H' l ps ∧ ps.length = i ∧ ∀ p ∈ ps, p.1 < 2 ^ c ∧ p.2 < 2 ^ c)
      ⟨[], none, none, none, rfl, Same.new hl, ⟨[], upd_same, trivial⟩, rfl, fun _ z => nomatch z⟩ ?_ ?_
    · rintro i σ' H' hi ⟨ps, kv, lv, rv, rfl, se, hP, hpl, hps⟩
      rw [Int.toNat_natCast] at hi
      rw [Int.zero_add]
      obtain ⟨ts, hL, htp⟩ := id hP
      have hlen := htp.len
      refine ⟨_, rfl, _, rfl, (i : Int), 3, rfl, rfl, x, _, rfl, rfl, ⟨by omega, by omega⟩, _, rfl, 977, (i : Int), rfl, rfl, .inl ⟨by decide, by decide⟩, _, _, rfl, rfl, _, rfl, _, c, rfl, hc, fun lf hlf => ?_⟩
      refine ⟨_, rfl, _, rfl, (i : Int), 7, rfl, rfl, x, _, rfl, rfl, ⟨by omega, by omega⟩, _, rfl, 977, (i : Int), rfl, rfl, .inl ⟨by decide, by decide⟩, _, _, rfl, rfl, _, 5, rfl, rfl, _, rfl, _, c, rfl, hc, fun rg hrg => ?_⟩
      -- the pair is put behind
      have tl : ∀ lf' : Nat, lf' < 2 ^ c → ∀ q, H' q = none → ∃ (ps' : List (Nat × Nat)), Same H (upd (upd H' q (.tup [.int (lf' : Nat), .int (rg : Nat)])) l (.lst (ts.map V.ref ++ [.ref q]))) ∧ PrsAt (upd (upd H' q (.tup [.int (lf' : Nat), .int (rg : Nat)])) l (.lst (ts.map V.ref ++ [.ref q]))) l ps' ∧ ps'.length = i + 1 ∧ ∀ p ∈ ps', p.1 < 2 ^ c ∧ p.2 < 2 ^ c := by
        intro lf' h1 q hq
        have nlq : l ≠ q := ne_of_none hL hq
        have hL2 : (upd H' q (.tup [.int (lf' : Nat), .int (rg : Nat)])) l = some (.lst (ts.map V.ref)) := by rw [upd_ne nlq]; exact hL
        refine ⟨ps ++ [(lf', rg)], Same.up (Same.up se (se.free hq)) hl, ⟨ts ++ [q], by rw [upd_same, List.map_append]; rfl, ?_⟩, by rw [List.length_append, hpl]; rfl, fun p hp => ?_⟩
        · exact Tps.snoc (by rw [upd_ne nlq.symm, upd_same]) ((htp.same (Same.new hq)).upd hL2)
        · rcases List.mem_append.mp hp with z | z
          · exact hps p z
          · have z' : p = (lf', rg) := by simpa using z
            subst z'
            exact ⟨h1, hrg⟩
      have hsz : (ts.map V.ref).length < sizeLine := small1000 (by rw [List.length_map]; omega)
      refine ⟨_, rfl, _, rfl, x, (i : Int), rfl, rfl, _, 4, 3, rfl, by decide, by decide, fun r hr' => ⟨rfl, _, rfl, ?_⟩⟩
      refine ite2 (fun e => ?_) (fun e => ?_)
      · refine ⟨_, rfl, (i : Int), 0, rfl, rfl, _, rfl, ?_⟩
        refine ite2 (fun e2 => ?_) (fun e2 => ?_)
        · have hi0 : 0 < i := by have := of_decide_eq_true e2; omega
          -- _law_left = _law_pairs_here[-1][1]
          obtain ⟨j, rfl⟩ : ∃ j, i = j + 1 := ⟨i - 1, by omega⟩
          have hjl : j < ps.length := by omega
          have hjt : j < ts.length := by omega
          have hgt : (ts.map V.ref)[j]? = some (.ref ts[j]) := by rw [List.getElem?_map, List.getElem?_eq_getElem hjt]; rfl
          obtain ⟨t, p, et, hp, ht⟩ := htp.get hgt
          injection et with et
          subst et
          have hat : atI (ts.map V.ref) (-1) = some (.ref ts[j]) := by
            have hll : (ts.map V.ref).length = j + 1 := by rw [List.length_map]; omega
            unfold atI ixN
            rw [hll, if_neg (by decide), if_pos (by omega)]
            show (ts.map V.ref)[((-1 : Int) + ((j + 1 : Nat) : Int)).toNat]? = _
            rw [show ((-1 : Int) + ((j + 1 : Nat) : Int)).toNat = j by omega]
            exact hgt
          refine ⟨_, rfl, 1, rfl, l, _, -1, _, rfl, rfl, SqL.of hL, hat, ts[j], _, 1, _, rfl, rfl, SqT.of ht, rfl, ?_⟩
          refine ⟨_, rfl, .inl ⟨rfl, _, SqL.of hL⟩, _, rfl, _, rfl, by show 2 ≤ sizeLine; decide, fun q hq => ⟨l, ts.map V.ref, .ref q, rfl, rfl, by rw [upd_ne (ne_of_none hL hq)]; exact hL, hsz, ?_⟩⟩
          obtain ⟨ps', a1, a2, a3, a4⟩ := tl p.2 (hps p (List.mem_of_getElem? hp)).2 q hq
          exact ⟨ps', _, _, _, rfl, a1, a2, a3, a4⟩
        · refine ⟨_, rfl, .inl ⟨rfl, _, SqL.of hL⟩, _, rfl, _, rfl, by show 2 ≤ sizeLine; decide, fun q hq => ⟨l, ts.map V.ref, .ref q, rfl, rfl, by rw [upd_ne (ne_of_none hL hq)]; exact hL, hsz, ?_⟩⟩
          obtain ⟨ps', a1, a2, a3, a4⟩ := tl lf hlf q hq
          exact ⟨ps', _, _, _, rfl, a1, a2, a3, a4⟩
      · refine iteF ?_
        refine ⟨_, rfl, .inl ⟨rfl, _, SqL.of hL⟩, _, rfl, _, rfl, by show 2 ≤ sizeLine; decide, fun q hq => ⟨l, ts.map V.ref, .ref q, rfl, rfl, by rw [upd_ne (ne_of_none hL hq)]; exact hL, hsz, ?_⟩⟩
        obtain ⟨ps', a1, a2, a3, a4⟩ := tl lf hlf q hq
        exact ⟨ps', _, _, _, rfl, a1, a2, a3, a4⟩
    · rintro σ' H' ⟨ps, kv, lv, rv, rfl, se, hP, hpl, hps⟩
      rw [Int.toNat_natCast] at hpl
      exact ⟨_, rfl, k l ps H' hl se hP (by omega) hps⟩
end
theorem shr64 : ∀ s, s < 64 → ∀ i, i < 6 → decide (((s / 2 ^ i) &&& 1) = 1) = s.testBit i := by decide +kernel
theorem shr_bit {s i : Nat} (hs : s < 64) (hi : i < 6) : decide (V.int (Builtin.bitAnd ((s : Int) / 2 ^ ((i : Int)).toNat) 1) = V.int 1) = s.testBit i := by
  have e : (s : Int) / 2 ^ ((i : Int)).toNat = ((s / 2 ^ i : Nat) : Int) := by rw [Int.toNat_natCast]; norm_cast
  rw [e, show Builtin.bitAnd ((s / 2 ^ i : Nat) : Int) 1 = ((s / 2 ^ i &&& 1 : Nat) : Int) from and_nat _ 1, ← shr64 s hs i hi]
  generalize s / 2 ^ i &&& 1 = z
  by_cases h : z = 1
  · subst h; rfl
  · rw [decide_eq_false h]
    refine decide_eq_false fun q => h ?_
    injection q with q
    omega
theorem cells_iff {x y : List Nat} (s : Nat) (h : x.length = y.length) : cellsN x s = cellsN y s ↔ ∀ j, j < x.length → s.testBit j = true → x.getD j 0 = y.getD j 0 := by
  unfold cellsN cellsI
  rw [← h, List.map_inj_left]
  constructor
  · intro z j h1 h2
    exact z j (List.mem_filter.mpr ⟨List.mem_range.mpr h1, h2⟩)
  · intro z j hj
    obtain ⟨h1, h2⟩ := List.mem_filter.mp hj
    exact z j (List.mem_range.mp h1) h2
def Made (rs : List (List Nat)) (ps : List Nat) (x : List Nat) : Prop := ∀ p ∈ ps, Has rs x p
instance (rs : List (List Nat)) (ps : List Nat) (x : List Nat) : Decidable (Made rs ps x) := by unfold Made; infer_instance
def sp_like : Sp := fun vs H Q _ => ∃ (a b : Addr) (x y : List Nat) (s : Nat), vs = [.ref a, .ref b, .int (s : Nat)] ∧ H a = some (.lst (nums x)) ∧ H b = some (.lst (nums y)) ∧ x.length = y.length ∧ x.length ≤ 6 ∧ s < 64 ∧ Q (.bl (decide (cellsN x s = cellsN y s))) H
def sp_lkeeps : Sp := fun vs H Q _ => ∃ (l t : Addr) (c : Nat) (rs : List (List Nat)) (p : Nat × Nat), vs = [.ref l, .ref t] ∧ TblAt H l rs ∧ c ≤ 6 ∧ (∀ r ∈ rs, r.length = c) ∧ H t = some (.tup [.int (p.1 : Nat), .int (p.2 : Nat)]) ∧ p.1 < 64 ∧ p.2 < 64 ∧ Q (.bl (decide (Keeps rs p))) H
def sp_made : Sp := fun vs H Q _ => ∃ (a l pp : Addr) (c : Nat) (x : List Nat) (rs : List (List Nat)) (ps : List Nat), vs = [.ref a, .ref l, .ref pp] ∧ H a = some (.lst (nums x)) ∧ x.length = c ∧ c ≤ 6 ∧ TblAt H l rs ∧ (∀ r ∈ rs, r.length = c) ∧ rs.length ≤ 64 ∧ H pp = some (.lst (nums ps)) ∧ ps.length ≤ 64 ∧ (∀ p ∈ ps, p < 64) ∧ ∀ H', Same H H' → Q (.bl (decide (Made rs ps x))) H'
section
variable {P : Program} {w : World} {K : PySem.W.Frag} {mg : Str → Option Value} {base : Heap} {A : Adr}
theorem ok_law_like (T : Txt K mg A) : FnOk P w K mg base CX0 1 A.f_law_like A.d_law_like ["_law_one", "_law_other", "_law_some"] sp_like := by
  refine T.F_law_like.ok sc_law_like (fun vs H Q E h => ?_) (fun cdv A' outer s H vs Q E hr h => ?_)
  · obtain ⟨a, b, x, y, s, rfl, _⟩ := h; rfl
  · obtain ⟨a, b, x, y, s, rfl, ha, hb, hxy, hx6, hs, k⟩ := h
    refine ⟨_, (pss_cons (ps_for PassesOwn.never rfl (pi_range1 rfl T.z_range (pa_cons (pe_callB (call_lenK K) rfl T.z_len bt_len (pa_cons (pv 0) pa_nil)) pa_nil)) (pg_name (i := 3) sc_law_like.nd rfl (Or.inl rfl))
      (pss_one (ps_if (PW.pt (pw_and (pt_cmpR op_eq (pe_op op_and (pe_op op_shr (pv 2) (pv 3)) pe_int) pe_int (nomark _)) (pw_and1 (pt_cmpR op_ne (pe_ix (ix_listK K) (pv 0) (pv 3) (fun _ _ => rfl)) (pe_ix (ix_listK K) (pv 1) (pv 3) (fun _ _ => rfl)) (nomark _))))) (pss_one (ps_ret pe_bl)) pss_nil)))
      (pss_one (ps_ret pe_bl))), ?_⟩
    refine ⟨_, rfl, a, _, rfl, .inl (SqL.of ha), _, rfl, by rw [nums_len]; omega, by rw [nums_len]; omega, ?_⟩
    rw [nums_len, Int.toNat_natCast]
    refine for_range (lo := 0) (n := x.length) (fun i σ' H' => H' = H ∧ (∀ j, j < i → s.testBit j = true → x.getD j 0 = y.getD j 0) ∧ ∃ cv, σ' = [some (.ref a), some (.ref b), some (.int (s : Nat)), cv]) ⟨rfl, fun j hj => absurd hj (Nat.not_lt_zero _), none, rfl⟩ ?_ ?_
    · rintro i σ' H' hi ⟨rfl, i1, cv, rfl⟩
      rw [Int.zero_add]
      have h1 : (nums x)[i]? = some (.int (x.getD i 0 : Nat)) := by unfold nums; rw [List.getElem?_map, getD_at hi]; rfl
      have h2 : (nums y)[i]? = some (.int (y.getD i 0 : Nat)) := by unfold nums; rw [List.getElem?_map, getD_at (by omega)]; rfl
      refine ⟨_, rfl, _, rfl, (s : Int), (i : Int), rfl, rfl, Int.natCast_nonneg i, _, 1, rfl, rfl, rfl, _, rfl, ?_⟩
      rw [shr_bit hs (by omega)]
      have i2 : ∀ j, j < i + 1 → (j = i → s.testBit j = true → x.getD j 0 = y.getD j 0) → s.testBit j = true → x.getD j 0 = y.getD j 0 := fun j hj z ht => by
        rcases Nat.lt_or_ge j i with q | q
        · exact i1 j q ht
        · exact z (by omega) ht
      refine ite2 (fun e => ?_) (fun e => ?_)
      · refine ⟨_, rfl, _, rfl, a, _, (i : Int), _, rfl, rfl, SqL.of ha, atI_nat h1, _, rfl, _, rfl, b, _, (i : Int), _, rfl, rfl, SqL.of hb, atI_nat h2, rfl, _, rfl, ?_⟩
        refine ite2 (fun e2 => ?_) (fun e2 => ?_)
        · have hne : ¬ x.getD i 0 = y.getD i 0 := fun z => by rw [z] at e2; simp at e2
          have hk : decide (cellsN x s = cellsN y s) = false := decide_eq_false fun z => hne ((cells_iff s hxy).mp z i hi e)
          rw [hk] at k
          exact k
        · have heq : x.getD i 0 = y.getD i 0 := by
            have z : V.int ((x.getD i 0 : Nat) : Int) = V.int ((y.getD i 0 : Nat) : Int) := by simpa using e2
            injection z with z
            omega
          exact ⟨rfl, fun j hj ht => i2 j hj (fun q _ => by rw [q]; exact heq) ht, _, rfl⟩
      · exact ⟨rfl, fun j hj ht => i2 j hj (fun q ht => absurd (q ▸ ht) e) ht, _, rfl⟩
    · rintro σ' H' ⟨rfl, i1, cv, rfl⟩
      have hk : decide (cellsN x s = cellsN y s) = true := decide_eq_true ((cells_iff s hxy).mpr i1)
      rw [hk] at k
      exact k
theorem ok_law_keeps (T : Txt K mg A) : FnOk P w K mg base CX0 3 A.f_law_keeps A.d_law_keeps ["_law_table_here", "_law_rule"] sp_lkeeps := by
  have G_law_like := ok_law_like (P := P) (w := w) (base := base) T
  refine T.F_law_keeps.ok sc_law_keeps (fun vs H Q E h => ?_) (fun cdv A' outer s H vs Q E hr h => ?_)
  · obtain ⟨l, t, c, rs, p, rfl, _⟩ := h; rfl
  · obtain ⟨l, t, c, rs, p, rfl, ⟨ts, hl, htp⟩, hc6, hrl, ht, hp1, hp2, k⟩ := h
    refine ⟨_, (pss_cons (ps_for PassesOwn.never rfl (pi_listK K (pv 0)) (pg_name (i := 2) sc_law_keeps.nd rfl (Or.inl rfl))
      (pss_one (ps_for PassesOwn.never rfl (pi_listK K (pv 0)) (pg_name (i := 3) sc_law_keeps.nd rfl (Or.inl rfl))
      (pss_one (ps_if (PW.pt (pw_and (pt_val (pe_call G_law_like (hr.mono (by decide)) rfl T.m_law_like T.F_law_like.kp T.b_law_like .nil pass0 (pa_cons (pv 2) (pa_cons (pv 3) (pa_cons (pe_ix (ix_tupK K) (pv 1) pe_int (fun _ _ => rfl)) pa_nil))))) (pw_and1 (pt_not (pt_val (pe_call G_law_like (hr.mono (by decide)) rfl T.m_law_like T.F_law_like.kp T.b_law_like .nil pass0 (pa_cons (pv 2) (pa_cons (pv 3) (pa_cons (pe_ix (ix_tupK K) (pv 1) pe_int (fun _ _ => rfl)) pa_nil))))))))) (pss_one (ps_ret pe_bl)) pss_nil)))))
      (pss_one (ps_ret pe_bl))), ?_⟩
    have hln : (ts.map V.ref).length = rs.length := by rw [List.length_map]; exact htp.len
    refine ⟨_, rfl, l, rfl, ⟨_, SqL.of hl⟩, for_list (K := K) (a := l) (xs := ts.map V.ref) (fun i σ' H' => H' = H ∧ (∀ a ∈ rs.take i, ∀ b ∈ rs, cellsN a p.1 = cellsN b p.1 → cellsN a p.2 = cellsN b p.2) ∧ ∃ ov uv, σ' = [some (.ref l), some (.ref t), ov, uv])
      ⟨rfl, fun a ha => by simp at ha, none, none, rfl⟩ (fun i σ' H' _ ⟨e, _⟩ => by subst e; exact SqL.of hl) ?_ ?_⟩
    · rintro i x σ' H' hx ⟨rfl, i1, ov, uv, rfl⟩
      obtain ⟨ta, a, rfl, hai, harow⟩ := htp.get hx
      have ham : a ∈ rs := List.mem_of_getElem? hai
      refine ⟨_, rfl, l, rfl, ⟨_, SqL.of hl⟩, for_list (K := K) (a := l) (xs := ts.map V.ref) (fun j σ' H'' => H'' = H' ∧ (∀ b ∈ rs.take j, cellsN a p.1 = cellsN b p.1 → cellsN a p.2 = cellsN b p.2) ∧ ∃ uv, σ' = [some (.ref l), some (.ref t), some (.ref ta), uv])
        ⟨rfl, fun b hb => by simp at hb, _, rfl⟩ (fun i σ' H'' _ ⟨e, _⟩ => by subst e; exact SqL.of hl) ?_ ?_⟩
      · rintro j x σ' H'' hx2 ⟨rfl, j1, uv', rfl⟩
        obtain ⟨tb, b, rfl, hbi, hbrow⟩ := htp.get hx2
        have hbm : b ∈ rs := List.mem_of_getElem? hbi
        have hlen : a.length = b.length := by rw [hrl a ham, hrl b hbm]
        have ha6 : a.length ≤ 6 := by rw [hrl a ham]; exact hc6
        refine ⟨_, rfl, _, rfl, _, rfl, t, _, 0, _, rfl, rfl, SqT.of ht, rfl, ta, tb, a, b, p.1, rfl, harow, hbrow, hlen, ha6, hp1, _, rfl, ?_⟩
        refine ite2 (fun e => ?_) (fun e => ?_)
        · refine ⟨_, rfl, _, rfl, _, rfl, t, _, 1, _, rfl, rfl, SqT.of ht, rfl, ta, tb, a, b, p.2, rfl, harow, hbrow, hlen, ha6, hp2, _, rfl, ?_⟩
          refine ite2 (fun e2 => ?_) (fun e2 => ?_)
          · have hk : decide (Keeps rs p) = false := decide_eq_false fun z => by
              have := z a ham b hbm (of_decide_eq_true e)
              rw [decide_eq_true this] at e2
              cases e2
            rw [hk] at k
            exact k
          · refine ⟨rfl, fun b' hb' => ?_, _, rfl⟩
            rcases (take_mem hbi).mp hb' with z | rfl
            · exact j1 b' z
            · intro _
              have : decide (cellsN a p.2 = cellsN b' p.2) = true := by simpa using e2
              exact of_decide_eq_true this
        · refine ⟨rfl, fun b' hb' => ?_, _, rfl⟩
          rcases (take_mem hbi).mp hb' with z | rfl
          · exact j1 b' z
          · intro z
            exact absurd (decide_eq_true z) e
      · rintro σ' H'' ⟨rfl, j1, uv', rfl⟩
        rw [hln, List.take_length] at j1
        refine ⟨rfl, fun a' ha' => ?_, _, _, rfl⟩
        rcases (take_mem hai).mp ha' with z | rfl
        · exact i1 a' z
        · exact j1
    · rintro σ' H' ⟨rfl, i1, ov, uv, rfl⟩
      rw [hln, List.take_length] at i1
      have hk : decide (Keeps rs p) = true := decide_eq_true i1
      rw [hk] at k
      exact k
theorem ok_law_made (T : Txt K mg A) : FnOk P w K mg base CX0 3 A.f_law_made A.d_law_made ["_law_row", "_law_table_here", "_law_parts_here"] sp_made := by
  have G_law_like := ok_law_like (P := P) (w := w) (base := base) T
  refine T.F_law_made.ok sc_law_made (fun vs H Q E h => ?_) (fun cdv A' outer s H vs Q E hr h => ?_)
  · obtain ⟨a, l, pp, c, x, rs, ps, rfl, _⟩ := h; rfl
  · obtain ⟨a, l, pp, c, x, rs, ps, rfl, ha, hxl, hc6, hT, hrl, hr64, hpp, hp64, hps, k⟩ := h
    refine ⟨_, (pss_one (ps_ret (pe_callB (call_allK K rfl) rfl T.z_all bt_all (pa_cons (pe_comp ["_law_row", "_law_table_here", "_law_parts_here"] (defScope s_law_made) ["_law_part", "_law_table_here", "_law_row"] [none, some 1, some 0] ⟨rfl, by decide +kernel, by decide +kernel, by decide +kernel, by decide +kernel, by decide +kernel⟩ rfl (pi_listK K (pv 2)) (fun _ _ _ _ _ => (pg_name (i := 0) (by show List.Nodup (["_law_part", "_law_table_here", "_law_row"] : List Str); decide +kernel) rfl (Or.inr rfl) (Or.inl rfl))) (fun _ _ _ _ _ => pts_nil) (fun _ _ _ _ _ => (pe_callB (call_anyK K rfl) rfl T.z_any bt_any (pa_cons (pe_comp ["_law_part", "_law_table_here", "_law_row"] (relabelS csc_14 (defScope s_law_made)) ["_law_other", "_law_row", "_law_part"] [none, some 2, some 0] ⟨rfl, by decide +kernel, by decide +kernel, by decide +kernel, by decide +kernel, by decide +kernel⟩ rfl (pi_listK K (pv 1)) (fun _ _ _ _ _ => (pg_name (i := 0) (by show List.Nodup (["_law_other", "_law_row", "_law_part"] : List Str); decide +kernel) rfl (Or.inl rfl) (Or.inr rfl))) (fun _ _ _ _ _ => pts_nil) (fun _ _ _ _ _ => (pe_call G_law_like (hr.mono (by decide)) rfl T.m_law_like T.F_law_like.kp T.b_law_like .nil pass0 (pa_cons (pv 1) (pa_cons (pv 0) (pa_cons (pv 2) pa_nil)))))) pa_nil)))) pa_nil)))), ?_⟩
    refine ⟨_, rfl, pp, rfl, ⟨_, SqL.of hpp⟩, fun D hD => comp_list (xs := nums ps) (fun i ys H' => Same H H' ∧ i ≤ ps.length ∧ ys = (ps.take i).map fun p => V.bl (decide (Has rs x p))) ⟨Same.new hD, Nat.zero_le _, rfl⟩ (fun i ys H' _ ⟨e, _⟩ => SqL.of (e _ _ hpp)) ?_ ?_⟩
    · rintro i v ys H' hx ⟨se, hi, rfl⟩ hDl
      obtain ⟨p, hpi, rfl⟩ := nums_at hx
      have hi' : i < ps.length := (List.getElem?_eq_some_iff.mp hpi).1
      obtain ⟨ts, hl, htp⟩ := hT.same se
      have hln : (ts.map V.ref).length = rs.length := by rw [List.length_map]; exact htp.len
      refine yes_mk ?_
      refine ⟨_, rfl, l, rfl, ⟨_, SqL.of hl⟩, fun D2 hD2 => comp_list (xs := ts.map V.ref) (fun i ys H2 => Same H' H2 ∧ i ≤ rs.length ∧ ys = (rs.take i).map fun t => V.bl (decide (cellsN x p = cellsN t p))) ⟨Same.new hD2, Nat.zero_le _, rfl⟩ (fun i ys H' _ ⟨e, _⟩ => SqL.of (e _ _ hl)) ?_ ?_⟩
      · rintro m v ys H2 hx2 ⟨s2, hm, rfl⟩ hDl2
        obtain ⟨tr, r, rfl, hri, hrow⟩ := (htp.same s2).get hx2
        have hm' : m < rs.length := (List.getElem?_eq_some_iff.mp hri).1
        refine yes_mk ?_
        refine ⟨_, rfl, _, rfl, _, rfl, a, tr, x, r, p, rfl, s2 _ _ (se _ _ ha), hrow, by rw [hxl, hrl r (List.mem_of_getElem? hri)], by omega, hps p (List.mem_of_getElem? hpi), ?_⟩
        refine CE1.mk hDl2 (small1000 (by rw [List.length_map, List.length_take]; omega)) ⟨Same.up s2 hD2, hm', ?_⟩
        rw [List.take_succ, hri, List.map_append]; rfl
      · rintro ys H2 ⟨s2, _, rfl⟩ hDl2
        rw [hln, List.take_length] at hDl2
        refine ⟨D2, rs.map fun t => decide (cellsN x p = cellsN t p), rfl, SqL.of (by rw [List.map_map]; exact hDl2), ?_⟩
        have eH : (rs.map fun t => decide (cellsN x p = cellsN t p)).any id = decide (Has rs x p) := by
          rw [Bool.eq_iff_iff, decide_eq_true_iff, List.any_map, List.any_eq_true]
          constructor
          · rintro ⟨t, h1, h2⟩
            exact ⟨t, h1, (of_decide_eq_true h2).symm⟩
          · rintro ⟨t, h1, h2⟩
            exact ⟨t, h1, decide_eq_true h2.symm⟩
        rw [eH]
        refine CE1.mk (s2 _ _ hDl) (small1000 (by rw [List.length_map, List.length_take]; omega)) ⟨Same.up (se.trans s2) hD, hi', ?_⟩
        rw [List.take_succ, hpi, List.map_append]; rfl
    · rintro ys H' ⟨se, _, rfl⟩ hDl
      rw [nums_len, List.take_length] at hDl
      refine ⟨D, ps.map fun p => decide (Has rs x p), rfl, SqL.of (by rw [List.map_map]; exact hDl), ?_⟩
      have eH : (ps.map fun p => decide (Has rs x p)).all id = decide (Made rs ps x) := by
        rw [Bool.eq_iff_iff, decide_eq_true_iff, List.all_map, List.all_eq_true]
        exact ⟨fun z p hp => of_decide_eq_true (z p hp), fun z p hp => decide_eq_true (z p hp)⟩
      rw [eH]
      exact k H' se
end
end K06

namespace K06
open PySem L2 TC
def expN (rs : List (List Nat)) (j : Nat) (ws : List (List Nat)) : List (List Nat) := ws.flatMap fun r => (colN rs j).map fun n => r ++ [n]
def allN (rs : List (List Nat)) : Nat → List (List Nat)
  | 0 => [[]]
  | j + 1 => expN rs j (allN rs j)
theorem mem_exp {rs : List (List Nat)} {j : Nat} {ws : List (List Nat)} {x : List Nat} (h : x ∈ expN rs j ws) : ∃ r ∈ ws, ∃ n ∈ colN rs j, x = r ++ [n] := by
  obtain ⟨r, hr, hx⟩ := List.mem_flatMap.mp h
  obtain ⟨n, hn, e⟩ := List.mem_map.mp hx
  exact ⟨r, hr, n, hn, e.symm⟩
theorem allN_row (rs : List (List Nat)) : ∀ (j : Nat), ∀ r ∈ allN rs j, r.length = j ∧ ∀ n ∈ r, n < 100
  | 0, r, h => by
    have e : r = [] := by simpa [allN] using h
    rw [e]; exact ⟨rfl, fun n hn => by cases hn⟩
  | j + 1, r, h => by
    obtain ⟨r', h1, n, hn, rfl⟩ := mem_exp h
    obtain ⟨a, b⟩ := allN_row rs j r' h1
    refine ⟨by rw [List.length_append, a]; rfl, fun m hm => ?_⟩
    rcases List.mem_append.mp hm with z | z
    · exact b m z
    · have e : m = n := by simpa using z
      subst e
      exact List.mem_range.mp (List.mem_filter.mp hn).1
theorem exp_len (rs : List (List Nat)) (j : Nat) : ∀ ws : List (List Nat), (expN rs j ws).length ≤ ws.length * 100
  | [] => Nat.zero_le _
  | r :: ws => by
    unfold expN
    rw [List.flatMap_cons, List.length_append, List.length_cons]
    have h1 := exp_len rs j ws
    unfold expN at h1
    have h2 : ((colN rs j).map fun n => r ++ [n]).length ≤ 100 := by rw [List.length_map]; exact colN_len rs j
    omega
theorem exp_len3 {rs : List (List Nat)} {j : Nat} (h3 : (colN rs j).length ≤ 3) : ∀ ws : List (List Nat), (expN rs j ws).length ≤ ws.length * 3
  | [] => Nat.zero_le _
  | r :: ws => by
    unfold expN
    rw [List.flatMap_cons, List.length_append, List.length_cons]
    have h1 := exp_len3 h3 ws
    unfold expN at h1
    have h2 : ((colN rs j).map fun n => r ++ [n]).length ≤ 3 := by rw [List.length_map]; exact h3
    omega
theorem allN_len {rs : List (List Nat)} : ∀ {j : Nat}, (∀ i, i < j → (colN rs i).length ≤ 3) → (allN rs j).length ≤ 3 ^ j
  | 0, _ => Nat.le_refl _
  | j + 1, h => by
    have h1 := allN_len (j := j) fun i hi => h i (by omega)
    have h2 := exp_len3 (h j (by omega)) (allN rs j)
    have e : 3 ^ (j + 1) = 3 ^ j * 3 := Nat.pow_succ ..
    show (expN rs j (allN rs j)).length ≤ _
    rw [e]
    exact Nat.le_trans h2 (Nat.mul_le_mul_right 3 h1)
theorem exp_snoc {rs : List (List Nat)} {j i : Nat} {ws : List (List Nat)} {r : List Nat} (h : ws[i]? = some r) : expN rs j (ws.take (i + 1)) = expN rs j (ws.take i) ++ (colN rs j).map fun n => r ++ [n] := by
  unfold expN
  rw [List.take_succ, h, List.flatMap_append]
  congr 1
  simp
theorem Rws.app {H : Hp} : ∀ {ts us : List Addr} {rs ss : List (List Nat)}, Rws H ts rs → Rws H us ss → Rws H (ts ++ us) (rs ++ ss)
  | [], _, [], _, _, h => h
  | _ :: _, _, _ :: _, _, ⟨h, t⟩, u => ⟨h, Rws.app t u⟩
  | [], _, _ :: _, _, h, _ => h.elim
  | _ :: _, _, [], _, h, _ => h.elim
def rowD (r : List Nat) : PyData := .list (r.map fun n => PyData.int (n : Nat))
theorem rows_dt {H : Hp} : ∀ {ts : List Addr} {rs : List (List Nat)}, Rws H ts rs → Dts H (ts.map V.ref) (rs.map rowD)
  | [], [], _ => .nil
  | _ :: _, _ :: _, ⟨h, t⟩ => .cons (.lst h (nums_dt _)) (rows_dt t)
  | [], _ :: _, h => h.elim
  | _ :: _, [], h => h.elim
theorem tbl_dt {H : Hp} {l : Addr} {rs : List (List Nat)} : TblAt H l rs → Dt H (.ref l) (.list (rs.map rowD)) := fun ⟨_, h, t⟩ => .lst h (rows_dt t)
theorem lay_rows : ∀ rs : List (List Nat), PyData.canLayAll0 (rs.map rowD) = true
  | [] => rfl
  | r :: rs => by
    show (PyData.canLayAll0 (r.map fun n => PyData.int (n : Nat)) && PyData.canLayAll0 (rs.map rowD)) = true
    rw [lay_rows rs, lay_nums r]; rfl
theorem depth_rows : ∀ rs : List (List Nat), PyData.depthAll (rs.map rowD) ≤ 2
  | [] => Nat.zero_le _
  | r :: rs => Nat.max_le.mpr ⟨by
      show PyData.depthAll (r.map fun n => PyData.int (n : Nat)) + 1 ≤ 2
      have := depth_nums r
      omega, depth_rows rs⟩
theorem eqv_rows : ∀ rs : List (List Nat), PyData.eqvAll (rs.map rowD) (rs.map rowD) = true
  | [] => rfl
  | r :: rs => by
    show (PyData.eqvAll (r.map fun n => PyData.int (n : Nat)) (r.map fun n => PyData.int (n : Nat)) && PyData.eqvAll (rs.map rowD) (rs.map rowD)) = true
    rw [eqv_rows rs, eqv_nums r]; rfl
def sp_allrows : Sp := fun vs H Q _ => ∃ (l : Addr) (c : Nat) (rs : List (List Nat)), vs = [.ref l, .int (c : Nat)] ∧ c ≤ 6 ∧ TblAt H l rs ∧ rs.length < 64 ∧ GoodT c rs ∧ (∀ j, j < c → (colN rs j).length ≤ 3) ∧ ∀ (d : Addr) (H' : Hp), H d = none → Same H H' → TblAt H' d (allN rs c) → Q (.ref d) H'
def sp_jr : Sp := fun vs H Q _ => ∃ (l pp d : Addr) (c : Nat) (rs : List (List Nat)) (ps : List Nat), vs = [.ref l, .ref pp, .int (c : Nat), .ref d] ∧ c ≤ 6 ∧ TblAt H l rs ∧ rs.length < 64 ∧ GoodT c rs ∧ (∀ j, j < c → (colN rs j).length ≤ 3) ∧
  H pp = some (.lst (nums ps)) ∧ ps.length ≤ 64 ∧ (∀ p ∈ ps, p < 64) ∧ TblAt H d ((allN rs c).filter fun x => decide (Made rs ps x)) ∧ ∀ H', Same H H' → Q (.bl true) H'
section
variable {P : Program} {w : World} {K : PySem.W.Frag} {mg : Str → Option Value} {base : Heap} {A : Adr}
theorem ok_law_all_rows (T : Txt K mg A) : FnOk P w K mg base CX0 1 A.f_law_all_rows A.d_law_all_rows ["_law_table_here", "_law_columns"] sp_allrows := by
  refine T.F_law_all_rows.ok sc_law_all_rows (fun vs H Q E h => ?_) (fun cdv A' outer s H vs Q E hr h => ?_)
  · obtain ⟨l, c, rs, rfl, _⟩ := h; rfl
  · obtain ⟨l, c, rs, rfl, hc6, hT, hT63, hG, h3, k⟩ := h
    refine ⟨_, (pss_cons (ps_set (i := 2) sc_law_all_rows.nd rfl (Or.inl rfl) (pe_lst (pa_cons (pe_lst pa_nil) pa_nil)))
      (pss_cons (ps_for PassesOwn.never rfl (pi_range1 rfl T.z_range (pa_cons (pv 1) pa_nil)) (pg_name (i := 3) sc_law_all_rows.nd rfl (Or.inr rfl))
      (pss_cons (ps_set (i := 4) sc_law_all_rows.nd rfl (Or.inl rfl) (pe_sortset rfl rfl T.z_sorted bt_sorted rfl T.z_set bt_set (pa_cons (pe_comp ["_law_table_here", "_law_columns", "_law_found", "_law_column", "_law_worths", "_law_longer", "_law_some"] (defScope s_law_all_rows) ["_law_row", "_law_column"] [none, some 3] ⟨rfl, by decide +kernel, by decide +kernel, by decide +kernel, by decide +kernel, by decide +kernel⟩ rfl (pi_listK K (pv 0)) (fun _ _ _ _ _ => (pg_name (i := 0) (by show List.Nodup (["_law_row", "_law_column"] : List Str); decide +kernel) rfl (Or.inl rfl) (Or.inr rfl))) (fun _ _ _ _ _ => pts_nil) (fun _ _ _ _ _ => (pe_ix (ix_listK K) (pv 0) (pv 1) (fun _ _ => rfl)))) pa_nil)))
      (pss_cons (ps_set (i := 5) sc_law_all_rows.nd rfl (Or.inl rfl) (pe_lst pa_nil))
      (pss_cons (ps_for PassesOwn.never rfl (pi_listK K (pv 2)) (pg_name (i := 6) sc_law_all_rows.nd rfl (Or.inr rfl))
      (pss_one (ps_expr (pe_extendK K (pv 5) (pa_cons (pe_comp ["_law_table_here", "_law_columns", "_law_found", "_law_column", "_law_worths", "_law_longer", "_law_some"] (defScope s_law_all_rows) ["_law_worth", "_law_some"] [none, some 6] ⟨rfl, by decide +kernel, by decide +kernel, by decide +kernel, by decide +kernel, by decide +kernel⟩ rfl (pi_listK K (pv 4)) (fun _ _ _ _ _ => (pg_name (i := 0) (by show List.Nodup (["_law_worth", "_law_some"] : List Str); decide +kernel) rfl (Or.inl rfl) (Or.inr rfl))) (fun _ _ _ _ _ => pts_nil) (fun _ _ _ _ _ => (pe_op op_cat (pv 1) (pe_lst (pa_cons (pv 0) pa_nil))))) pa_nil)))))
      (pss_one (ps_set (i := 2) sc_law_all_rows.nd rfl (Or.inl rfl) (pv 5)))))))
      (pss_one (ps_ret (pv 2))))), ?_⟩
    refine ⟨Nat.zero_le _, fun e0 he0 => ⟨by show 1 ≤ sizeLine; decide, fun q0 hq0 => ?_⟩⟩
    have hq1 : H q0 = none := (Same.new he0).free hq0
    refine ⟨_, rfl, (c : Int), rfl, by omega, by omega, ?_⟩
    rw [Int.toNat_natCast]
    refine for_range (lo := 0) (n := c) (fun i σ' H' => Same H H' ∧ ∃ q cv wv lv sv, σ' = [some (.ref l), some (.int (c : Nat)), some (.ref q), cv, wv, lv, sv] ∧ H q = none ∧ TblAt H' q (allN rs i)) ⟨Same.up (Same.new he0) hq1, q0, none, none, none, none, rfl, hq1, [e0], upd_same, ?_, trivial⟩ ?_ ?_
    · have ne : e0 ≠ q0 := fun z => by rw [← z, upd_same] at hq0; cases hq0
      rw [upd_ne ne]; exact upd_same
    · rintro j σ' H3 hj ⟨s03, q, cv, wv, lv, sv, rfl, hqn, hQ⟩
      rw [Int.zero_add]
      obtain ⟨ts, hl, htp⟩ := hT.same s03
      have hln : (ts.map V.ref).length = rs.length := by rw [List.length_map]; exact htp.len
      refine ⟨_, rfl, l, rfl, ⟨_, SqL.of hl⟩, fun D3 hD3 => comp_list (xs := ts.map V.ref) (fun i ys H' => Same H3 H' ∧ i ≤ rs.length ∧ ys = nums ((rs.take i).map fun r => r.getD j 0)) ⟨Same.new hD3, Nat.zero_le _, rfl⟩ (fun i ys H' _ ⟨e, _⟩ => SqL.of (e _ _ hl)) ?_ ?_⟩
      · rintro i x ys H' hx ⟨se, hi, rfl⟩ hDl
        obtain ⟨t, r, rfl, hri, hrow⟩ := (htp.same se).get hx
        have hi' : i < rs.length := (List.getElem?_eq_some_iff.mp hri).1
        have hrl := (hG.2 r (List.mem_of_getElem? hri)).1
        refine yes_mk ?_
        have hat : (nums r)[j]? = some (.int (r.getD j 0 : Nat)) := by
          unfold nums
          rw [List.getElem?_map, getD_at (by omega)]; rfl
        refine ⟨_, rfl, _, rfl, t, nums r, (j : Int), _, rfl, rfl, SqL.of hrow, atI_nat hat, CE1.mk hDl (small1000 (by rw [nums_len, List.length_map, List.length_take]; omega)) ⟨Same.up se hD3, hi', ?_⟩⟩
        rw [List.take_succ, hri, List.map_append]
        exact (nums_snoc _ _).symm
      rintro ys H4 ⟨s4, _, rfl⟩ hDl
      rw [hln, List.take_length] at hDl
      have hcol : ∀ x ∈ rs.map (fun r => r.getD j 0), x < 100 := fun x hx => by
        obtain ⟨r, hr', rfl⟩ := List.mem_map.mp hx
        obtain ⟨a1, a2⟩ := hG.2 r hr'
        have := a2 (r.getD j 0) (List.mem_of_getElem? (getD_at (by omega)))
        omega
      refine ⟨D3, (rs.map fun r => r.getD j 0).map fun n => ((n : Nat) : Int), rfl, by rw [← nums_int]; exact hDl, by rw [List.length_map, List.length_map]; exact hT63, fun nd ms hf5 hsrt hmem => ?_⟩
      rw [srt_eq hcol hsrt hmem]
      have s5 : Same H4 (upd H4 nd (.lst (nums (colN rs j)))) := Same.new hf5
      have hn5 : (upd H4 nd (.lst (nums (colN rs j)))) nd = some (.lst (nums (colN rs j))) := upd_same
      show tSeq _ _ _ _ (upd H4 nd (.lst (nums (colN rs j))))
      generalize upd H4 nd (.lst (nums (colN rs j))) = H5 at s5 hn5 ⊢
      have s05 : Same H H5 := s03.trans (s4.trans s5)
      obtain ⟨tq, hq, htq⟩ := hQ.same (s4.trans s5)
      have hqn' : (tq.map V.ref).length = (allN rs j).length := by rw [List.length_map]; exact htq.len
      have hwl : (allN rs j).length ≤ 1000 := by
        have h1 := allN_len (j := j) fun i' hi' => h3 i' (by omega)
        have h2 : 3 ^ j ≤ 3 ^ 6 := Nat.pow_le_pow_right (by decide) (by omega)
        have h4 : 3 ^ 6 = 729 := by decide
        omega
      refine ⟨Nat.zero_le _, fun W hW => ?_⟩
      refine ⟨_, rfl, q, rfl, ⟨_, SqL.of (Same.new hW _ _ hq)⟩, for_list (K := K) (a := q) (xs := tq.map V.ref) (fun m σ' H' => Same H5 H' ∧ (∃ sv, σ' = [some (.ref l), some (.int (c : Nat)), some (.ref q), some (.int (j : Nat)), some (.ref nd), some (.ref W), sv]) ∧
          ∃ ts6 : List Addr, H' W = some (.lst (ts6.map V.ref)) ∧ Rws H' ts6 (expN rs j ((allN rs j).take m)) ∧ W ∉ ts6)
        ⟨Same.new hW, ⟨_, rfl⟩, [], upd_same, trivial, by simp⟩ (fun i σ' H' _ ⟨e, _⟩ => SqL.of (e _ _ hq)) ?_ ?_⟩
      · rintro m x σ' H6 hx ⟨s6, ⟨sv', rfl⟩, ts6, hW6, hR6, hF6⟩
        obtain ⟨tr, r, rfl, hri, hrow5⟩ := htq.get hx
        have hm' : m < (allN rs j).length := (List.getElem?_eq_some_iff.mp hri).1
        have hrl := (allN_row rs j r (List.mem_of_getElem? hri)).1
        refine ⟨_, rfl, .inl ⟨rfl, _, SqL.of hW6⟩, _, rfl, nd, rfl, ⟨_, SqL.of (s6 _ _ hn5)⟩, fun D7 hD7 => comp_list (xs := nums (colN rs j)) (fun k ys H' => Same H6 H' ∧ k ≤ (colN rs j).length ∧ ∃ us : List Addr, ys = us.map V.ref ∧ Rws H' us (((colN rs j).take k).map fun n => r ++ [n]) ∧ ∀ u ∈ us, u ≠ D7 ∧ H6 u = none)
          ⟨Same.new hD7, Nat.zero_le _, [], rfl, trivial, fun u hu => by cases hu⟩ (fun i ys H' _ ⟨e, _⟩ => SqL.of (e _ _ (s6 _ _ hn5))) ?_ ?_⟩
        · rintro k7 x ys H8 hx8 ⟨s8, hk, us, rfl, hU, hUn⟩ hDl8
          obtain ⟨n, hni, rfl⟩ := nums_at hx8
          have hk' : k7 < (colN rs j).length := (List.getElem?_eq_some_iff.mp hni).1
          have hcl := colN_len rs j
          have hul : us.length = k7 := by rw [hU.len, List.length_map, List.length_take]; omega
          have hrow8 := s8 _ _ (s6 _ _ hrow5)
          refine yes_mk ?_
          refine ⟨_, rfl, _, rfl, by show 1 ≤ sizeLine; decide, fun b hb => ⟨tr, b, nums r, [.int (n : Nat)], rfl, rfl, by rw [upd_ne (ne_of_none hrow8 hb)]; exact hrow8, upd_same, by rw [nums_len, hrl, sizeLine_eq]; show j + 1 ≤ _; omega, fun g hg => ?_⟩⟩
          have hg8 : H8 g = none := (Same.new hb).free hg
          have s89 : Same H8 (upd (upd H8 b (.lst [.int (n : Nat)])) g (.lst (nums r ++ [.int (n : Nat)]))) := Same.up (Same.new hb) hg8
          have hg9 : (upd (upd H8 b (.lst [.int (n : Nat)])) g (.lst (nums r ++ [.int (n : Nat)]))) g = some (.lst (nums (r ++ [n]))) := by rw [nums_snoc]; exact upd_same
          generalize upd (upd H8 b (.lst [.int (n : Nat)])) g (.lst (nums r ++ [.int (n : Nat)])) = H9 at s89 hg9 ⊢
          have hgD : g ≠ D7 := fun z => by rw [z, hDl8] at hg8; cases hg8
          refine CE1.mk (s89 _ _ hDl8) (small1000 (by rw [List.length_map]; omega)) ⟨Same.up (s8.trans s89) hD7, hk', us ++ [g], by rw [List.map_append]; rfl, ?_, fun u hu => ?_⟩
          · rw [List.take_succ, hni, List.map_append]
            refine Rws.upd (Rws.snoc hg9 (hU.same s89)) fun z => ?_
            rcases List.mem_append.mp z with z | z
            · exact (hUn D7 z).1 rfl
            · exact hgD (List.mem_singleton.mp z).symm
          · rcases List.mem_append.mp hu with z | z
            · exact hUn u z
            · have e1 : u = g := List.mem_singleton.mp z
              subst e1
              exact ⟨hgD, s8.free hg8⟩
        · rintro ys H8 ⟨s8, _, us, rfl, hU, hUn⟩ hDl8
          rw [nums_len, List.take_length] at hU
          have hcl := colN_len rs j
          have hwid := exp_len rs j ((allN rs j).take m)
          rw [List.length_take] at hwid
          have hul : us.length ≤ 100 := by rw [hU.len, List.length_map]; exact hcl
          have htl : ts6.length ≤ 100000 := by rw [hR6.len]; omega
          refine ⟨W, D7, _, _, rfl, rfl, s8 _ _ hW6, hDl8, by rw [List.length_map, List.length_map, sizeLine_eq]; omega, ?_⟩
          refine ⟨Same.up (s6.trans s8) hW, ⟨_, rfl⟩, ts6 ++ us, by rw [upd_same, List.map_append], ?_, fun z => ?_⟩
          · rw [exp_snoc hri]
            refine Rws.upd (Rws.app (hR6.same s8) hU) fun z => ?_
            rcases List.mem_append.mp z with z | z
            · exact hF6 z
            · have := (hUn W z).2
              rw [hW6] at this
              cases this
          · rcases List.mem_append.mp z with z | z
            · exact hF6 z
            · have := (hUn W z).2
              rw [hW6] at this
              cases this
      · rintro σ' H6 ⟨s6, ⟨sv', rfl⟩, ts6, hW6, hR6, hF6⟩
        rw [hqn', List.take_length] at hR6
        exact ⟨_, rfl, s05.trans s6, W, _, _, _, _, rfl, s05.free hW, ts6, hW6, hR6⟩
    · rintro σ' H' ⟨se, q, cv, wv, lv, sv, rfl, hqn, hQ⟩
      exact ⟨_, rfl, k q H' hqn se hQ⟩
end
end K06

namespace K06
open PySem L2 TC
/-! ### the rows that the parts make, two ways -/
theorem bit_above {s n j : Nat} (hs : s < 2 ^ n) (h : n ≤ j) : s.testBit j = false := Nat.testBit_lt_two_pow (Nat.lt_of_lt_of_le hs (Nat.pow_le_pow_right (by decide) h))
theorem cells_le {r : List Nat} {s n m : Nat} (hs : s < 2 ^ n) (h : n ≤ m) : cellsI r s m = cellsI r s n := by
  obtain ⟨d, rfl⟩ : ∃ d, m = n + d := ⟨m - n, by omega⟩
  induction d with
  | zero => rfl
  | succ d ih =>
    rw [show n + (d + 1) = n + d + 1 from rfl, cellsI_succ, if_neg (by rw [bit_above hs (by omega)]; simp), List.append_nil]
    exact ih (by omega)
theorem cellsI_iff (x y : List Nat) (s n : Nat) : cellsI x s n = cellsI y s n ↔ ∀ j, j < n → s.testBit j = true → x.getD j 0 = y.getD j 0 := by
  unfold cellsI
  rw [List.map_inj_left]
  constructor
  · intro z j h1 h2
    exact z j (List.mem_filter.mpr ⟨List.mem_range.mpr h1, h2⟩)
  · intro z j hj
    obtain ⟨h1, h2⟩ := List.mem_filter.mp hj
    exact z j (List.mem_range.mp h1) h2
theorem getD_take {r : List Nat} {j n : Nat} (h : j < n) : (r.take n).getD j 0 = r.getD j 0 := by
  simp [List.getD, List.getElem?_take, h]
/-- cells of rows at least n long, in a set of the first n columns -/
theorem same_iff {x y : List Nat} {s n : Nat} (hs : s < 2 ^ n) (hx : n ≤ x.length) (hy : n ≤ y.length) : cellsN x s = cellsN y s ↔ ∀ j, j < n → s.testBit j = true → x.getD j 0 = y.getD j 0 := by
  unfold cellsN
  rw [cells_le hs hx, cells_le hs hy]
  exact cellsI_iff x y s n
theorem and_full {p j : Nat} : p &&& (2 ^ (j + 1) - 1) = p % 2 ^ (j + 1) := Nat.and_two_pow_sub_one_eq_mod p (j + 1)
theorem head_lt (p j : Nat) : p &&& (2 ^ (j + 1) - 1) < 2 ^ (j + 1) := by rw [and_full]; exact Nat.mod_lt _ (Nat.two_pow_pos _)
theorem head_bit {p j i : Nat} (h : i < j + 1) : (p &&& (2 ^ (j + 1) - 1)).testBit i = p.testBit i := by
  rw [and_full, Nat.testBit_mod_two_pow]
  simp [h]
/-- the highest column of a part -/
theorem top_bit : ∀ (c p : Nat), 1 ≤ p → p < 2 ^ c → ∃ j, j < c ∧ p.testBit j = true ∧ p < 2 ^ (j + 1)
  | 0, p, h1, h2 => by simp at h2; omega
  | c + 1, p, h1, h2 => by
    by_cases h : p < 2 ^ c
    · obtain ⟨j, a, b, d⟩ := top_bit c p h1 h
      exact ⟨j, by omega, b, d⟩
    · refine ⟨c, by omega, ?_, h2⟩
      have e : p = 2 ^ c + (p - 2 ^ c) := by omega
      have hlt : p - 2 ^ c < 2 ^ c := by
        have : 2 ^ (c + 1) = 2 ^ c + 2 ^ c := by rw [Nat.pow_succ]; omega
        omega
      rw [e, Nat.testBit_two_pow_add_eq, Nat.testBit_lt_two_pow hlt]; rfl
theorem mem_headN {ps : List Nat} (hp : ∀ p ∈ ps, p < 64) {j h : Nat} : h ∈ headN ps j ↔ ∃ p ∈ ps, p.testBit j = true ∧ p &&& (2 ^ (j + 1) - 1) = h := by
  unfold headN
  rw [mem_srt (headL_lt hp j)]
  unfold headL
  rw [List.mem_map]
  constructor
  · rintro ⟨p, h1, h2⟩
    obtain ⟨a, b⟩ := List.mem_filter.mp h1
    exact ⟨p, a, b, h2⟩
  · rintro ⟨p, h1, h2, h3⟩
    exact ⟨p, List.mem_filter.mpr ⟨h1, h2⟩, h3⟩
/-- all heads of a row's beginnings -/
def madeI (rs : List (List Nat)) (ps : List Nat) (r : List Nat) (n : Nat) : Bool := (List.range n).all fun i => okB rs ps i (r.take (i + 1))
theorem flat_filter {α β : Type} (p : β → Bool) (q : α → Bool) (f : α → List β) : ∀ l : List α, (∀ a ∈ l, q a = false → (f a).filter p = []) → (l.flatMap f).filter p = (l.filter q).flatMap fun a => (f a).filter p
  | [], _ => rfl
  | a :: l, h => by
    rw [List.flatMap_cons, List.filter_append, flat_filter p q f l fun b hb => h b (List.mem_cons_of_mem _ hb), List.filter_cons]
    by_cases e : q a = true
    · rw [if_pos e, List.flatMap_cons]
    · rw [if_neg e, h a List.mem_cons_self (by simpa using e), List.nil_append]
theorem flat_congr {α β : Type} {f g : α → List β} : ∀ {l : List α}, (∀ a ∈ l, f a = g a) → l.flatMap f = l.flatMap g
  | [], _ => rfl
  | a :: l, h => by rw [List.flatMap_cons, List.flatMap_cons, h a List.mem_cons_self, flat_congr fun b hb => h b (List.mem_cons_of_mem _ hb)]
theorem madeI_succ (rs : List (List Nat)) (ps : List Nat) (r : List Nat) (n : Nat) : madeI rs ps r (n + 1) = (madeI rs ps r n && okB rs ps n (r.take (n + 1))) := by
  unfold madeI
  rw [List.range_succ, List.all_append]; simp
theorem madeI_app (rs : List (List Nat)) (ps : List Nat) (r : List Nat) (x n : Nat) (h : n ≤ r.length) : madeI rs ps (r ++ [x]) n = madeI rs ps r n := by
  unfold madeI
  rw [Bool.eq_iff_iff, List.all_eq_true, List.all_eq_true]
  constructor
  · intro z i hi
    have := z i hi
    rwa [List.take_append_of_le_length (by have := List.mem_range.mp hi; omega)] at this
  · intro z i hi
    have := z i hi
    rwa [List.take_append_of_le_length (by have := List.mem_range.mp hi; omega)]
theorem join_all (rs : List (List Nat)) (ps : List Nat) : ∀ n, joinN rs ps n = (allN rs n).filter fun r => madeI rs ps r n
  | 0 => rfl
  | n + 1 => by
    show wid rs ps n (joinN rs ps n) = (expN rs n (allN rs n)).filter fun r => madeI rs ps r (n + 1)
    rw [join_all rs ps n]
    unfold expN wid
    have key : ∀ r ∈ allN rs n, ((colN rs n).map fun x => r ++ [x]).filter (fun r => madeI rs ps r (n + 1)) = if madeI rs ps r n = true then ((colN rs n).map fun x => r ++ [x]).filter (okB rs ps n) else [] := by
      intro r hr
      have hl := (allN_row rs n r hr).1
      by_cases e : madeI rs ps r n = true
      · rw [if_pos e]
        refine List.filter_congr fun y hy => ?_
        obtain ⟨x, _, rfl⟩ := List.mem_map.mp hy
        rw [madeI_succ, madeI_app rs ps r x n (by omega), e, Bool.true_and, List.take_of_length_le (by rw [List.length_append, hl]; simp)]
      · rw [if_neg e, List.filter_eq_nil_iff]
        intro y hy
        obtain ⟨x, _, rfl⟩ := List.mem_map.mp hy
        rw [madeI_succ, madeI_app rs ps r x n (by omega)]
        simp [e]
    rw [flat_filter (fun r => madeI rs ps r (n + 1)) (fun r => madeI rs ps r n) _ _ fun r hr e => by
      rw [key r hr, if_neg (by rw [e]; simp)]]
    refine (flat_congr ?_).symm
    intro r hr
    obtain ⟨a, b⟩ := List.mem_filter.mp hr
    rw [key r a, if_pos b]
theorem made_iff {rs : List (List Nat)} {ps : List Nat} {c : Nat} {r : List Nat} (hc : c ≤ 6) (hrs : ∀ t ∈ rs, t.length = c) (hps : ∀ p ∈ ps, 1 ≤ p ∧ p < 2 ^ c) (hr : r.length = c) : madeI rs ps r c = decide (Made rs ps r) := by
  have h64 : 2 ^ c ≤ 64 := Nat.pow_le_pow_right (by decide) hc
  have hp64 : ∀ p ∈ ps, p < 64 := fun p hp => by have := (hps p hp).2; omega
  rw [Bool.eq_iff_iff, decide_eq_true_iff]
  unfold madeI okB Made
  rw [List.all_eq_true]
  constructor
  · intro z p hp
    obtain ⟨j, hj, hb, hlt⟩ := top_bit c p (hps p hp).1 (hps p hp).2
    have z1 := z j (List.mem_range.mpr hj)
    rw [List.all_eq_true] at z1
    have hh : p &&& (2 ^ (j + 1) - 1) = p := by rw [and_full]; exact Nat.mod_eq_of_lt hlt
    obtain ⟨t, ht, e⟩ := of_decide_eq_true (z1 p ((mem_headN hp64).mpr ⟨p, hp, hb, hh⟩))
    refine ⟨t, ht, ?_⟩
    have htl := hrs t ht
    rw [same_iff hlt (by omega) (by rw [List.length_take]; omega)] at e
    rw [same_iff hlt (by omega) (by omega)]
    intro i hi hbi
    rw [e i hi hbi, getD_take hi]
  · intro z j hj
    have hj := List.mem_range.mp hj
    rw [List.all_eq_true]
    intro h hh
    obtain ⟨p, hp, hb, rfl⟩ := (mem_headN hp64).mp hh
    obtain ⟨t, ht, e⟩ := z p hp
    have htl := hrs t ht
    refine decide_eq_true ⟨t, ht, ?_⟩
    rw [same_iff (hps p hp).2 (by omega) (by omega)] at e
    rw [same_iff (head_lt p j) (by omega) (by rw [List.length_take]; omega)]
    intro i hi hbi
    rw [head_bit hi] at hbi
    rw [e i (by omega) hbi, getD_take hi]
theorem join_made {rs : List (List Nat)} {ps : List Nat} {c : Nat} (hc : c ≤ 6) (hrs : ∀ t ∈ rs, t.length = c) (hps : ∀ p ∈ ps, 1 ≤ p ∧ p < 2 ^ c) : joinN rs ps c = (allN rs c).filter fun x => decide (Made rs ps x) := by
  rw [join_all]
  refine List.filter_congr fun r hr => ?_
  exact made_iff hc hrs hps (allN_row rs c r hr).1
section
variable {P : Program} {w : World} {K : PySem.W.Frag} {mg : Str → Option Value} {base : Heap} {A : Adr}
theorem ok_law_joined_right (T : Txt K mg A) : FnOk P w K mg base CX0 5 A.f_law_joined_right A.d_law_joined_right ["_law_table_here", "_law_parts_here", "_law_columns", "_law_found"] sp_jr := by
  have G_law_made := ok_law_made (P := P) (w := w) (base := base) T
  have G_law_all_rows := ok_law_all_rows (P := P) (w := w) (base := base) T
  have G_law_numbers := ok_law_numbers (P := P) (w := w) (base := base) T
  refine T.F_law_joined_right.ok sc_law_joined_right (fun vs H Q E h => ?_) (fun cdv A' outer s H vs Q E hr h => ?_)
  · obtain ⟨l, pp, d, c, rs, ps, rfl, _⟩ := h; rfl
  · obtain ⟨l, pp, d, c, rs, ps, rfl, hc6, hT, hT63, hG, h3, hpp, hp64, hps, ⟨td, hd, htd⟩, k⟩ := h
    refine ⟨_, (pss_cons (ps_if (PW.pt (pw_or (pt_not (pt_val (pe_callB (call_isinstK K) rfl T.z_isinstance bt_isinstance (pa_cons (pv 3) (pa_cons (pe_bltn (v := .ty "list") rfl T.z_list bt_list rfl) pa_nil))))) (pw_or1 (pt_not (pt_val (pe_callB (call_allK K rfl) rfl T.z_all bt_all (pa_cons (pe_comp ["_law_table_here", "_law_parts_here", "_law_columns", "_law_found"] (defScope s_law_joined_right) ["_law_row"] [none] ⟨rfl, by decide +kernel, by decide +kernel, by decide +kernel, by decide +kernel, by decide +kernel⟩ rfl (pi_listK K (pv 3)) (fun _ _ _ _ _ => (pg_name (i := 0) (by show List.Nodup (["_law_row"] : List Str); decide +kernel) rfl (Or.inl rfl) (Or.inr rfl))) (fun _ _ _ _ _ => pts_nil) (fun _ _ _ _ _ => (pe_call G_law_numbers (hr.mono (by decide)) rfl T.m_law_numbers T.F_law_numbers.kp T.b_law_numbers .nil pass0 (pa_cons (pv 0) (pa_cons pe_int pa_nil))))) pa_nil))))))) (pss_one (ps_ret pe_bl)) pss_nil)
      (pss_one (ps_ret (pe_cmpR (op_eqD hr.units) (pv 3) (pe_comp ["_law_table_here", "_law_parts_here", "_law_columns", "_law_found"] (defScope s_law_joined_right) ["_law_row", "_law_table_here", "_law_parts_here"] [none, some 0, some 1] ⟨rfl, by decide +kernel, by decide +kernel, by decide +kernel, by decide +kernel, by decide +kernel⟩ rfl (pi_listK K (pe_call G_law_all_rows (hr.mono (by decide)) rfl T.m_law_all_rows T.F_law_all_rows.kp T.b_law_all_rows .nil pass0 (pa_cons (pv 0) (pa_cons (pv 2) pa_nil)))) (fun _ _ _ _ _ => (pg_name (i := 0) (by show List.Nodup (["_law_row", "_law_table_here", "_law_parts_here"] : List Str); decide +kernel) rfl (Or.inl rfl) (Or.inr rfl))) (fun _ _ _ _ _ => pts_one (pt_val (pe_call G_law_made (hr.mono (by decide)) rfl T.m_law_made T.F_law_made.kp T.b_law_made .nil pass0 (pa_cons (pv 0) (pa_cons (pv 1) (pa_cons (pv 2) pa_nil)))))) (fun _ _ _ _ _ => (pv 0))) (nomark _))))), ?_⟩
    have hall : (allN rs c).length ≤ 729 := by
      have h1 := allN_len (j := c) h3
      have h2 : 3 ^ c ≤ 3 ^ 6 := Nat.pow_le_pow_right (by decide) hc6
      have h4 : 3 ^ 6 = 729 := by decide
      omega
    have hjl : ((allN rs c).filter fun x => decide (Made rs ps x)).length ≤ 729 := Nat.le_trans (List.length_filter_le _ _) hall
    have hdl : (td.map V.ref).length = ((allN rs c).filter fun x => decide (Made rs ps x)).length := by rw [List.length_map]; exact htd.len
    refine ⟨_, rfl, _, _, _, true, rfl, .lst hd, kit_list_list, true, rfl, iteF ?_⟩
    refine ⟨_, rfl, d, rfl, ⟨_, SqL.of hd⟩, fun D hD => comp_list (xs := td.map V.ref) (fun i ys H' => Same H H' ∧ ys = List.replicate i (.bl true) ∧ i ≤ (td.map V.ref).length) ⟨Same.new hD, rfl, Nat.zero_le _⟩ (fun i ys H' _ ⟨e, _⟩ => SqL.of (e _ _ hd)) ?_ ?_⟩
    · rintro i x ys H' hx ⟨se, rfl, hi⟩ hDl
      obtain ⟨t, r, rfl, hri, hrow⟩ := (htd.same se).get hx
      have hi' : i < (td.map V.ref).length := (List.getElem?_eq_some_iff.mp hx).1
      obtain ⟨a1, a2⟩ := allN_row rs c r (List.mem_filter.mp (List.mem_of_getElem? hri)).1
      refine yes_mk ?_
      refine ⟨_, rfl, t, r, 100, rfl, hrow, a2, by omega, fun H2 s2 => ?_⟩
      refine CE1.mk (s2 _ _ hDl) (small1000 (by rw [List.length_replicate]; omega)) ⟨Same.up (se.trans s2) hD, ?_, hi'⟩
      rw [List.replicate_succ']
    rintro ys H1 ⟨s1, rfl, _⟩ hDl
    refine ⟨D, List.replicate _ true, rfl, SqL.of (by rw [List.map_replicate]; exact hDl), _, rfl, ?_⟩
    have e2 : (List.replicate (td.map V.ref).length true).all id = true := by simp
    rw [e2]
    refine iteF ?_
    refine ⟨_, rfl, _, rfl, _, rfl, l, c, rs, rfl, hc6, hT.same s1, hT63, hG, h3, fun d2 H2 f2 s2 ⟨t2, h2, ht2⟩ => ?_⟩
    have s02 : Same H H2 := s1.trans s2
    have h2l : (t2.map V.ref).length = (allN rs c).length := by rw [List.length_map]; exact ht2.len
    refine ⟨d2, rfl, ⟨_, SqL.of h2⟩, fun D3 hD3 => comp_list (xs := t2.map V.ref) (fun i ys H' => Same H2 H' ∧ i ≤ (allN rs c).length ∧ ∃ us : List Addr, ys = us.map V.ref ∧ Rws H2 us (((allN rs c).take i).filter fun x => decide (Made rs ps x))) ⟨Same.new hD3, Nat.zero_le _, [], rfl, trivial⟩ (fun i ys H' _ ⟨e, _⟩ => SqL.of (e _ _ h2)) ?_ ?_⟩
    · rintro i x ys H' hx ⟨se, hi, us, rfl, hU⟩ hDl3
      obtain ⟨t, r, rfl, hri, hrow⟩ := ht2.get hx
      have hi' : i < (allN rs c).length := (List.getElem?_eq_some_iff.mp hri).1
      have hul : us.length ≤ 729 := by
        rw [hU.len]
        exact Nat.le_trans (List.length_filter_le _ _) (by rw [List.length_take]; omega)
      refine ⟨_, rfl, _, rfl, _, rfl, t, l, pp, c, r, rs, ps, rfl, se _ _ hrow, (allN_row rs c r (List.mem_of_getElem? hri)).1, hc6, hT.same (s02.trans se), fun a ha => (hG.2 a ha).1, hG.1, se _ _ (s02 _ _ hpp), hp64, hps, fun H4 s4 => ⟨_, rfl, ?_⟩⟩
      have et : ((allN rs c).take (i + 1)).filter (fun x => decide (Made rs ps x)) = ((allN rs c).take i).filter (fun x => decide (Made rs ps x)) ++ (if decide (Made rs ps r) = true then [r] else []) := by
        rw [List.take_succ, hri, List.filter_append]
        congr 1
        by_cases e : decide (Made rs ps r) = true
        · simp [of_decide_eq_true e]
        · have e' : ¬ Made rs ps r := fun z => e (decide_eq_true z)
          simp [e']
      refine ite2 (fun e => ?_) (fun e => ?_)
      · refine ⟨_, rfl, CE1.mk (s4 _ _ hDl3) (small1000 (by rw [List.length_map]; omega)) ⟨Same.up (se.trans s4) hD3, hi', us ++ [t], by rw [List.map_append]; rfl, ?_⟩⟩
        rw [et, if_pos e]
        exact Rws.snoc hrow hU
      · refine CN.mk (s4 _ _ hDl3) ⟨se.trans s4, hi', us, rfl, ?_⟩
        rw [et, if_neg e, List.append_nil]
        exact hU
    · rintro ys H' ⟨se, _, us, rfl, hU⟩ hDl3
      rw [h2l, List.take_length] at hU
      refine ⟨.list (((allN rs c).filter fun x => decide (Made rs ps x)).map rowD), .list (((allN rs c).filter fun x => decide (Made rs ps x)).map rowD), tbl_dt ⟨td, (s02.trans se) _ _ hd, htd.same (s02.trans se)⟩, tbl_dt ⟨us, hDl3, hU.same se⟩, lay_rows _, lay_rows _, ?_, ?_⟩
      · show PyData.depthAll _ + 1 ≤ 60
        have := depth_rows ((allN rs c).filter fun x => decide (Made rs ps x))
        omega
      · have ee : PyData.eqv (.list (((allN rs c).filter fun x => decide (Made rs ps x)).map rowD)) (.list (((allN rs c).filter fun x => decide (Made rs ps x)).map rowD)) = true := eqv_rows _
        rw [ee, if_neg (by simp)]
        exact k H' (s02.trans se)
end
end K06

namespace K06
open PySem L2 TC
def sp_table : Sp := fun vs H Q _ => ∃ (x : Int) (c : Nat), vs = [.int x, .int (c : Nat)] ∧ c ≤ 6 ∧ ∀ (l : Addr) (rs : List (List Nat)) (H' : Hp), H l = none → Same H H' → TblAt H' l rs → rs.length ≤ 8 → GoodT c rs → (∀ j, j < c → (colN rs j).length ≤ 3) → Q (.ref l) H'
/-- the numbers that a drawn table has -/
def Wset (ws : List Nat) : Prop := ws = [0, 1, 2] ∨ ws = [1, 11, 99]
theorem cnt_le {B : Nat} {p q : Nat → Bool} (h : ∀ x, p x = true → q x = true) : ((List.range B).filter p).length ≤ ((List.range B).filter q).length := by
  rw [← List.countP_eq_length_filter, ← List.countP_eq_length_filter]
  exact List.countP_mono_left fun x _ => h x
theorem w012 : ((List.range 100).filter fun x => decide (x ∈ [0, 1, 2])).length = 3 := by decide +kernel
theorem w199 : ((List.range 100).filter fun x => decide (x ∈ [1, 11, 99])).length = 3 := by decide +kernel
theorem col_few {ws : List Nat} (hw : Wset ws) {rs : List (List Nat)} {c : Nat} (h : ∀ r ∈ rs, r.length = c ∧ ∀ n ∈ r, n ∈ ws) {j : Nat} (hj : j < c) : (colN rs j).length ≤ 3 := by
  have h1 : (colN rs j).length ≤ ((List.range 100).filter fun x => decide (x ∈ ws)).length := by
    unfold colN srt
    refine cnt_le fun x hx => ?_
    obtain ⟨r, hr, e⟩ := List.mem_map.mp (of_decide_eq_true hx)
    obtain ⟨a, b⟩ := h r hr
    rw [← e]
    exact decide_eq_true (b _ (List.mem_of_getElem? (getD_at (by omega))))
  rcases hw with rfl | rfl
  · rw [w012] at h1; exact h1
  · rw [w199] at h1; exact h1
theorem wset_le {ws : List Nat} (hw : Wset ws) : ws.length = 3 ∧ ∀ n ∈ ws, n ≤ 99 := by
  rcases hw with rfl | rfl
  · exact ⟨rfl, by decide⟩
  · exact ⟨rfl, by decide⟩
section
variable {P : Program} {w : World} {K : PySem.W.Frag} {mg : Str → Option Value} {base : Heap} {A : Adr}
theorem ok_law_table (T : Txt K mg A) : FnOk P w K mg base CX0 3 A.f_law_table A.d_law_table ["_law_cell", "_law_columns"] sp_table := by
  have G_law_draw := ok_law_draw (P := P) (w := w) (base := base) T
  refine T.F_law_table.ok sc_law_table (fun vs H Q E h => ?_) (fun cdv A' outer s H vs Q E hr h => ?_)
  · obtain ⟨x, c, rfl, _⟩ := h; rfl
  · obtain ⟨x, c, rfl, hc6, k⟩ := h
    refine ⟨_, (pss_cons (ps_set (i := 2) sc_law_table.nd rfl (Or.inr rfl) (pe_ix (ix_tupK K) (pe_tup (pa_cons pe_int (pa_cons pe_int (pa_cons pe_int (pa_cons pe_int pa_nil))))) (pe_call G_law_draw (hr.mono (by decide)) rfl T.m_law_draw T.F_law_draw.kp T.b_law_draw .nil pass0 (pa_cons (pv 0) (pa_cons pe_int (pa_cons pe_int pa_nil)))) (fun _ _ => rfl)))
      (pss_cons (ps_if (pt_cmpR op_gt (pv 1) pe_int (nomark _)) (pss_one (ps_set (i := 2) sc_law_table.nd rfl (Or.inr rfl) pe_int)) pss_nil)
      (pss_cons (ps_set (i := 3) sc_law_table.nd rfl (Or.inr rfl) (pe_ix (ix_tupK K) (pe_tup (pa_cons (pe_lst (pa_cons pe_int (pa_cons pe_int (pa_cons pe_int pa_nil)))) (pa_cons (pe_lst (pa_cons pe_int (pa_cons pe_int (pa_cons pe_int pa_nil)))) (pa_cons (pe_lst (pa_cons pe_int (pa_cons pe_int (pa_cons pe_int pa_nil)))) pa_nil)))) (pe_call G_law_draw (hr.mono (by decide)) rfl T.m_law_draw T.F_law_draw.kp T.b_law_draw .nil pass0 (pa_cons (pv 0) (pa_cons pe_int (pa_cons pe_int pa_nil)))) (fun _ _ => rfl)))
      (pss_cons (ps_set (i := 4) sc_law_table.nd rfl (Or.inl rfl) (pe_lst pa_nil))
      (pss_cons (ps_for PassesOwn.never rfl (pi_range1 rfl T.z_range (pa_cons (pe_call G_law_draw (hr.mono (by decide)) rfl T.m_law_draw T.F_law_draw.kp T.b_law_draw .nil pass0 (pa_cons (pv 0) (pa_cons pe_int (pa_cons pe_int pa_nil)))) pa_nil)) (pg_name (i := 5) sc_law_table.nd rfl (Or.inr rfl))
      (pss_one (ps_expr (pe_appendK K (pv 4) (pa_cons (pe_comp ["_law_cell", "_law_columns", "_law_most", "_law_worths", "_law_found", "_law_row"] (defScope s_law_table) ["_law_k", "_law_worths", "_law_cell", "_law_row", "_law_most"] [none, some 3, some 0, some 5, some 2] ⟨rfl, by decide +kernel, by decide +kernel, by decide +kernel, by decide +kernel, by decide +kernel⟩ rfl (pi_range1 rfl T.z_range (pa_cons (pv 1) pa_nil)) (fun _ _ _ _ _ => (pg_name (i := 0) (by show List.Nodup (["_law_k", "_law_worths", "_law_cell", "_law_row", "_law_most"] : List Str); decide +kernel) rfl (Or.inl rfl) (Or.inr rfl))) (fun _ _ _ _ _ => pts_nil) (fun _ _ _ _ _ => (pe_ix (ix_listK K) (pv 1) (pe_call G_law_draw (hr.mono (by decide)) rfl T.m_law_draw T.F_law_draw.kp T.b_law_draw .nil pass0 (pa_cons (pe_op op_add (pe_op op_add (pv 2) (pe_op op_mul pe_int (pv 3))) (pe_op op_mul pe_int (pv 0))) (pa_cons pe_int (pa_cons (pv 4) pa_nil)))) (fun _ _ => rfl)))) pa_nil)))))
      (pss_one (ps_ret (pv 4)))))))), ?_⟩
    refine ⟨by show 4 ≤ sizeLine; decide, fun t1 ht1 => ?_⟩
    have s1 : Same H (upd H t1 (.tup [.int 2, .int 3, .int 2, .int 3])) := Same.new ht1
    have e1 : (upd H t1 (.tup [.int 2, .int 3, .int 2, .int 3])) t1 = some (.tup [.int 2, .int 3, .int 2, .int 3]) := upd_same
    generalize upd H t1 (.tup [.int 2, .int 3, .int 2, .int 3]) = H1 at s1 e1 ⊢
    refine ⟨_, rfl, x, 1, 4, rfl, by decide, by decide, fun d1 hd1 => ?_⟩
    have hm : ∃ m : Nat, 2 ≤ m ∧ m ≤ 3 ∧ atI [V.int 2, V.int 3, V.int 2, V.int 3] (d1 : Nat) = some (.int (m : Nat)) := by
      have h : d1 = 0 ∨ d1 = 1 ∨ d1 = 2 ∨ d1 = 3 := by omega
      rcases h with rfl | rfl | rfl | rfl
      · exact ⟨2, by decide, by decide, rfl⟩
      · exact ⟨3, by decide, by decide, rfl⟩
      · exact ⟨2, by decide, by decide, rfl⟩
      · exact ⟨3, by decide, by decide, rfl⟩
    obtain ⟨m, hm2, hm3, hat⟩ := hm
    refine ⟨t1, _, (d1 : Nat), _, rfl, rfl, SqT.of e1, hat, ?_⟩
    refine ⟨_, rfl, _, _, rfl, rfl, _, rfl, ?_⟩
    refine ite2 (fun e => ?_) (fun e => ?_)
    all_goals
      refine ⟨by show 3 ≤ sizeLine; decide, fun l1 hl1 => ⟨by show 3 ≤ sizeLine; decide, fun l2 hl2 => ⟨by show 3 ≤ sizeLine; decide, fun l3 hl3 => ⟨by show 3 ≤ sizeLine; decide, fun t2 ht2 => ?_⟩⟩⟩⟩
      have sD := ((Same.new (o := .lst [.int 0, .int 1, .int 2]) hl1).trans (Same.new (o := .lst [.int 1, .int 11, .int 99]) hl2)).trans ((Same.new (o := .lst [.int 0, .int 1, .int 2]) hl3).trans (Same.new (o := .tup [.ref l1, .ref l2, .ref l3]) ht2))
      have f1 := (Same.new (o := .tup [.ref l1, .ref l2, .ref l3]) ht2) _ _ ((Same.new (o := .lst [.int 0, .int 1, .int 2]) hl3) _ _ ((Same.new (o := .lst [.int 1, .int 11, .int 99]) hl2) l1 (.lst (nums [0, 1, 2])) upd_same))
      have f2 := (Same.new (o := .tup [.ref l1, .ref l2, .ref l3]) ht2) _ _ ((Same.new (o := .lst [.int 0, .int 1, .int 2]) hl3) l2 (.lst (nums [1, 11, 99])) upd_same)
      have f3 := (Same.new (o := .tup [.ref l1, .ref l2, .ref l3]) ht2) l3 (.lst (nums [0, 1, 2])) upd_same
      have f4 : (upd (upd (upd (upd H1 l1 (.lst [.int 0, .int 1, .int 2])) l2 (.lst [.int 1, .int 11, .int 99])) l3 (.lst [.int 0, .int 1, .int 2])) t2 (.tup [.ref l1, .ref l2, .ref l3])) t2 = some (.tup [.ref l1, .ref l2, .ref l3]) := upd_same
      generalize upd (upd (upd (upd H1 l1 (.lst [.int 0, .int 1, .int 2])) l2 (.lst [.int 1, .int 11, .int 99])) l3 (.lst [.int 0, .int 1, .int 2])) t2 (.tup [.ref l1, .ref l2, .ref l3]) = H2 at sD f1 f2 f3 f4 ⊢
      have s02 : Same H H2 := s1.trans sD
      refine ⟨_, rfl, x, 5, 3, rfl, by decide, by decide, fun d2 hd2 => ?_⟩
      obtain ⟨wl, ws, hws, hwl, hat2⟩ : ∃ (wl : Addr) (ws : List Nat), Wset ws ∧ H2 wl = some (.lst (nums ws)) ∧ atI [V.ref l1, V.ref l2, V.ref l3] (d2 : Nat) = some (.ref wl) := by
        have h : d2 = 0 ∨ d2 = 1 ∨ d2 = 2 := by omega
        rcases h with rfl | rfl | rfl
        · exact ⟨l1, _, .inl rfl, f1, rfl⟩
        · exact ⟨l2, _, .inr rfl, f2, rfl⟩
        · exact ⟨l3, _, .inl rfl, f3, rfl⟩
      obtain ⟨hw3, hw99⟩ := wset_le hws
      refine ⟨t2, _, (d2 : Nat), _, rfl, rfl, SqT.of f4, hat2, ?_⟩
      refine ⟨Nat.zero_le _, fun F hF => ?_⟩
      refine ⟨_, rfl, x, 2, 9, rfl, by decide, by decide, fun nr hnr => ⟨(nr : Int), rfl, by omega, by omega, ?_⟩⟩
      rw [Int.toNat_natCast]
      refine for_range (lo := 0) (n := nr) (fun i σ' H' => Same H2 H' ∧ (∃ (m : Nat) (rv : Option V), 2 ≤ m ∧ m ≤ 3 ∧ σ' = [some (.int x), some (.int (c : Nat)), some (.int (m : Nat)), some (.ref wl), some (.ref F), rv]) ∧
          ∃ (ts : List Addr) (rs : List (List Nat)), H' F = some (.lst (ts.map V.ref)) ∧ Rws H' ts rs ∧ F ∉ ts ∧ rs.length = i ∧ ∀ r ∈ rs, r.length = c ∧ ∀ n ∈ r, n ∈ ws)
        ⟨Same.new hF, by first | exact ⟨2, none, by decide, by decide, rfl⟩ | exact ⟨m, none, hm2, hm3, rfl⟩, [], [], upd_same, trivial, by simp, rfl, fun r hr => by cases hr⟩ ?_ ?_
      · rintro i σ' H3 hi ⟨s3, ⟨m', rv, hm2', hm3', rfl⟩, ts, rs, hF3, hR3, hFn, hrl, hrs⟩
        rw [Int.zero_add]
        refine ⟨_, rfl, .inl ⟨rfl, _, SqL.of hF3⟩, _, rfl, (c : Int), rfl, by omega, by omega, fun D hD => ?_⟩
        rw [Int.toNat_natCast]
        refine comp_range (lo := 0) (n := c) (fun k ys H' => Same H3 H' ∧ ∃ r : List Nat, ys = nums r ∧ r.length = k ∧ ∀ n ∈ r, n ∈ ws) ⟨Same.new hD, [], rfl, rfl, fun n hn => by cases hn⟩ ?_ ?_
        · rintro k7 ys H4 hk7 ⟨s4, r, rfl, hrk, hrn⟩ hDl
          rw [Int.zero_add]
          refine yes_mk ?_
          refine ⟨_, rfl, _, rfl, _, rfl, 31, (i : Int), rfl, rfl, .inl ⟨by decide, by decide⟩, _, _, rfl, rfl, _, rfl, 7, (k7 : Int), rfl, rfl, .inl ⟨by decide, by decide⟩, _, _, rfl, rfl, _, rfl, _, 3, m', rfl, by omega, by omega, fun v hv => ?_⟩
          have hvl : v < ws.length := by omega
          have hat3 : (nums ws)[v]? = some (.int (ws[v] : Nat)) := by unfold nums; rw [List.getElem?_map, List.getElem?_eq_getElem hvl]; rfl
          refine ⟨wl, nums ws, (v : Int), _, rfl, rfl, SqL.of (s4 _ _ (s3 _ _ hwl)), atI_nat hat3, CE1.mk hDl (small1000 (by rw [nums_len]; omega)) ⟨Same.up s4 hD, r ++ [ws[v]], (nums_snoc _ _).symm, by rw [List.length_append, hrk]; rfl, fun n hn => ?_⟩⟩
          rcases List.mem_append.mp hn with z | z
          · exact hrn n z
          · rw [List.mem_singleton.mp z]
            exact List.getElem_mem hvl
        · rintro ys H4 ⟨s4, r, rfl, hrk, hrn⟩ hDl
          have hF4 := s4 _ _ hF3
          have hFD : F ≠ D := fun z => by rw [← z, hF3] at hD; cases hD
          refine ⟨F, ts.map V.ref, .ref D, rfl, rfl, hF4, small1000 (by rw [List.length_map, hR3.len]; omega), ?_⟩
          refine ⟨Same.up (s3.trans s4) hF, ⟨m', _, hm2', hm3', rfl⟩, ts ++ [D], rs ++ [r], by rw [upd_same, List.map_append]; rfl, ?_, fun z => ?_, by rw [List.length_append, hrl]; rfl, fun a ha => ?_⟩
          · refine Rws.upd (Rws.snoc hDl (hR3.same s4)) fun z => ?_
            rcases List.mem_append.mp z with z | z
            · exact hFn z
            · exact hFD (List.mem_singleton.mp z)
          · rcases List.mem_append.mp z with z | z
            · exact hFn z
            · exact hFD (List.mem_singleton.mp z)
          · rcases List.mem_append.mp ha with z | z
            · exact hrs a z
            · rw [List.mem_singleton.mp z]
              exact ⟨hrk, hrn⟩
      · rintro σ' H3 ⟨s3, ⟨m', rv, hm2', hm3', rfl⟩, ts, rs, hF3, hR3, hFn, hrl, hrs⟩
        exact ⟨_, rfl, k F rs H3 (s02.free hF) (s02.trans s3) ⟨ts, hF3, hR3⟩ (by omega) ⟨by omega, fun r hr => ⟨(hrs r hr).1, fun n hn => hw99 n ((hrs r hr).2 n hn)⟩⟩ fun j hj => col_few hws hrs hj⟩
end
end K06

namespace K06
open PySem L2 TC
def sp_lparts : Sp := fun vs H Q _ => ∃ (x : Int) (c : Nat), vs = [.int x, .int (c : Nat)] ∧ 1 ≤ c ∧ c ≤ 6 ∧ ∀ (l : Addr) (ps : List Nat) (H' : Hp), H l = none → Same H H' → H' l = some (.lst (nums ps)) → 1 ≤ ps.length → ps.length < 64 → (∀ p ∈ ps, 1 ≤ p ∧ p < 2 ^ c) → ps.foldl (· ||| ·) 0 = 2 ^ c - 1 → Q (.ref l) H'
theorem andn64 : ∀ a, a < 64 → ∀ b, b < 64 → Builtin.bitAnd ((a : Nat) : Int) (Builtin.bitNot ((b : Nat) : Int)) = ((a ^^^ (a &&& b) : Nat) : Int) := by decide +kernel
def lf (F : Nat) (ps : List Nat) : Nat := ps.foldl (fun a p => a ^^^ (a &&& p)) F
theorem lf_snoc {F i p : Nat} {ps : List Nat} (h : ps[i]? = some p) : lf F (ps.take (i + 1)) = lf F (ps.take i) ^^^ (lf F (ps.take i) &&& p) := by
  unfold lf
  rw [List.take_succ, h, List.foldl_append]; rfl
theorem lf_or {F : Nat} : ∀ (ps : List Nat) (a o : Nat), a ||| o = F → (∀ p ∈ ps, p ||| F = F) → ps.foldl (fun a p => a ^^^ (a &&& p)) a ||| ps.foldl (· ||| ·) o = F
  | [], a, o, h, _ => h
  | p :: ps, a, o, h, hp => by
    refine lf_or ps (a ^^^ (a &&& p)) (o ||| p) ?_ fun q hq => hp q (List.mem_cons_of_mem _ hq)
    have h2 := hp p List.mem_cons_self
    refine Nat.eq_of_testBit_eq fun i => ?_
    have e1 := congrArg (fun n => n.testBit i) h
    have e2 := congrArg (fun n => n.testBit i) h2
    simp only [Nat.testBit_or] at e1 e2
    simp only [Nat.testBit_or, Nat.testBit_xor, Nat.testBit_and]
    revert e1 e2
    cases a.testBit i <;> cases o.testBit i <;> cases p.testBit i <;> cases F.testBit i <;> simp
theorem lf_lt {F : Nat} : ∀ (ps : List Nat) (a : Nat), a ≤ F → ps.foldl (fun a p => a ^^^ (a &&& p)) a ≤ F
  | [], a, h => h
  | p :: ps, a, h => lf_lt ps _ (Nat.le_trans (by
      show a ^^^ (a &&& p) ≤ a
      have : a ^^^ (a &&& p) = a &&& (a ^^^ (a &&& p)) := by
        refine Nat.eq_of_testBit_eq fun i => ?_
        simp only [Nat.testBit_xor, Nat.testBit_and]
        cases a.testBit i <;> cases p.testBit i <;> rfl
      rw [this]
      exact Nat.and_le_left) h)
theorem or_full {p c : Nat} (h : p < 2 ^ c) : p ||| (2 ^ c - 1) = 2 ^ c - 1 := by
  refine Nat.eq_of_testBit_eq fun i => ?_
  rw [Nat.testBit_or, Nat.testBit_two_pow_sub_one]
  by_cases hi : i < c
  · simp [hi]
  · rw [bit_above h (by omega)]; simp
section
variable {P : Program} {w : World} {K : PySem.W.Frag} {mg : Str → Option Value} {base : Heap} {A : Adr}
theorem ok_law_parts (T : Txt K mg A) : FnOk P w K mg base CX0 5 A.f_law_parts A.d_law_parts ["_law_cell", "_law_columns"] sp_lparts := by
  have G_law_draw := ok_law_draw (P := P) (w := w) (base := base) T
  have G_law_set := ok_law_set (P := P) (w := w) (base := base) T
  refine T.F_law_parts.ok sc_law_parts (fun vs H Q E h => ?_) (fun cdv A' outer s H vs Q E hr h => ?_)
  · obtain ⟨x, c, rfl, _⟩ := h; rfl
  · obtain ⟨x, c, rfl, hc1, hc6, k⟩ := h
    have h64 : 2 ^ c ≤ 64 := Nat.pow_le_pow_right (by decide) hc6
    have hpos : 0 < 2 ^ c := Nat.two_pow_pos c
    refine ⟨_, (pss_cons (ps_set (i := 2) sc_law_parts.nd rfl (Or.inl rfl) (pe_lst pa_nil))
      (pss_cons (ps_if (PW.pt (pw_and (pt_cmpR op_lt (pv 1) pe_int (nomark _)) (pw_and1 (pt_cmpR op_eq (pe_call G_law_draw (hr.mono (by decide)) rfl T.m_law_draw T.F_law_draw.kp T.b_law_draw .nil pass0 (pa_cons (pv 0) (pa_cons pe_int (pa_cons pe_int pa_nil)))) pe_int (nomark _))))) (pss_one (ps_for PassesOwn.never rfl (pi_range1 rfl T.z_range (pa_cons (pv 1) pa_nil)) (pg_name (i := 3) sc_law_parts.nd rfl (Or.inr rfl))
      (pss_one (ps_expr (pe_extendK K (pv 2) (pa_cons (pe_comp ["_law_cell", "_law_columns", "_law_parts_here", "_law_one", "_law_k", "_law_left", "_law_part"] (defScope s_law_parts) ["_law_other", "_law_one"] [none, some 3] ⟨rfl, by decide +kernel, by decide +kernel, by decide +kernel, by decide +kernel, by decide +kernel⟩ rfl (pi_range1 rfl T.z_range (pa_cons (pv 3) pa_nil)) (fun _ _ _ _ _ => (pg_name (i := 0) (by show List.Nodup (["_law_other", "_law_one"] : List Str); decide +kernel) rfl (Or.inl rfl) (Or.inr rfl))) (fun _ _ _ _ _ => pts_nil) (fun _ _ _ _ _ => (pe_op op_or (pe_op op_shl pe_int (pv 1)) (pe_op op_shl pe_int (pv 0))))) pa_nil)))))) pss_nil)
      (pss_cons (ps_for PassesOwn.never rfl (pi_range1 rfl T.z_range (pa_cons (pe_call G_law_draw (hr.mono (by decide)) rfl T.m_law_draw T.F_law_draw.kp T.b_law_draw .nil pass0 (pa_cons (pv 0) (pa_cons pe_int (pa_cons pe_int pa_nil)))) pa_nil)) (pg_name (i := 4) sc_law_parts.nd rfl (Or.inl rfl))
      (pss_one (ps_expr (pe_appendK K (pv 2) (pa_cons (pe_call G_law_set (hr.mono (by decide)) rfl T.m_law_set T.F_law_set.kp T.b_law_set .nil pass0 (pa_cons (pe_op op_add (pv 0) (pe_op op_mul pe_int (pv 4))) (pa_cons (pv 1) pa_nil))) pa_nil)))))
      (pss_cons (ps_setC (i := 2) ["_law_cell", "_law_columns", "_law_parts_here", "_law_one", "_law_k", "_law_left", "_law_part"] (defScope s_law_parts) ["_law_part"] [none] ⟨rfl, by decide +kernel, by decide +kernel, by decide +kernel, by decide +kernel, by decide +kernel⟩ rfl sc_law_parts.nd rfl rfl (pi_listK K (pv 2)) (fun _ _ _ _ _ => (pg_name (i := 0) (by show List.Nodup (["_law_part"] : List Str); decide +kernel) rfl (Or.inl rfl) (Or.inr rfl))) (fun _ _ _ _ _ => pts_one (pt_cmpR op_gt (pv 0) pe_int (nomark _))) (fun _ _ _ _ _ => (pv 0)))
      (pss_cons (ps_set (i := 5) sc_law_parts.nd rfl (Or.inl rfl) (pe_op op_sub (pe_op op_shl pe_int (pv 1)) pe_int))
      (pss_cons (ps_for PassesOwn.never rfl (pi_listK K (pv 2)) (pg_name (i := 6) sc_law_parts.nd rfl (Or.inl rfl))
      (pss_one (ps_set (i := 5) sc_law_parts.nd rfl (Or.inl rfl) (pe_op op_and (pv 5) (pe_un un_inv (pv 6))))))
      (pss_cons (ps_if (PW.pt (pw_or (pt_cmpR op_gt (pv 5) pe_int (nomark _)) (pw_or1 (pt_cmpR (op_eqD hr.units) (pv 2) (pe_lst pa_nil) (nomark _))))) (pss_one (ps_expr (pe_appendK K (pv 2) (pa_cons (pe_op op_or (pv 5) (pe_op op_shl pe_int (pe_op op_mod (pv 0) (pv 1)))) pa_nil)))) pss_nil)
      (pss_one (ps_ret (pv 2)))))))))), ?_⟩
    refine ⟨Nat.zero_le _, fun B hB => ?_⟩
    -- behind the first loop, whether it was walked or not
    suffices rest : ∀ (ov : Option V) (H1 : Hp) (ps : List Nat), Same H H1 → H1 B = some (.lst (nums ps)) → ps.length ≤ 36 → (∀ p ∈ ps, p < 2 ^ c) →
        tSeq _ _ { nx := fun x H' => Q V.non H', rt := Q } [some (.int x), some (.int (c : Nat)), some (.ref B), ov, none, none, none] H1 by
      refine ⟨_, rfl, _, _, rfl, rfl, _, rfl, ?_⟩
      refine ite2 (fun e => ?_) (fun e => ?_)
      · refine ⟨_, rfl, x, 3, 6, rfl, by decide, by decide, fun d hd => ⟨rfl, _, rfl, ?_⟩⟩
        refine ite2 (fun e => ?_) (fun e => ?_)
        · refine ⟨_, rfl, (c : Int), rfl, by omega, by omega, ?_⟩
          rw [Int.toNat_natCast]
          refine for_range (lo := 0) (n := c) (fun i σ' H' => Same H H' ∧ (∃ ov, σ' = [some (.int x), some (.int (c : Nat)), some (.ref B), ov, none, none, none]) ∧ ∃ ps : List Nat, H' B = some (.lst (nums ps)) ∧ ps.length ≤ i * 6 ∧ ∀ p ∈ ps, p < 2 ^ c)
            ⟨Same.new hB, ⟨none, rfl⟩, [], upd_same, Nat.zero_le _, fun p hp => by cases hp⟩ ?_ ?_
          · rintro i σ' H1 hi ⟨s1, ⟨ov, rfl⟩, ps, hB1, hpl, hps⟩
            rw [Int.zero_add]
            refine ⟨_, rfl, .inl ⟨rfl, _, SqL.of hB1⟩, _, rfl, (i : Int), rfl, by omega, by omega, fun D hD => ?_⟩
            rw [Int.toNat_natCast]
            refine comp_range (lo := 0) (n := i) (fun k ys H' => Same H1 H' ∧ ∃ qs : List Nat, ys = nums qs ∧ qs.length = k ∧ ∀ p ∈ qs, p < 2 ^ c) ⟨Same.new hD, [], rfl, rfl, fun n hn => by cases hn⟩ ?_ ?_
            · rintro k7 ys H4 hk7 ⟨s4, qs, rfl, hql, hqs⟩ hDl
              rw [Int.zero_add]
              refine yes_mk ?_
              refine ⟨_, rfl, 1, (i : Int), rfl, rfl, ⟨Int.natCast_nonneg i, by omega, by decide⟩, _, rfl, 1, (k7 : Int), rfl, rfl, ⟨Int.natCast_nonneg k7, by omega, by decide⟩, _, _, rfl, rfl, ?_⟩
              refine CE1.mk hDl (small1000 (by rw [nums_len]; omega)) ⟨Same.up s4 hD, qs ++ [2 ^ i ||| 2 ^ k7], ?_, by rw [List.length_append, hql]; rfl, fun n hn => ?_⟩
              · rw [nums_snoc, ← or_nat, ← shl_nat, ← shl_nat]
              · rcases List.mem_append.mp hn with z | z
                · exact hqs n z
                · rw [List.mem_singleton.mp z]
                  exact Nat.or_lt_two_pow (Nat.pow_lt_pow_right (by decide) hi) (Nat.pow_lt_pow_right (by decide) (by omega))
            · rintro ys H4 ⟨s4, qs, rfl, hql, hqs⟩ hDl
              refine ⟨B, D, _, _, rfl, rfl, s4 _ _ hB1, hDl, by rw [nums_len, nums_len, sizeLine_eq]; omega, ?_⟩
              refine ⟨Same.up (s1.trans s4) hB, ⟨_, rfl⟩, ps ++ qs, by rw [upd_same]; unfold nums; rw [List.map_append], by rw [List.length_append]; omega, fun p hp => ?_⟩
              rcases List.mem_append.mp hp with z | z
              · exact hps p z
              · exact hqs p z
          · rintro σ' H1 ⟨s1, ⟨ov, rfl⟩, ps, hB1, hpl, hps⟩
            exact rest ov H1 ps s1 hB1 (by omega) hps
        · exact rest none _ [] (Same.new hB) upd_same (Nat.zero_le _) fun p hp => by cases hp
      · refine iteF ?_
        exact rest none _ [] (Same.new hB) upd_same (Nat.zero_le _) fun p hp => by cases hp
    intro ov H1 ps s1 hB1 hpl hps
    refine ⟨_, rfl, x, 1, 4, rfl, by decide, by decide, fun nr hnr => ⟨(nr : Int), rfl, by omega, by omega, ?_⟩⟩
    rw [Int.toNat_natCast]
    refine for_range (lo := 0) (n := nr) (fun i σ' H' => Same H H' ∧ (∃ kv, σ' = [some (.int x), some (.int (c : Nat)), some (.ref B), ov, kv, none, none]) ∧ ∃ ps : List Nat, H' B = some (.lst (nums ps)) ∧ ps.length ≤ 36 + i ∧ ∀ p ∈ ps, p < 2 ^ c)
      ⟨s1, ⟨none, rfl⟩, ps, hB1, hpl, hps⟩ ?_ ?_
    · rintro i σ' H2 hi ⟨s2, ⟨kv, rfl⟩, ps2, hB2, hpl2, hps2⟩
      rw [Int.zero_add]
      refine ⟨_, rfl, .inl ⟨rfl, _, SqL.of hB2⟩, _, rfl, _, rfl, 977, (i : Int), rfl, rfl, .inl ⟨by decide, by decide⟩, _, _, rfl, rfl, _, rfl, _, c, rfl, hc6, fun s hs => ⟨B, nums ps2, .int (s : Nat), rfl, rfl, hB2, small1000 (by rw [nums_len]; omega), ?_⟩⟩
      refine ⟨Same.up s2 hB, ⟨_, rfl⟩, ps2 ++ [s], by rw [upd_same, nums_snoc], by rw [List.length_append]; show ps2.length + 1 ≤ _; omega, fun p hp => ?_⟩
      rcases List.mem_append.mp hp with z | z
      · exact hps2 p z
      · rw [List.mem_singleton.mp z]; exact hs
    rintro σ' H2 ⟨s2, ⟨kv, rfl⟩, ps2, hB2, hpl2, hps2⟩
    refine ⟨_, rfl, B, rfl, ⟨_, SqL.of hB2⟩, fun D hD => comp_list (xs := nums ps2) (fun i ys H' => Same H2 H' ∧ i ≤ ps2.length ∧ ys = nums ((ps2.take i).filter fun p => decide (0 < p))) ⟨Same.new hD, Nat.zero_le _, rfl⟩ (fun i ys H' _ ⟨e, _⟩ => SqL.of (e _ _ hB2)) ?_ ?_⟩
    · rintro i v ys H' hx ⟨se, hi, rfl⟩ hDl
      obtain ⟨n, hn, rfl⟩ := nums_at hx
      have hi' : i < ps2.length := (List.getElem?_eq_some_iff.mp hn).1
      have et : (ps2.take (i + 1)).filter (fun p => decide (0 < p)) = (ps2.take i).filter (fun p => decide (0 < p)) ++ (if 0 < n then [n] else []) := by
        rw [List.take_succ, hn, List.filter_append]
        congr 1
        by_cases e : 0 < n
        · simp [e]
        · simp [e]
      have hll : ((ps2.take i).filter fun p => decide (0 < p)).length ≤ 64 := Nat.le_trans (List.length_filter_le _ _) (by rw [List.length_take]; omega)
      refine ⟨_, rfl, (n : Int), 0, rfl, rfl, _, rfl, ?_⟩
      refine ite2 (fun e => ?_) (fun e => ?_)
      · have e' : 0 < n := by have := of_decide_eq_true e; omega
        refine ⟨_, rfl, CE1.mk hDl (small1000 (by rw [nums_len]; omega)) ⟨Same.up se hD, hi', ?_⟩⟩
        rw [et, if_pos e', nums_snoc]
      · have e' : ¬ 0 < n := fun z => e (decide_eq_true (by omega))
        refine CN.mk hDl ⟨se, hi', ?_⟩
        rw [et, if_neg e', List.append_nil]
    rintro ys H3 ⟨s3, _, rfl⟩ hD3
    rw [nums_len, List.take_length] at hD3
    have hqs : ∀ p ∈ ps2.filter (fun p => decide (0 < p)), 1 ≤ p ∧ p < 2 ^ c := fun p hp => by
      obtain ⟨a, b⟩ := List.mem_filter.mp hp
      have := of_decide_eq_true b
      exact ⟨by omega, hps2 p a⟩
    have hql : (ps2.filter fun p => decide (0 < p)).length ≤ 40 := Nat.le_trans (List.length_filter_le _ _) (by omega)
    generalize ps2.filter (fun p => decide (0 < p)) = qs at hD3 hqs hql
    have s03 : Same H H3 := s2.trans s3
    have hDn : H D = none := s2.free hD
    have hor := lf_or qs (2 ^ c - 1) 0 (by simp) fun p hp => or_full (hqs p hp).2
    have hlt := lf_lt qs (2 ^ c - 1) (Nat.le_refl _)
    refine ⟨_, rfl, 1, (c : Int), rfl, rfl, ⟨Int.natCast_nonneg c, by omega, by decide⟩, _, 1, rfl, rfl, ?_⟩
    have e0 : (1 : Int) * 2 ^ ((c : Int)).toNat - 1 = ((lf (2 ^ c - 1) [] : Nat) : Int) := by rw [shl_nat, full_castN]; rfl
    refine ⟨_, rfl, D, rfl, ⟨_, SqL.of hD3⟩, for_list (K := K) (a := D) (xs := nums qs) (fun i σ' H' => H' = H3 ∧ ∃ pv, σ' = [some (.int x), some (.int (c : Nat)), some (.ref D), ov, kv, some (.int (lf (2 ^ c - 1) (qs.take i) : Nat)), pv])
      ⟨rfl, none, by
        show [_, _, _, _, _, some (V.int ((1 : Int) * 2 ^ ((c : Int)).toNat - 1)), none] = _
        rw [e0]; rfl⟩ (fun i σ' H' _ ⟨e, _⟩ => by subst e; exact SqL.of hD3) ?_ ?_⟩
    · rintro i v σ' H' hx ⟨rfl, pv, rfl⟩
      obtain ⟨p, hpi, rfl⟩ := nums_at hx
      have hpb := (hqs p (List.mem_of_getElem? hpi)).2
      have hlb : lf (2 ^ c - 1) (qs.take i) ≤ 2 ^ c - 1 := lf_lt _ _ (Nat.le_refl _)
      refine ⟨_, rfl, _, rfl, (p : Int), rfl, _, _, rfl, rfl, rfl, some (.int (p : Nat)), ?_⟩
      rw [lf_snoc hpi, ← andn64 _ (by omega) _ (by omega)]; rfl
    · rintro σ' H' ⟨rfl, pv, rfl⟩
      rw [nums_len, List.take_length]
      have hlf : lf (2 ^ c - 1) qs ≤ 2 ^ c - 1 := hlt
      have hlo : lf (2 ^ c - 1) qs ||| qs.foldl (· ||| ·) 0 = 2 ^ c - 1 := hor
      generalize lf (2 ^ c - 1) qs = L at hlf hlo ⊢
      suffices app : ∀ H4, Same H' H4 → tDrop _ { nx := _, rt := Q } [some (.int x), some (.int (c : Nat)), some (.ref D), ov, kv, some (.int (L : Nat)), pv] H4 by
        refine ⟨_, rfl, _, 0, rfl, rfl, _, rfl, ?_⟩
        refine ite2 (fun e => ?_) (fun e => ?_)
        · exact iteT (app H' (Same.refl _))
        · have hL0 : L = 0 := by
            have : ¬ (0 : Int) < (L : Int) := fun z => e (decide_eq_true z)
            omega
          refine ⟨_, rfl, Nat.zero_le _, fun E hE => ⟨.list (qs.map fun n => PyData.int (n : Nat)), .list [], .lst (Same.new hE _ _ hD3) (nums_dt qs), .lst upd_same .nil, lay_nums qs, rfl, ?_, _, rfl, ?_⟩⟩
          · show PyData.depthAll _ + 1 ≤ 60
            have := depth_nums qs
            omega
          · have ee : PyData.eqv (.list (qs.map fun n => PyData.int (n : Nat))) (.list []) = decide (qs = []) := eqv_numsD qs []
            rw [ee]
            refine ite2 (fun e2 => ?_) (fun e2 => ?_)
            · exact app _ (Same.new hE)
            · have hne : ¬ qs = [] := fun z => by rw [decide_eq_true z] at e2; exact e2 rfl
              have h1 : 1 ≤ qs.length := Nat.one_le_iff_ne_zero.mpr fun z => hne (List.eq_nil_of_length_eq_zero z)
              rw [hL0, Nat.zero_or] at hlo
              exact ⟨_, rfl, k D qs _ hDn (s03.trans (Same.new hE)) (Same.new hE _ _ hD3) h1 (by omega) hqs hlo⟩
      intro H4 s4
      obtain ⟨r, hr⟩ := Int.eq_ofNat_of_zero_le (Int.emod_nonneg x (show ((c : Nat) : Int) ≠ 0 by omega))
      have hrc : r < c := by have := Int.emod_lt_of_pos x (show (0 : Int) < ((c : Nat) : Int) by omega); omega
      have hr2 : 2 ^ r < 2 ^ c := Nat.pow_lt_pow_right (by decide) hrc
      refine ⟨_, rfl, .inl ⟨rfl, _, SqL.of (s4 _ _ hD3)⟩, _, rfl, _, rfl, _, rfl, x, (c : Int), rfl, rfl, by show (0 : Int) < (c : Int); omega, 1, (r : Int), rfl, by show V.int (x % (c : Int)) = _; rw [hr], ⟨Int.natCast_nonneg r, by omega, by decide⟩, _, _, rfl, rfl, D, nums qs, .int (L ||| 2 ^ r : Nat), rfl, ?_, s4 _ _ hD3, small1000 (by rw [nums_len]; omega), ?_⟩
      · rw [← or_nat, ← shl_nat]
      · have hp2 : 1 ≤ L ||| 2 ^ r ∧ L ||| 2 ^ r < 2 ^ c := ⟨Nat.le_trans (Nat.one_le_two_pow) Nat.right_le_or, Nat.or_lt_two_pow (by omega) hr2⟩
        refine ⟨_, rfl, k D (qs ++ [L ||| 2 ^ r]) _ hDn (Same.up (s03.trans s4) hDn) (by rw [upd_same, nums_snoc]) (by rw [List.length_append]; show 1 ≤ qs.length + 1; omega) (by rw [List.length_append]; show qs.length + 1 < 64; omega) (fun p hp => ?_) ?_⟩
        · rcases List.mem_append.mp hp with z | z
          · exact hqs p z
          · rw [List.mem_singleton.mp z]; exact hp2
        · rw [List.foldl_append]
          show qs.foldl (· ||| ·) 0 ||| (L ||| 2 ^ r) = 2 ^ c - 1
          rw [← Nat.or_assoc, Nat.or_comm (qs.foldl (· ||| ·) 0) L, hlo, Nat.or_comm]
          exact or_full hr2
end
end K06

namespace K06
open PySem L2 TC
def sp_law (K : PySem.W.Frag) : Sp := fun vs H Q _ => ∃ (a : Addr) (ns : List Int), vs = [.ref a] ∧ SqL K H a (ns.map V.int) ∧ ns.length ≤ 63 ∧ ∀ H', Q (.bl true) H'
def handD (rs : List (List Nat)) (ps : List Nat) : PyData := .list [.list (rs.map rowD), .list (ps.map fun n => PyData.int (n : Nat))]
theorem hand_dt {H : Hp} {h t p : Addr} {rs : List (List Nat)} {ps : List Nat} (h1 : H h = some (.lst [.ref t, .ref p])) (h2 : TblAt H t rs) (h3 : H p = some (.lst (nums ps))) : Dt H (.ref h) (handD rs ps) := .lst h1 (.cons (tbl_dt h2) (.cons (.lst h3 (nums_dt ps)) .nil))
theorem hand_lay (rs : List (List Nat)) (ps : List Nat) : (handD rs ps).canLay0 = true := by
  show (PyData.canLayAll0 (rs.map rowD) && (PyData.canLayAll0 (ps.map fun n => PyData.int (n : Nat)) && true)) = true
  rw [lay_rows, lay_nums]; rfl
theorem hand_depth (rs : List (List Nat)) (ps : List Nat) : (handD rs ps).depth ≤ 60 := by
  show PyData.depthAll [.list (rs.map rowD), .list (ps.map fun n => PyData.int (n : Nat))] + 1 ≤ 60
  have h1 := depth_rows rs
  have h2 := depth_nums ps
  have : PyData.depthAll [.list (rs.map rowD), .list (ps.map fun n => PyData.int (n : Nat))] ≤ 3 := Nat.max_le.mpr ⟨by show PyData.depthAll (rs.map rowD) + 1 ≤ 3; omega, Nat.max_le.mpr ⟨by show PyData.depthAll _ + 1 ≤ 3; omega, Nat.zero_le _⟩⟩
  omega
theorem hand_eqv (rs : List (List Nat)) (ps : List Nat) : PyData.eqv (handD rs ps) (handD rs ps) = true := by
  show (PyData.eqvAll (rs.map rowD) (rs.map rowD) && (PyData.eqvAll (ps.map fun n => PyData.int (n : Nat)) (ps.map fun n => PyData.int (n : Nat)) && true)) = true
  rw [eqv_rows, eqv_nums]; rfl
section
variable {P : Program} {w : World} {K : PySem.W.Frag} {mg : Str → Option Value} {base : Heap} {A : Adr}
theorem ok_law (T : Txt K mg A) : FnOk P w K mg base CX0 12 A.f_law A.d_law ["_law_script"] (sp_law K) := by
  have G_law_cell_at := ok_law_cell_at (P := P) (w := w) (base := base) T
  have G_law_pairs := ok_law_pairs (P := P) (w := w) (base := base) T
  have G_law_table := ok_law_table (P := P) (w := w) (base := base) T
  have G_law_parts := ok_law_parts (P := P) (w := w) (base := base) T
  have G_Rules_init := ok_Rules_init (P := P) (w := w) (base := base) T
  have G_law_keeps := ok_law_keeps (P := P) (w := w) (base := base) T
  have G_broken := ok_broken (P := P) (w := w) (base := base) T
  have G_law_numbers := ok_law_numbers (P := P) (w := w) (base := base) T
  have G_joined := ok_joined (P := P) (w := w) (base := base) T
  have G_law_joined_right := ok_law_joined_right (P := P) (w := w) (base := base) T
  refine T.F_law.ok sc_law (fun vs H Q E h => ?_) (fun cdv A' outer s H vs Q E hr h => ?_)
  · obtain ⟨a, ns, rfl, _⟩ := h; rfl
  · obtain ⟨a, ns, rfl, hS, hlen, k⟩ := h
    refine ⟨_, (pss_cons (ps_set (i := 1) sc_law.nd rfl (Or.inl rfl) (pe_ix (ix_tupK K) (pe_tup (pa_cons pe_int (pa_cons pe_int (pa_cons pe_int (pa_cons pe_int (pa_cons pe_int (pa_cons pe_int (pa_cons pe_int (pa_cons pe_int pa_nil))))))))) (pe_op op_mod (pe_call G_law_cell_at (hr.mono (by decide)) rfl T.m_law_cell_at T.F_law_cell_at.kp T.b_law_cell_at .nil pass0 (pa_cons (pv 0) (pa_cons pe_int pa_nil))) pe_int) (fun _ _ => rfl)))
      (pss_cons (ps_set (i := 2) sc_law.nd rfl (Or.inr rfl) (pe_call G_law_pairs (hr.mono (by decide)) rfl T.m_law_pairs T.F_law_pairs.kp T.b_law_pairs .nil pass0 (pa_cons (pe_call G_law_cell_at (hr.mono (by decide)) rfl T.m_law_cell_at T.F_law_cell_at.kp T.b_law_cell_at .nil pass0 (pa_cons (pv 0) (pa_cons pe_int pa_nil))) (pa_cons (pv 1) (pa_cons pe_int pa_nil)))))
      (pss_cons (ps_set (i := 3) sc_law.nd rfl (Or.inr rfl) (pe_call G_law_table (hr.mono (by decide)) rfl T.m_law_table T.F_law_table.kp T.b_law_table .nil pass0 (pa_cons (pe_call G_law_cell_at (hr.mono (by decide)) rfl T.m_law_cell_at T.F_law_cell_at.kp T.b_law_cell_at .nil pass0 (pa_cons (pv 0) (pa_cons pe_int pa_nil))) (pa_cons (pv 1) pa_nil))))
      (pss_cons (ps_set (i := 4) sc_law.nd rfl (Or.inl rfl) (pe_call G_law_parts (hr.mono (by decide)) rfl T.m_law_parts T.F_law_parts.kp T.b_law_parts .nil pass0 (pa_cons (pe_call G_law_cell_at (hr.mono (by decide)) rfl T.m_law_cell_at T.F_law_cell_at.kp T.b_law_cell_at .nil pass0 (pa_cons (pv 0) (pa_cons pe_int pa_nil))) (pa_cons (pv 1) pa_nil))))
      (pss_cons (ps_set (i := 5) sc_law.nd rfl (Or.inl rfl) (pe_make T.mk_Rules G_Rules_init (hr.mono (by decide)) rfl T.m_Rules T.b_Rules_init .nil pass0 (pa_cons (pv 1) (pa_cons (pv 2) pa_nil))))
      (pss_cons (ps_set (i := 6) sc_law.nd rfl (Or.inl rfl) (pe_lst (pa_cons (pe_comp ["_law_script", "_law_columns", "_law_pairs_here", "_law_table_here", "_law_parts_here", "_law_rules", "_law_handed", "_law_due", "_law_again", "_law_found", "_law_row"] (defScope s_law) ["_law_row"] [none] ⟨rfl, by decide +kernel, by decide +kernel, by decide +kernel, by decide +kernel, by decide +kernel⟩ rfl (pi_listK K (pv 3)) (fun _ _ _ _ _ => (pg_name (i := 0) (by show List.Nodup (["_law_row"] : List Str); decide +kernel) rfl (Or.inl rfl) (Or.inr rfl))) (fun _ _ _ _ _ => pts_nil) (fun _ _ _ _ _ => (pe_callTy (call_listK K) rfl T.z_list bt_list (pa_cons (pv 0) pa_nil)))) (pa_cons (pe_callTy (call_listK K) rfl T.z_list bt_list (pa_cons (pv 4) pa_nil)) pa_nil))))
      (pss_cons (ps_setC (i := 7) ["_law_script", "_law_columns", "_law_pairs_here", "_law_table_here", "_law_parts_here", "_law_rules", "_law_handed", "_law_due", "_law_again", "_law_found", "_law_row"] (defScope s_law) ["_law_place", "_law_table_here", "_law_pairs_here"] [none, some 3, some 2] ⟨rfl, by decide +kernel, by decide +kernel, by decide +kernel, by decide +kernel, by decide +kernel⟩ rfl sc_law.nd rfl rfl (pi_range1 rfl T.z_range (pa_cons (pe_callB (call_lenK K) rfl T.z_len bt_len (pa_cons (pv 2) pa_nil)) pa_nil)) (fun _ _ _ _ _ => (pg_name (i := 0) (by show List.Nodup (["_law_place", "_law_table_here", "_law_pairs_here"] : List Str); decide +kernel) rfl (Or.inl rfl) (Or.inr rfl))) (fun _ _ _ _ _ => pts_one (pt_not (pt_val (pe_call G_law_keeps (hr.mono (by decide)) rfl T.m_law_keeps T.F_law_keeps.kp T.b_law_keeps .nil pass0 (pa_cons (pv 1) (pa_cons (pe_ix (ix_listK K) (pv 2) (pv 0) (fun _ _ => rfl)) pa_nil)))))) (fun _ _ _ _ _ => (pv 0)))
      (pss_cons (ps_for PassesOwn.never rfl (pi_range1 rfl T.z_range (pa_cons pe_int pa_nil)) (pg_name (i := 8) sc_law.nd rfl (Or.inl rfl))
      (pss_cons (ps_set (i := 9) sc_law.nd rfl (Or.inl rfl) (pe_call G_broken (hr.mono (by decide)) rfl T.m_broken T.F_broken.kp T.b_broken .nil pass0 (pa_cons (pv 5) (pa_cons (pe_ix (ix_listK K) (pv 6) pe_int (fun _ _ => rfl)) pa_nil))))
      (pss_cons (ps_if (PW.pt (pw_or (pt_not (pt_val (pe_call G_law_numbers (hr.mono (by decide)) rfl T.m_law_numbers T.F_law_numbers.kp T.b_law_numbers .nil pass0 (pa_cons (pv 9) (pa_cons (pe_callB (call_lenK K) rfl T.z_len bt_len (pa_cons (pv 2) pa_nil)) pa_nil))))) (pw_or (pt_cmpR (op_neD hr.units) (pv 9) (pv 7) (nomark _)) (pw_or1 (pt_cmpR (op_neD hr.units) (pv 6) (pe_lst (pa_cons (pv 3) (pa_cons (pv 4) pa_nil))) (nomark _)))))) (pss_one (ps_ret pe_bl)) pss_nil)
      (pss_cons (ps_expr (pe_appendK K (pv 9) (pa_cons pe_int pa_nil)))
      (pss_cons (ps_set (i := 9) sc_law.nd rfl (Or.inl rfl) (pe_call G_joined (hr.mono (by decide)) rfl T.m_joined T.F_joined.kp T.b_joined .nil pass0 (pa_cons (pv 1) (pa_cons (pe_ix (ix_listK K) (pv 6) pe_int (fun _ _ => rfl)) (pa_cons (pe_ix (ix_listK K) (pv 6) pe_int (fun _ _ => rfl)) pa_nil)))))
      (pss_cons (ps_if (PW.pt (pw_or (pt_not (pt_val (pe_call G_law_joined_right (hr.mono (by decide)) rfl T.m_law_joined_right T.F_law_joined_right.kp T.b_law_joined_right .nil pass0 (pa_cons (pv 3) (pa_cons (pv 4) (pa_cons (pv 1) (pa_cons (pv 9) pa_nil))))))) (pw_or1 (pt_cmpR (op_neD hr.units) (pv 6) (pe_lst (pa_cons (pv 3) (pa_cons (pv 4) pa_nil))) (nomark _))))) (pss_one (ps_ret pe_bl)) pss_nil)
      (pss_cons (ps_for PassesOwn.never rfl (pi_listK K (pv 9)) (pg_name (i := 10) sc_law.nd rfl (Or.inl rfl))
      (pss_one (ps_expr (pe_appendK K (pv 10) (pa_cons pe_int pa_nil)))))
      (pss_one (ps_expr (pe_appendK K (pv 9) (pa_cons (pe_lst pa_nil) pa_nil)))))))))))
      (pss_one (ps_ret pe_bl)))))))))), ?_⟩
    -- the columns
    refine ⟨by show 8 ≤ sizeLine; decide, fun tp htp0 => ⟨_, rfl, a, ns, 0, rfl, (Same.new htp0).seq hS, fun x0 => ⟨x0, 8, rfl, rfl, (by show (0 : Int) < 8; decide), ?_⟩⟩⟩
    obtain ⟨c, hc1, hc6, ec⟩ := menu x0
    refine ⟨tp, _, _, _, rfl, rfl, SqT.of upd_same, ec, ?_⟩
    have hS1 : SqL K (upd H tp (.tup [V.int 3, V.int 4, V.int 2, V.int 5, V.int 3, V.int 4, V.int 1, V.int 6])) a (ns.map V.int) := (Same.new htp0).seq hS
    generalize (upd H tp (.tup [V.int 3, V.int 4, V.int 2, V.int 5, V.int 3, V.int 4, V.int 1, V.int 6])) = H1 at hS1 ⊢
    have h64 : 2 ^ c ≤ 64 := Nat.pow_le_pow_right (by decide) hc6
    -- the rules, the table, the parts
    refine ⟨_, rfl, a, ns, 1, rfl, hS1, fun x1 => ⟨_, rfl, x1, c, 8, rfl, hc6, by decide, fun l prs H2 hl s2 hP hpl hprs => ?_⟩⟩
    have hG : Good c prs := ⟨hc1, hc6, by omega, hprs⟩
    refine ⟨_, rfl, a, ns, 2, rfl, s2.seq hS1, fun x2 => ⟨_, rfl, x2, c, rfl, hc6, fun tl rs H3 htl s3 hT hrl hGT h3c => ?_⟩⟩
    refine ⟨_, rfl, a, ns, 3, rfl, (s2.trans s3).seq hS1, fun x3 => ⟨_, rfl, x3, c, rfl, hc1, hc6, fun pl ps H4 hpl' s4 hPs hp1 hp63 hps hall => ?_⟩⟩
    -- Rules
    refine ⟨_, rfl, _, rfl, fun x dx nx ndx nex => ?_⟩
    have s5' : Same H4 (upd (upd H4 dx (.own x)) x (.ins A.c_Rules dx [])) := Same.up (Same.new ndx) nx
    refine ⟨x, dx, l, c, prs, rfl, upd_same, (hP.same (s3.trans s4)).same s5', hG, fun m H5 hm hR kp => ⟨rfl, ?_⟩⟩
    have s5 : Same H4 H5 := fun b o e => kp b o (s5' b o e) (ne_of_none e nx)
    obtain ⟨ts, hl5, htp5⟩ := hP.same ((s3.trans s4).trans s5)
    have hln : (ts.map V.ref).length = prs.length := by rw [List.length_map]; exact htp5.len
    have hT5 := hT.same (s4.trans s5)
    have hPs5 := s5 _ _ hPs
    obtain ⟨tt, htt, htr⟩ := id hT5
    have htn : (tt.map V.ref).length = rs.length := by rw [List.length_map]; exact htr.len
    -- handed
    refine ⟨_, rfl, tl, rfl, ⟨_, SqL.of htt⟩, fun D hD => comp_list (xs := tt.map V.ref) (fun i ys H' => Same H5 H' ∧ i ≤ rs.length ∧ ∃ us : List Addr, ys = us.map V.ref ∧ Rws H' us (rs.take i) ∧ D ∉ us) ⟨Same.new hD, Nat.zero_le _, [], rfl, trivial, by simp⟩ (fun i ys H' _ ⟨e, _⟩ => SqL.of (e _ _ htt)) ?_ ?_⟩
    · rintro i v ys H' hx ⟨se, hi, us, rfl, hU, hDu⟩ hDl
      obtain ⟨t, r, rfl, hri, hrow⟩ := (htr.same se).get hx
      have hi' : i < rs.length := (List.getElem?_eq_some_iff.mp hri).1
      have hul : us.length ≤ 8 := by rw [hU.len, List.length_take]; omega
      refine yes_mk ?_
      refine ⟨_, rfl, t, nums r, rfl, .inl (SqL.of hrow), fun g hg => ?_⟩
      have hgD : g ≠ D := fun z => by rw [z, hDl] at hg; cases hg
      have sg : Same H' (upd H' g (.lst (nums r))) := Same.new hg
      refine CE1.mk (sg _ _ hDl) (small1000 (by rw [List.length_map]; omega)) ⟨Same.up (se.trans sg) hD, hi', us ++ [g], by rw [List.map_append]; rfl, ?_, fun z => ?_⟩
      · rw [List.take_succ, hri]
        refine Rws.upd (Rws.snoc upd_same (hU.same sg)) fun z => ?_
        rcases List.mem_append.mp z with z | z
        · exact hDu z
        · exact hgD (List.mem_singleton.mp z).symm
      · rcases List.mem_append.mp z with z | z
        · exact hDu z
        · exact hgD (List.mem_singleton.mp z).symm
    rintro ys H6 ⟨s6, _, us, rfl, hU, _⟩ hD6
    rw [htn, List.take_length] at hU
    refine ⟨_, rfl, pl, nums ps, rfl, .inl (SqL.of (s6 _ _ hPs5)), fun hp hhp => ⟨by show 2 ≤ sizeLine; decide, fun hd hhd => ?_⟩⟩
    have sh : Same H6 (upd (upd H6 hp (.lst (nums ps))) hd (.lst [.ref D, .ref hp])) := (Same.new hhp).trans (Same.new hhd)
    have hP7 : (upd (upd H6 hp (.lst (nums ps))) hd (.lst [.ref D, .ref hp])) hp = some (.lst (nums ps)) := (Same.new hhd) _ _ upd_same
    have hH7 : (upd (upd H6 hp (.lst (nums ps))) hd (.lst [.ref D, .ref hp])) hd = some (.lst [.ref D, .ref hp]) := upd_same
    show tSeq _ _ _ _ (upd (upd H6 hp (.lst (nums ps))) hd (.lst [.ref D, .ref hp]))
    generalize upd (upd H6 hp (.lst (nums ps))) hd (.lst [.ref D, .ref hp]) = H7 at sh hP7 hH7 ⊢
    have hD7 : TblAt H7 D rs := ⟨us, sh _ _ hD6, hU.same sh⟩
    have s57 : Same H5 H7 := s6.trans sh
    have hl7 := s57 _ _ hl5
    have htp7 := htp5.same s57
    have hT7 := hT5.same s57
    -- due
    refine ⟨_, rfl, l, _, rfl, .inl (SqL.of hl7), _, rfl, by rw [hln]; omega, by rw [hln]; omega, fun F hF => ?_⟩
    rw [hln, Int.toNat_natCast]
    refine comp_range (lo := 0) (n := prs.length) (fun i ys H' => Same H7 H' ∧ i ≤ prs.length ∧ ys = nums ((List.range i).filter fun i => !decide (Keeps rs (prs.getD i (0, 0))))) ⟨Same.new hF, Nat.zero_le _, rfl⟩ ?_ ?_
    · rintro i ys H' hi ⟨se, _, rfl⟩ hFl
      rw [Int.zero_add]
      have hit : i < ts.length := by rw [← hln, List.length_map] at hi; exact hi
      have hgt : (ts.map V.ref)[i]? = some (.ref ts[i]) := by rw [List.getElem?_map, List.getElem?_eq_getElem hit]; rfl
      obtain ⟨t, p, et, hpi, ht⟩ := (htp7.same se).get hgt
      have hb := hprs p (List.mem_of_getElem? hpi)
      have hg : prs.getD i (0, 0) = p := by simp [List.getD, hpi]
      refine ⟨_, rfl, _, rfl, _, rfl, l, _, (i : Int), _, rfl, rfl, SqL.of (se _ _ hl7), atI_nat hgt, tl, t, c, rs, p, by rw [et]; rfl, hT7.same se, hc6, fun r hr' => (hGT.2 r hr').1, ht, by omega, by omega, _, rfl, ?_⟩
      have hll : (nums ((List.range i).filter fun i => !decide (Keeps rs (prs.getD i (0, 0))))).length ≤ 64 := by
        rw [nums_len]
        exact Nat.le_trans (List.length_filter_le _ _) (by rw [List.length_range]; omega)
      have e1 : (!decide (Keeps rs p)) = !decide (Keeps rs (prs.getD i (0, 0))) := by rw [hg]
      refine ite2 (fun e => ?_) (fun e => ?_)
      · refine ⟨_, rfl, CE1.mk hFl (small1000 (by omega)) ⟨Same.up se hF, hi, ?_⟩⟩
        rw [brk_succ, if_pos (e1.symm.trans e), nums_snoc]
      · refine CN.mk hFl ⟨se, hi, ?_⟩
        rw [brk_succ, if_neg (fun z => e (e1.trans z)), List.append_nil]
    rintro ys H8 ⟨s8, _, rfl⟩ hF8
    have hF8 : H8 F = some (.lst (nums (brk rs prs))) := hF8
    have hbl : (brk rs prs).length ≤ 8 := Nat.le_trans (List.length_filter_le _ _) (by rw [List.length_range]; exact hpl)
    have hl8 := s8 _ _ hl7
    have hT8 := hT7.same s8
    have hPs8 := s8 _ _ (s57 _ _ hPs5)
    have hR8 := hR.same (s57.trans s8)
    have hH8 := s8 _ _ hH7
    have hP8 := s8 _ _ hP7
    have hD8 := hD7.same s8
    have eI : (if true = true then !PyData.eqv (.list ((brk rs prs).map fun n => PyData.int (n : Nat))) (.list ((brk rs prs).map fun n => PyData.int (n : Nat))) else PyData.eqv (.list ((brk rs prs).map fun n => PyData.int (n : Nat))) (.list ((brk rs prs).map fun n => PyData.int (n : Nat)))) = false := by
      rw [if_pos rfl]
      show (!PyData.eqvAll ((brk rs prs).map fun n => PyData.int (n : Nat)) ((brk rs prs).map fun n => PyData.int (n : Nat))) = false
      rw [eqv_nums]; rfl
    have dI : (PyData.list ((brk rs prs).map fun n => PyData.int (n : Nat))).depth ≤ 60 := by
      show PyData.depthAll ((brk rs prs).map fun n => PyData.int (n : Nat)) + 1 ≤ 60
      have := depth_nums (brk rs prs)
      omega
    have eH : (if true = true then !PyData.eqv (handD rs ps) (handD rs ps) else PyData.eqv (handD rs ps) (handD rs ps)) = false := by rw [if_pos rfl, hand_eqv]; rfl
    have hjm := join_made (rs := rs) (ps := ps) hc6 (fun t ht => (hGT.2 t ht).1) hps
    have hjl : (joinN rs ps c).length ≤ 729 := by
      have h1 := joinN_len (ps := ps) (j := c) h3c
      have h2 : 3 ^ c ≤ 3 ^ 6 := Nat.pow_le_pow_right (by decide) hc6
      have h4 : 3 ^ 6 = 729 := by decide
      omega
    have hp64 : ∀ p ∈ ps, p < 64 := fun p hp => by have := (hps p hp).2; omega
    -- for _law_again in range(2)
    refine ⟨2, rfl, by decide, by decide, for_range (lo := 0) (n := 2) (fun i σ' H' => Same H8 H' ∧ ∃ o8 o9 o10 : Option V, σ' = [some (.ref a), some (.int (c : Nat)), some (.ref l), some (.ref tl), some (.ref pl), some (.ref x), some (.ref hd), some (.ref F), o8, o9, o10]) ⟨Same.refl _, _, _, _, rfl⟩ ?_ ?_⟩
    · rintro i σ' H9 hi ⟨s9, o8, o9, o10, rfl⟩
      refine ⟨_, rfl, _, rfl, hd, _, 0, _, rfl, rfl, SqL.of (s9 _ _ hH8), rfl, x, m, D, c, prs, rs, rfl, hR8.same s9, hG, hD8.same s9, hGT, fun f H11 hf s11 hf11 => ?_⟩
      refine ⟨_, rfl, _, rfl, l, _, rfl, .inl (SqL.of (s11 _ _ (s9 _ _ hl8))), f, brk rs prs, (ts.map V.ref).length, rfl, hf11, fun n hn => by rw [hln]; exact List.mem_range.mp (List.mem_filter.mp hn).1, by omega, fun H12 s12 => ⟨_, rfl, iteF ?_⟩⟩
      have s812 : Same H8 H12 := s9.trans (s11.trans s12)
      have hf12 := s12 _ _ hf11
      refine ⟨_, rfl, _, rfl, _, _, .lst hf12 (nums_dt _), .lst (s812 _ _ hF8) (nums_dt _), lay_nums _, lay_nums _, dI, _, rfl, ?_⟩
      rw [eI]
      refine iteF ?_
      refine ⟨_, rfl, _, rfl, _, rfl, by show 2 ≤ sizeLine; decide, fun q hq => ⟨handD rs ps, handD rs ps, hand_dt (Same.new hq _ _ (s812 _ _ hH8)) ((hD8.same s812).same (Same.new hq)) (Same.new hq _ _ (s812 _ _ hP8)), hand_dt upd_same ((hT8.same s812).same (Same.new hq)) (Same.new hq _ _ (s812 _ _ hPs8)), hand_lay _ _, hand_lay _ _, hand_depth _ _, _, rfl, ?_⟩⟩
      rw [eH]
      refine iteF ?_
      have s813 : Same H8 (upd H12 q (.lst [.ref tl, .ref pl])) := s812.trans (Same.new hq)
      have hf13 := (Same.new (o := .lst [.ref tl, .ref pl]) hq) _ _ hf12
      generalize upd H12 q (.lst [.ref tl, .ref pl]) = H13 at s813 hf13 ⊢
      refine ⟨_, rfl, .inl ⟨rfl, _, SqL.of hf13⟩, f, _, _, rfl, rfl, hf13, small1000 (by rw [nums_len]; omega), ?_⟩
      have s814 : Same H8 (upd H13 f (.lst (nums (brk rs prs) ++ [.int 0]))) := Same.up s813 (s9.free hf)
      generalize upd H13 f (.lst (nums (brk rs prs) ++ [.int 0])) = H14 at s814 ⊢
      refine ⟨_, rfl, _, rfl, hd, _, 0, _, rfl, rfl, SqL.of (s814 _ _ hH8), rfl, _, rfl, hd, _, 1, _, rfl, rfl, SqL.of (s814 _ _ hH8), rfl, D, hp, c, rs, ps, rfl, hc1, hc6, hD8.same s814, by omega, hGT, h3c, s814 _ _ hP8, hp1, hp63, hps, hall, fun d H15 hd15 s15 ⟨td, htd, hRd, hnd, _⟩ => ?_⟩
      have s815 : Same H8 H15 := s814.trans s15
      refine ⟨_, rfl, _, rfl, _, rfl, _, rfl, tl, pl, d, c, rs, ps, rfl, hc6, hT8.same s815, by omega, hGT, h3c, s815 _ _ hPs8, by omega, hp64, ⟨td, htd, by rw [← hjm]; exact hRd⟩, fun H16 s16 => ⟨_, rfl, iteF ?_⟩⟩
      have s816 : Same H8 H16 := s815.trans s16
      have htd16 := s16 _ _ htd
      have hRd16 := hRd.same s16
      refine ⟨_, rfl, _, rfl, _, rfl, by show 2 ≤ sizeLine; decide, fun q hq => ⟨handD rs ps, handD rs ps, hand_dt (Same.new hq _ _ (s816 _ _ hH8)) ((hD8.same s816).same (Same.new hq)) (Same.new hq _ _ (s816 _ _ hP8)), hand_dt upd_same ((hT8.same s816).same (Same.new hq)) (Same.new hq _ _ (s816 _ _ hPs8)), hand_lay _ _, hand_lay _ _, hand_depth _ _, _, rfl, ?_⟩⟩
      rw [eH]
      refine iteF ?_
      have s817 : Same H8 (upd H16 q (.lst [.ref tl, .ref pl])) := s816.trans (Same.new hq)
      have htd17 := (Same.new (o := .lst [.ref tl, .ref pl]) hq) _ _ htd16
      have hRd17 := hRd16.same (Same.new (o := .lst [.ref tl, .ref pl]) hq)
      generalize upd H16 q (.lst [.ref tl, .ref pl]) = H17 at s817 htd17 hRd17 ⊢
      have hdl : td.length ≤ 729 := by rw [hRd.len]; exact hjl
      have hd8 : H8 d = none := s814.free hd15
      refine ⟨_, rfl, d, rfl, ⟨_, SqL.of htd17⟩, for_list (K := K) (a := d) (xs := td.map V.ref) (fun i σ' H' => Same H8 H' ∧ H' d = some (.lst (td.map V.ref)) ∧ (∀ t ∈ td, ∃ r : List Nat, H' t = some (.lst (nums r)) ∧ r.length ≤ 6 + i) ∧
          ∃ o8 o10 : Option V, σ' = [some (.ref a), some (.int (c : Nat)), some (.ref l), some (.ref tl), some (.ref pl), some (.ref x), some (.ref hd), some (.ref F), o8, some (.ref d), o10])
        ⟨s817, htd17, fun t ht => ?_, _, _, rfl⟩ (fun i σ' H' _ ⟨_, e, _⟩ => SqL.of e) ?_ ?_⟩
      · obtain ⟨i', hi2⟩ := List.mem_iff_getElem?.mp ht
        obtain ⟨t', r', e1, e2, e3⟩ := hRd17.get (i := i') (v := .ref t) (by rw [List.getElem?_map, hi2]; rfl)
        injection e1 with e1
        rw [e1]
        exact ⟨r', e3, by rw [joinN_row rs ps c r' (List.mem_of_getElem? e2)]; omega⟩
      · rintro i2 v σ' H18 hx ⟨s18, hd18, hr18, o8', o10', rfl⟩
        have hi2 : i2 < td.length := by have := (List.getElem?_eq_some_iff.mp hx).1; rwa [List.length_map] at this
        obtain ⟨t, ht, rfl⟩ : ∃ t ∈ td, v = .ref t := by
          rw [List.getElem?_map, List.getElem?_eq_getElem hi2] at hx
          exact ⟨td[i2], List.getElem_mem hi2, (Option.some.inj hx).symm⟩
        obtain ⟨r, hrt, hrl'⟩ := hr18 t ht
        have hnt := hnd t ht
        refine ⟨_, rfl, .inl ⟨rfl, _, SqL.of hrt⟩, t, _, _, rfl, rfl, hrt, small1000 (by rw [nums_len]; omega), ?_⟩
        refine ⟨Same.up s18 (s814.free hnt.1), by rw [upd_ne hnt.2.symm]; exact hd18, fun t' ht' => ?_, _, _, rfl⟩
        by_cases e : t' = t
        · subst e
          exact ⟨r ++ [0], by rw [upd_same, nums_snoc]; rfl, by rw [List.length_append]; show r.length + 1 ≤ _; omega⟩
        · obtain ⟨r', h1, h2⟩ := hr18 t' ht'
          exact ⟨r', by rw [upd_ne e]; exact h1, by omega⟩
      · rintro σ' H18 ⟨s18, hd18, hr18, o8', o10', rfl⟩
        refine ⟨_, rfl, .inl ⟨rfl, _, SqL.of hd18⟩, Nat.zero_le _, fun e he => ⟨d, _, _, rfl, rfl, Same.new he _ _ hd18, small1000 (by rw [List.length_map]; omega), ?_⟩⟩
        exact ⟨Same.up (s18.trans (Same.new he)) hd8, _, _, _, rfl⟩
    rintro σ' H9 ⟨s9, o8, o9, o10, rfl⟩
    exact k H9
end
theorem all_mk {l : PySem.W.OpenLaw} {w : World} {K : PySem.W.Frag} {h : Heap} {mg : Str → Option Value} {fa C_Rules f_is_number f_is_list f_is_count f_all_columns f_is_set f_is_rule f_are_rules f_is_row f_is_table f_are_parts f_need_table f_need_parts f_cells f_keeps f_broken f_joined f_widened f_seen_in f_Rules_init f_Rules_rules f_law_cell_at f_law_draw f_law_set f_law_pairs f_law_like f_law_keeps f_law_numbers f_law_table f_law_parts f_law_made f_law_all_rows f_law_joined_right f_law : Addr} (X : K.In h) (G : h.Ns mainGlobals mg) (hfa : mg "law" = some (.ref fa))
    (aC_Rules : PySem.W.nsIn K mainGlobals "Rules" = some (some (.ref C_Rules)))
    (a_is_number : PySem.W.nsIn K mainGlobals "is_number" = some (some (.ref f_is_number)))
    {od_is_number an_is_number : Option Addr} {sl_is_number : Array (Option Value)} {oc_is_number kV_is_number dc_is_number pm_is_number cd_is_number ct_is_number : Value}
    (l_is_number : K.lookup f_is_number = some ⟨oc_is_number, od_is_number, .func (PySem.W.fnOf "is_number" "is_number" (defArgs s_is_number) (defBody s_is_number) (defScope s_is_number) .none kV_is_number dc_is_number pm_is_number an_is_number cd_is_number ct_is_number), sl_is_number⟩)
    (c_is_number : PySem.W.codeIn K cd_is_number "is_number" = true)
    (k_is_number : PySem.W.keepIn K (.ref f_is_number) = true)
    (a_is_list : PySem.W.nsIn K mainGlobals "is_list" = some (some (.ref f_is_list)))
    {od_is_list an_is_list : Option Addr} {sl_is_list : Array (Option Value)} {oc_is_list kV_is_list dc_is_list pm_is_list cd_is_list ct_is_list : Value}
    (l_is_list : K.lookup f_is_list = some ⟨oc_is_list, od_is_list, .func (PySem.W.fnOf "is_list" "is_list" (defArgs s_is_list) (defBody s_is_list) (defScope s_is_list) .none kV_is_list dc_is_list pm_is_list an_is_list cd_is_list ct_is_list), sl_is_list⟩)
    (c_is_list : PySem.W.codeIn K cd_is_list "is_list" = true)
    (k_is_list : PySem.W.keepIn K (.ref f_is_list) = true)
    (a_is_count : PySem.W.nsIn K mainGlobals "is_count" = some (some (.ref f_is_count)))
    {od_is_count an_is_count : Option Addr} {sl_is_count : Array (Option Value)} {oc_is_count kV_is_count dc_is_count pm_is_count cd_is_count ct_is_count : Value}
    (l_is_count : K.lookup f_is_count = some ⟨oc_is_count, od_is_count, .func (PySem.W.fnOf "is_count" "is_count" (defArgs s_is_count) (defBody s_is_count) (defScope s_is_count) .none kV_is_count dc_is_count pm_is_count an_is_count cd_is_count ct_is_count), sl_is_count⟩)
    (c_is_count : PySem.W.codeIn K cd_is_count "is_count" = true)
    (k_is_count : PySem.W.keepIn K (.ref f_is_count) = true)
    (a_all_columns : PySem.W.nsIn K mainGlobals "all_columns" = some (some (.ref f_all_columns)))
    {od_all_columns an_all_columns : Option Addr} {sl_all_columns : Array (Option Value)} {oc_all_columns kV_all_columns dc_all_columns pm_all_columns cd_all_columns ct_all_columns : Value}
    (l_all_columns : K.lookup f_all_columns = some ⟨oc_all_columns, od_all_columns, .func (PySem.W.fnOf "all_columns" "all_columns" (defArgs s_all_columns) (defBody s_all_columns) (defScope s_all_columns) .none kV_all_columns dc_all_columns pm_all_columns an_all_columns cd_all_columns ct_all_columns), sl_all_columns⟩)
    (c_all_columns : PySem.W.codeIn K cd_all_columns "all_columns" = true)
    (k_all_columns : PySem.W.keepIn K (.ref f_all_columns) = true)
    (a_is_set : PySem.W.nsIn K mainGlobals "is_set" = some (some (.ref f_is_set)))
    {od_is_set an_is_set : Option Addr} {sl_is_set : Array (Option Value)} {oc_is_set kV_is_set dc_is_set pm_is_set cd_is_set ct_is_set : Value}
    (l_is_set : K.lookup f_is_set = some ⟨oc_is_set, od_is_set, .func (PySem.W.fnOf "is_set" "is_set" (defArgs s_is_set) (defBody s_is_set) (defScope s_is_set) .none kV_is_set dc_is_set pm_is_set an_is_set cd_is_set ct_is_set), sl_is_set⟩)
    (c_is_set : PySem.W.codeIn K cd_is_set "is_set" = true)
    (k_is_set : PySem.W.keepIn K (.ref f_is_set) = true)
    (a_is_rule : PySem.W.nsIn K mainGlobals "is_rule" = some (some (.ref f_is_rule)))
    {od_is_rule an_is_rule : Option Addr} {sl_is_rule : Array (Option Value)} {oc_is_rule kV_is_rule dc_is_rule pm_is_rule cd_is_rule ct_is_rule : Value}
    (l_is_rule : K.lookup f_is_rule = some ⟨oc_is_rule, od_is_rule, .func (PySem.W.fnOf "is_rule" "is_rule" (defArgs s_is_rule) (defBody s_is_rule) (defScope s_is_rule) .none kV_is_rule dc_is_rule pm_is_rule an_is_rule cd_is_rule ct_is_rule), sl_is_rule⟩)
    (c_is_rule : PySem.W.codeIn K cd_is_rule "is_rule" = true)
    (k_is_rule : PySem.W.keepIn K (.ref f_is_rule) = true)
    (a_are_rules : PySem.W.nsIn K mainGlobals "are_rules" = some (some (.ref f_are_rules)))
    {od_are_rules an_are_rules : Option Addr} {sl_are_rules : Array (Option Value)} {oc_are_rules kV_are_rules dc_are_rules pm_are_rules cd_are_rules ct_are_rules : Value}
    (l_are_rules : K.lookup f_are_rules = some ⟨oc_are_rules, od_are_rules, .func (PySem.W.fnOf "are_rules" "are_rules" (defArgs s_are_rules) (defBody s_are_rules) (defScope s_are_rules) .none kV_are_rules dc_are_rules pm_are_rules an_are_rules cd_are_rules ct_are_rules), sl_are_rules⟩)
    (c_are_rules : PySem.W.codeIn K cd_are_rules "are_rules" = true)
    (k_are_rules : PySem.W.keepIn K (.ref f_are_rules) = true)
    (a_is_row : PySem.W.nsIn K mainGlobals "is_row" = some (some (.ref f_is_row)))
    {od_is_row an_is_row : Option Addr} {sl_is_row : Array (Option Value)} {oc_is_row kV_is_row dc_is_row pm_is_row cd_is_row ct_is_row : Value}
    (l_is_row : K.lookup f_is_row = some ⟨oc_is_row, od_is_row, .func (PySem.W.fnOf "is_row" "is_row" (defArgs s_is_row) (defBody s_is_row) (defScope s_is_row) .none kV_is_row dc_is_row pm_is_row an_is_row cd_is_row ct_is_row), sl_is_row⟩)
    (c_is_row : PySem.W.codeIn K cd_is_row "is_row" = true)
    (k_is_row : PySem.W.keepIn K (.ref f_is_row) = true)
    (a_is_table : PySem.W.nsIn K mainGlobals "is_table" = some (some (.ref f_is_table)))
    {od_is_table an_is_table : Option Addr} {sl_is_table : Array (Option Value)} {oc_is_table kV_is_table dc_is_table pm_is_table cd_is_table ct_is_table : Value}
    (l_is_table : K.lookup f_is_table = some ⟨oc_is_table, od_is_table, .func (PySem.W.fnOf "is_table" "is_table" (defArgs s_is_table) (defBody s_is_table) (defScope s_is_table) .none kV_is_table dc_is_table pm_is_table an_is_table cd_is_table ct_is_table), sl_is_table⟩)
    (c_is_table : PySem.W.codeIn K cd_is_table "is_table" = true)
    (k_is_table : PySem.W.keepIn K (.ref f_is_table) = true)
    (a_are_parts : PySem.W.nsIn K mainGlobals "are_parts" = some (some (.ref f_are_parts)))
    {od_are_parts an_are_parts : Option Addr} {sl_are_parts : Array (Option Value)} {oc_are_parts kV_are_parts dc_are_parts pm_are_parts cd_are_parts ct_are_parts : Value}
    (l_are_parts : K.lookup f_are_parts = some ⟨oc_are_parts, od_are_parts, .func (PySem.W.fnOf "are_parts" "are_parts" (defArgs s_are_parts) (defBody s_are_parts) (defScope s_are_parts) .none kV_are_parts dc_are_parts pm_are_parts an_are_parts cd_are_parts ct_are_parts), sl_are_parts⟩)
    (c_are_parts : PySem.W.codeIn K cd_are_parts "are_parts" = true)
    (k_are_parts : PySem.W.keepIn K (.ref f_are_parts) = true)
    (a_need_table : PySem.W.nsIn K mainGlobals "need_table" = some (some (.ref f_need_table)))
    {od_need_table an_need_table : Option Addr} {sl_need_table : Array (Option Value)} {oc_need_table kV_need_table dc_need_table pm_need_table cd_need_table ct_need_table : Value}
    (l_need_table : K.lookup f_need_table = some ⟨oc_need_table, od_need_table, .func (PySem.W.fnOf "need_table" "need_table" (defArgs s_need_table) (defBody s_need_table) (defScope s_need_table) .none kV_need_table dc_need_table pm_need_table an_need_table cd_need_table ct_need_table), sl_need_table⟩)
    (c_need_table : PySem.W.codeIn K cd_need_table "need_table" = true)
    (k_need_table : PySem.W.keepIn K (.ref f_need_table) = true)
    (a_need_parts : PySem.W.nsIn K mainGlobals "need_parts" = some (some (.ref f_need_parts)))
    {od_need_parts an_need_parts : Option Addr} {sl_need_parts : Array (Option Value)} {oc_need_parts kV_need_parts dc_need_parts pm_need_parts cd_need_parts ct_need_parts : Value}
    (l_need_parts : K.lookup f_need_parts = some ⟨oc_need_parts, od_need_parts, .func (PySem.W.fnOf "need_parts" "need_parts" (defArgs s_need_parts) (defBody s_need_parts) (defScope s_need_parts) .none kV_need_parts dc_need_parts pm_need_parts an_need_parts cd_need_parts ct_need_parts), sl_need_parts⟩)
    (c_need_parts : PySem.W.codeIn K cd_need_parts "need_parts" = true)
    (k_need_parts : PySem.W.keepIn K (.ref f_need_parts) = true)
    (a_cells : PySem.W.nsIn K mainGlobals "cells" = some (some (.ref f_cells)))
    {od_cells an_cells : Option Addr} {sl_cells : Array (Option Value)} {oc_cells kV_cells dc_cells pm_cells cd_cells ct_cells : Value}
    (l_cells : K.lookup f_cells = some ⟨oc_cells, od_cells, .func (PySem.W.fnOf "cells" "cells" (defArgs s_cells) (defBody s_cells) (defScope s_cells) .none kV_cells dc_cells pm_cells an_cells cd_cells ct_cells), sl_cells⟩)
    (c_cells : PySem.W.codeIn K cd_cells "cells" = true)
    (k_cells : PySem.W.keepIn K (.ref f_cells) = true)
    (a_keeps : PySem.W.nsIn K mainGlobals "keeps" = some (some (.ref f_keeps)))
    {od_keeps an_keeps : Option Addr} {sl_keeps : Array (Option Value)} {oc_keeps kV_keeps dc_keeps pm_keeps cd_keeps ct_keeps : Value}
    (l_keeps : K.lookup f_keeps = some ⟨oc_keeps, od_keeps, .func (PySem.W.fnOf "keeps" "keeps" (defArgs s_keeps) (defBody s_keeps) (defScope s_keeps) .none kV_keeps dc_keeps pm_keeps an_keeps cd_keeps ct_keeps), sl_keeps⟩)
    (c_keeps : PySem.W.codeIn K cd_keeps "keeps" = true)
    (k_keeps : PySem.W.keepIn K (.ref f_keeps) = true)
    (a_broken : PySem.W.nsIn K mainGlobals "broken" = some (some (.ref f_broken)))
    {od_broken an_broken : Option Addr} {sl_broken : Array (Option Value)} {oc_broken kV_broken dc_broken pm_broken cd_broken ct_broken : Value}
    (l_broken : K.lookup f_broken = some ⟨oc_broken, od_broken, .func (PySem.W.fnOf "broken" "broken" (defArgs s_broken) (defBody s_broken) (defScope s_broken) .none kV_broken dc_broken pm_broken an_broken cd_broken ct_broken), sl_broken⟩)
    (c_broken : PySem.W.codeIn K cd_broken "broken" = true)
    (k_broken : PySem.W.keepIn K (.ref f_broken) = true)
    (a_joined : PySem.W.nsIn K mainGlobals "joined" = some (some (.ref f_joined)))
    {od_joined an_joined : Option Addr} {sl_joined : Array (Option Value)} {oc_joined kV_joined dc_joined pm_joined cd_joined ct_joined : Value}
    (l_joined : K.lookup f_joined = some ⟨oc_joined, od_joined, .func (PySem.W.fnOf "joined" "joined" (defArgs s_joined) (defBody s_joined) (defScope s_joined) .none kV_joined dc_joined pm_joined an_joined cd_joined ct_joined), sl_joined⟩)
    (c_joined : PySem.W.codeIn K cd_joined "joined" = true)
    (k_joined : PySem.W.keepIn K (.ref f_joined) = true)
    (a_widened : PySem.W.nsIn K mainGlobals "widened" = some (some (.ref f_widened)))
    {od_widened an_widened : Option Addr} {sl_widened : Array (Option Value)} {oc_widened kV_widened dc_widened pm_widened cd_widened ct_widened : Value}
    (l_widened : K.lookup f_widened = some ⟨oc_widened, od_widened, .func (PySem.W.fnOf "widened" "widened" (defArgs s_widened) (defBody s_widened) (defScope s_widened) .none kV_widened dc_widened pm_widened an_widened cd_widened ct_widened), sl_widened⟩)
    (c_widened : PySem.W.codeIn K cd_widened "widened" = true)
    (k_widened : PySem.W.keepIn K (.ref f_widened) = true)
    (a_seen_in : PySem.W.nsIn K mainGlobals "seen_in" = some (some (.ref f_seen_in)))
    {od_seen_in an_seen_in : Option Addr} {sl_seen_in : Array (Option Value)} {oc_seen_in kV_seen_in dc_seen_in pm_seen_in cd_seen_in ct_seen_in : Value}
    (l_seen_in : K.lookup f_seen_in = some ⟨oc_seen_in, od_seen_in, .func (PySem.W.fnOf "seen_in" "seen_in" (defArgs s_seen_in) (defBody s_seen_in) (defScope s_seen_in) .none kV_seen_in dc_seen_in pm_seen_in an_seen_in cd_seen_in ct_seen_in), sl_seen_in⟩)
    (c_seen_in : PySem.W.codeIn K cd_seen_in "seen_in" = true)
    (k_seen_in : PySem.W.keepIn K (.ref f_seen_in) = true)
    (a_Rules_init : PySem.W.findIn K (.ref C_Rules) "__init__" = some (some (.ref f_Rules_init)))
    (i_Rules_init : PySem.W.isFn K (.ref f_Rules_init) = true)
    {od_Rules_init an_Rules_init : Option Addr} {sl_Rules_init : Array (Option Value)} {oc_Rules_init kV_Rules_init dc_Rules_init pm_Rules_init cd_Rules_init ct_Rules_init : Value}
    (l_Rules_init : K.lookup f_Rules_init = some ⟨oc_Rules_init, od_Rules_init, .func (PySem.W.fnOf "__init__" "Rules.__init__" (defArgs s_Rules_init) (defBody s_Rules_init) (defScope s_Rules_init) .none kV_Rules_init dc_Rules_init pm_Rules_init an_Rules_init cd_Rules_init ct_Rules_init), sl_Rules_init⟩)
    (c_Rules_init : PySem.W.codeIn K cd_Rules_init "Rules.__init__" = true)
    (k_Rules_init : PySem.W.keepIn K (.ref f_Rules_init) = true)
    (a_Rules_rules : PySem.W.findIn K (.ref C_Rules) "rules" = some (some (.ref f_Rules_rules)))
    (i_Rules_rules : PySem.W.isFn K (.ref f_Rules_rules) = true)
    {od_Rules_rules an_Rules_rules : Option Addr} {sl_Rules_rules : Array (Option Value)} {oc_Rules_rules kV_Rules_rules dc_Rules_rules pm_Rules_rules cd_Rules_rules ct_Rules_rules : Value}
    (l_Rules_rules : K.lookup f_Rules_rules = some ⟨oc_Rules_rules, od_Rules_rules, .func (PySem.W.fnOf "rules" "Rules.rules" (defArgs s_Rules_rules) (defBody s_Rules_rules) (defScope s_Rules_rules) .none kV_Rules_rules dc_Rules_rules pm_Rules_rules an_Rules_rules cd_Rules_rules ct_Rules_rules), sl_Rules_rules⟩)
    (c_Rules_rules : PySem.W.codeIn K cd_Rules_rules "Rules.rules" = true)
    (k_Rules_rules : PySem.W.keepIn K (.ref f_Rules_rules) = true)
    (a_law_cell_at : PySem.W.nsIn K mainGlobals "_law_cell_at" = some (some (.ref f_law_cell_at)))
    {od_law_cell_at an_law_cell_at : Option Addr} {sl_law_cell_at : Array (Option Value)} {oc_law_cell_at kV_law_cell_at dc_law_cell_at pm_law_cell_at cd_law_cell_at ct_law_cell_at : Value}
    (l_law_cell_at : K.lookup f_law_cell_at = some ⟨oc_law_cell_at, od_law_cell_at, .func (PySem.W.fnOf "_law_cell_at" "_law_cell_at" (defArgs s_law_cell_at) (defBody s_law_cell_at) (defScope s_law_cell_at) .none kV_law_cell_at dc_law_cell_at pm_law_cell_at an_law_cell_at cd_law_cell_at ct_law_cell_at), sl_law_cell_at⟩)
    (c_law_cell_at : PySem.W.codeIn K cd_law_cell_at "_law_cell_at" = true)
    (k_law_cell_at : PySem.W.keepIn K (.ref f_law_cell_at) = true)
    (a_law_draw : PySem.W.nsIn K mainGlobals "_law_draw" = some (some (.ref f_law_draw)))
    {od_law_draw an_law_draw : Option Addr} {sl_law_draw : Array (Option Value)} {oc_law_draw kV_law_draw dc_law_draw pm_law_draw cd_law_draw ct_law_draw : Value}
    (l_law_draw : K.lookup f_law_draw = some ⟨oc_law_draw, od_law_draw, .func (PySem.W.fnOf "_law_draw" "_law_draw" (defArgs s_law_draw) (defBody s_law_draw) (defScope s_law_draw) .none kV_law_draw dc_law_draw pm_law_draw an_law_draw cd_law_draw ct_law_draw), sl_law_draw⟩)
    (c_law_draw : PySem.W.codeIn K cd_law_draw "_law_draw" = true)
    (k_law_draw : PySem.W.keepIn K (.ref f_law_draw) = true)
    (a_law_set : PySem.W.nsIn K mainGlobals "_law_set" = some (some (.ref f_law_set)))
    {od_law_set an_law_set : Option Addr} {sl_law_set : Array (Option Value)} {oc_law_set kV_law_set dc_law_set pm_law_set cd_law_set ct_law_set : Value}
    (l_law_set : K.lookup f_law_set = some ⟨oc_law_set, od_law_set, .func (PySem.W.fnOf "_law_set" "_law_set" (defArgs s_law_set) (defBody s_law_set) (defScope s_law_set) .none kV_law_set dc_law_set pm_law_set an_law_set cd_law_set ct_law_set), sl_law_set⟩)
    (c_law_set : PySem.W.codeIn K cd_law_set "_law_set" = true)
    (k_law_set : PySem.W.keepIn K (.ref f_law_set) = true)
    (a_law_pairs : PySem.W.nsIn K mainGlobals "_law_pairs" = some (some (.ref f_law_pairs)))
    {od_law_pairs an_law_pairs : Option Addr} {sl_law_pairs : Array (Option Value)} {oc_law_pairs kV_law_pairs dc_law_pairs pm_law_pairs cd_law_pairs ct_law_pairs : Value}
    (l_law_pairs : K.lookup f_law_pairs = some ⟨oc_law_pairs, od_law_pairs, .func (PySem.W.fnOf "_law_pairs" "_law_pairs" (defArgs s_law_pairs) (defBody s_law_pairs) (defScope s_law_pairs) .none kV_law_pairs dc_law_pairs pm_law_pairs an_law_pairs cd_law_pairs ct_law_pairs), sl_law_pairs⟩)
    (c_law_pairs : PySem.W.codeIn K cd_law_pairs "_law_pairs" = true)
    (k_law_pairs : PySem.W.keepIn K (.ref f_law_pairs) = true)
    (a_law_like : PySem.W.nsIn K mainGlobals "_law_like" = some (some (.ref f_law_like)))
    {od_law_like an_law_like : Option Addr} {sl_law_like : Array (Option Value)} {oc_law_like kV_law_like dc_law_like pm_law_like cd_law_like ct_law_like : Value}
    (l_law_like : K.lookup f_law_like = some ⟨oc_law_like, od_law_like, .func (PySem.W.fnOf "_law_like" "_law_like" (defArgs s_law_like) (defBody s_law_like) (defScope s_law_like) .none kV_law_like dc_law_like pm_law_like an_law_like cd_law_like ct_law_like), sl_law_like⟩)
    (c_law_like : PySem.W.codeIn K cd_law_like "_law_like" = true)
    (k_law_like : PySem.W.keepIn K (.ref f_law_like) = true)
    (a_law_keeps : PySem.W.nsIn K mainGlobals "_law_keeps" = some (some (.ref f_law_keeps)))
    {od_law_keeps an_law_keeps : Option Addr} {sl_law_keeps : Array (Option Value)} {oc_law_keeps kV_law_keeps dc_law_keeps pm_law_keeps cd_law_keeps ct_law_keeps : Value}
    (l_law_keeps : K.lookup f_law_keeps = some ⟨oc_law_keeps, od_law_keeps, .func (PySem.W.fnOf "_law_keeps" "_law_keeps" (defArgs s_law_keeps) (defBody s_law_keeps) (defScope s_law_keeps) .none kV_law_keeps dc_law_keeps pm_law_keeps an_law_keeps cd_law_keeps ct_law_keeps), sl_law_keeps⟩)
    (c_law_keeps : PySem.W.codeIn K cd_law_keeps "_law_keeps" = true)
    (k_law_keeps : PySem.W.keepIn K (.ref f_law_keeps) = true)
    (a_law_numbers : PySem.W.nsIn K mainGlobals "_law_numbers" = some (some (.ref f_law_numbers)))
    {od_law_numbers an_law_numbers : Option Addr} {sl_law_numbers : Array (Option Value)} {oc_law_numbers kV_law_numbers dc_law_numbers pm_law_numbers cd_law_numbers ct_law_numbers : Value}
    (l_law_numbers : K.lookup f_law_numbers = some ⟨oc_law_numbers, od_law_numbers, .func (PySem.W.fnOf "_law_numbers" "_law_numbers" (defArgs s_law_numbers) (defBody s_law_numbers) (defScope s_law_numbers) .none kV_law_numbers dc_law_numbers pm_law_numbers an_law_numbers cd_law_numbers ct_law_numbers), sl_law_numbers⟩)
    (c_law_numbers : PySem.W.codeIn K cd_law_numbers "_law_numbers" = true)
    (k_law_numbers : PySem.W.keepIn K (.ref f_law_numbers) = true)
    (a_law_table : PySem.W.nsIn K mainGlobals "_law_table" = some (some (.ref f_law_table)))
    {od_law_table an_law_table : Option Addr} {sl_law_table : Array (Option Value)} {oc_law_table kV_law_table dc_law_table pm_law_table cd_law_table ct_law_table : Value}
    (l_law_table : K.lookup f_law_table = some ⟨oc_law_table, od_law_table, .func (PySem.W.fnOf "_law_table" "_law_table" (defArgs s_law_table) (defBody s_law_table) (defScope s_law_table) .none kV_law_table dc_law_table pm_law_table an_law_table cd_law_table ct_law_table), sl_law_table⟩)
    (c_law_table : PySem.W.codeIn K cd_law_table "_law_table" = true)
    (k_law_table : PySem.W.keepIn K (.ref f_law_table) = true)
    (a_law_parts : PySem.W.nsIn K mainGlobals "_law_parts" = some (some (.ref f_law_parts)))
    {od_law_parts an_law_parts : Option Addr} {sl_law_parts : Array (Option Value)} {oc_law_parts kV_law_parts dc_law_parts pm_law_parts cd_law_parts ct_law_parts : Value}
    (l_law_parts : K.lookup f_law_parts = some ⟨oc_law_parts, od_law_parts, .func (PySem.W.fnOf "_law_parts" "_law_parts" (defArgs s_law_parts) (defBody s_law_parts) (defScope s_law_parts) .none kV_law_parts dc_law_parts pm_law_parts an_law_parts cd_law_parts ct_law_parts), sl_law_parts⟩)
    (c_law_parts : PySem.W.codeIn K cd_law_parts "_law_parts" = true)
    (k_law_parts : PySem.W.keepIn K (.ref f_law_parts) = true)
    (a_law_made : PySem.W.nsIn K mainGlobals "_law_made" = some (some (.ref f_law_made)))
    {od_law_made an_law_made : Option Addr} {sl_law_made : Array (Option Value)} {oc_law_made kV_law_made dc_law_made pm_law_made cd_law_made ct_law_made : Value}
    (l_law_made : K.lookup f_law_made = some ⟨oc_law_made, od_law_made, .func (PySem.W.fnOf "_law_made" "_law_made" (defArgs s_law_made) (defBody s_law_made) (defScope s_law_made) .none kV_law_made dc_law_made pm_law_made an_law_made cd_law_made ct_law_made), sl_law_made⟩)
    (c_law_made : PySem.W.codeIn K cd_law_made "_law_made" = true)
    (k_law_made : PySem.W.keepIn K (.ref f_law_made) = true)
    (a_law_all_rows : PySem.W.nsIn K mainGlobals "_law_all_rows" = some (some (.ref f_law_all_rows)))
    {od_law_all_rows an_law_all_rows : Option Addr} {sl_law_all_rows : Array (Option Value)} {oc_law_all_rows kV_law_all_rows dc_law_all_rows pm_law_all_rows cd_law_all_rows ct_law_all_rows : Value}
    (l_law_all_rows : K.lookup f_law_all_rows = some ⟨oc_law_all_rows, od_law_all_rows, .func (PySem.W.fnOf "_law_all_rows" "_law_all_rows" (defArgs s_law_all_rows) (defBody s_law_all_rows) (defScope s_law_all_rows) .none kV_law_all_rows dc_law_all_rows pm_law_all_rows an_law_all_rows cd_law_all_rows ct_law_all_rows), sl_law_all_rows⟩)
    (c_law_all_rows : PySem.W.codeIn K cd_law_all_rows "_law_all_rows" = true)
    (k_law_all_rows : PySem.W.keepIn K (.ref f_law_all_rows) = true)
    (a_law_joined_right : PySem.W.nsIn K mainGlobals "_law_joined_right" = some (some (.ref f_law_joined_right)))
    {od_law_joined_right an_law_joined_right : Option Addr} {sl_law_joined_right : Array (Option Value)} {oc_law_joined_right kV_law_joined_right dc_law_joined_right pm_law_joined_right cd_law_joined_right ct_law_joined_right : Value}
    (l_law_joined_right : K.lookup f_law_joined_right = some ⟨oc_law_joined_right, od_law_joined_right, .func (PySem.W.fnOf "_law_joined_right" "_law_joined_right" (defArgs s_law_joined_right) (defBody s_law_joined_right) (defScope s_law_joined_right) .none kV_law_joined_right dc_law_joined_right pm_law_joined_right an_law_joined_right cd_law_joined_right ct_law_joined_right), sl_law_joined_right⟩)
    (c_law_joined_right : PySem.W.codeIn K cd_law_joined_right "_law_joined_right" = true)
    (k_law_joined_right : PySem.W.keepIn K (.ref f_law_joined_right) = true)
    (a_law : PySem.W.nsIn K mainGlobals "law" = some (some (.ref f_law)))
    {od_law an_law : Option Addr} {sl_law : Array (Option Value)} {oc_law kV_law dc_law pm_law cd_law ct_law : Value}
    (l_law : K.lookup f_law = some ⟨oc_law, od_law, .func (PySem.W.fnOf "law" "law" (defArgs s_law) (defBody s_law) (defScope s_law) .none kV_law dc_law pm_law an_law cd_law ct_law), sl_law⟩)
    (c_law : PySem.W.codeIn K cd_law "law" = true)
    (k_law : PySem.W.keepIn K (.ref f_law) = true)
    (pg_Rules : PySem.W.plainGet K C_Rules Str.empty = true)
    (hd_Rules : PySem.W.hasDictIn K C_Rules = true)
    (po_Rules : PySem.W.plainOver K C_Rules = true)
    (sa_Rules : PySem.W.findIn K (.ref C_Rules) "__setattr__" = some (some (.builtin "object.__setattr__")))
    (mk_Rules : PySem.W.makesIn K C_Rules = true)
    (kc_Rules : PySem.W.keepIn K (.ref C_Rules) = true)
    (na_Rules_columns : PySem.W.findIn K (.ref C_Rules) "columns" = some none)
    (na_Rules_pairs : PySem.W.findIn K (.ref C_Rules) "pairs" = some none)
    (z_all : PySem.W.nsIn K mainGlobals "all" = some none)
    (z_any : PySem.W.nsIn K mainGlobals "any" = some none)
    (z_bool : PySem.W.nsIn K mainGlobals "bool" = some none)
    (z_enumerate : PySem.W.nsIn K mainGlobals "enumerate" = some none)
    (z_int : PySem.W.nsIn K mainGlobals "int" = some none)
    (z_isinstance : PySem.W.nsIn K mainGlobals "isinstance" = some none)
    (z_len : PySem.W.nsIn K mainGlobals "len" = some none)
    (z_list : PySem.W.nsIn K mainGlobals "list" = some none)
    (z_range : PySem.W.nsIn K mainGlobals "range" = some none)
    (z_set : PySem.W.nsIn K mainGlobals "set" = some none)
    (z_sorted : PySem.W.nsIn K mainGlobals "sorted" = some none)
    (z_tuple : PySem.W.nsIn K mainGlobals "tuple" = some none)
    (z_zip : PySem.W.nsIn K mainGlobals "zip" = some none)
    {t_MOST_COLUMNS : Tok} (g_MOST_COLUMNS : PySem.W.nsIn K mainGlobals "MOST_COLUMNS" = some (some (.int 6 t_MOST_COLUMNS)))
    {t_MOST_RULES : Tok} (g_MOST_RULES : PySem.W.nsIn K mainGlobals "MOST_RULES" = some (some (.int 64 t_MOST_RULES)))
    {t_MOST_ROWS : Tok} (g_MOST_ROWS : PySem.W.nsIn K mainGlobals "MOST_ROWS" = some (some (.int 64 t_MOST_ROWS)))
    {t_MOST_NUMBER : Tok} (g_MOST_NUMBER : PySem.W.nsIn K mainGlobals "MOST_NUMBER" = some (some (.int 99 t_MOST_NUMBER)))
    {t_MOST_PARTS : Tok} (g_MOST_PARTS : PySem.W.nsIn K mainGlobals "MOST_PARTS" = some (some (.int 64 t_MOST_PARTS)))
    {t_MOST_ROWS_JOINED : Tok} (g_MOST_ROWS_JOINED : PySem.W.nsIn K mainGlobals "MOST_ROWS_JOINED" = some (some (.int 8 t_MOST_ROWS_JOINED)))
    : ∃ fd : FuncData, (∀ (s : Shared) (v : Value), BindsTo s fd ⟨[v], []⟩ [("_law_script", v)]) ∧ ∀ base : Heap, K.In base → base.Ns mainGlobals mg → FnOk l.prog w K mg base CX0 12 fa fd ["_law_script"] (sp_law K) := by
  have e := hfa.symm.trans (PySem.W.mg_of X G a_law)
  cases e
  have T : Txt K mg ⟨f_is_number, (PySem.W.fnOf "is_number" "is_number" (defArgs s_is_number) (defBody s_is_number) (defScope s_is_number) .none kV_is_number dc_is_number pm_is_number an_is_number cd_is_number ct_is_number), f_is_list, (PySem.W.fnOf "is_list" "is_list" (defArgs s_is_list) (defBody s_is_list) (defScope s_is_list) .none kV_is_list dc_is_list pm_is_list an_is_list cd_is_list ct_is_list), f_is_count, (PySem.W.fnOf "is_count" "is_count" (defArgs s_is_count) (defBody s_is_count) (defScope s_is_count) .none kV_is_count dc_is_count pm_is_count an_is_count cd_is_count ct_is_count), f_all_columns, (PySem.W.fnOf "all_columns" "all_columns" (defArgs s_all_columns) (defBody s_all_columns) (defScope s_all_columns) .none kV_all_columns dc_all_columns pm_all_columns an_all_columns cd_all_columns ct_all_columns), f_is_set, (PySem.W.fnOf "is_set" "is_set" (defArgs s_is_set) (defBody s_is_set) (defScope s_is_set) .none kV_is_set dc_is_set pm_is_set an_is_set cd_is_set ct_is_set), f_is_rule, (PySem.W.fnOf "is_rule" "is_rule" (defArgs s_is_rule) (defBody s_is_rule) (defScope s_is_rule) .none kV_is_rule dc_is_rule pm_is_rule an_is_rule cd_is_rule ct_is_rule), f_are_rules, (PySem.W.fnOf "are_rules" "are_rules" (defArgs s_are_rules) (defBody s_are_rules) (defScope s_are_rules) .none kV_are_rules dc_are_rules pm_are_rules an_are_rules cd_are_rules ct_are_rules), f_is_row, (PySem.W.fnOf "is_row" "is_row" (defArgs s_is_row) (defBody s_is_row) (defScope s_is_row) .none kV_is_row dc_is_row pm_is_row an_is_row cd_is_row ct_is_row), f_is_table, (PySem.W.fnOf "is_table" "is_table" (defArgs s_is_table) (defBody s_is_table) (defScope s_is_table) .none kV_is_table dc_is_table pm_is_table an_is_table cd_is_table ct_is_table), f_are_parts, (PySem.W.fnOf "are_parts" "are_parts" (defArgs s_are_parts) (defBody s_are_parts) (defScope s_are_parts) .none kV_are_parts dc_are_parts pm_are_parts an_are_parts cd_are_parts ct_are_parts), f_need_table, (PySem.W.fnOf "need_table" "need_table" (defArgs s_need_table) (defBody s_need_table) (defScope s_need_table) .none kV_need_table dc_need_table pm_need_table an_need_table cd_need_table ct_need_table), f_need_parts, (PySem.W.fnOf "need_parts" "need_parts" (defArgs s_need_parts) (defBody s_need_parts) (defScope s_need_parts) .none kV_need_parts dc_need_parts pm_need_parts an_need_parts cd_need_parts ct_need_parts), f_cells, (PySem.W.fnOf "cells" "cells" (defArgs s_cells) (defBody s_cells) (defScope s_cells) .none kV_cells dc_cells pm_cells an_cells cd_cells ct_cells), f_keeps, (PySem.W.fnOf "keeps" "keeps" (defArgs s_keeps) (defBody s_keeps) (defScope s_keeps) .none kV_keeps dc_keeps pm_keeps an_keeps cd_keeps ct_keeps), f_broken, (PySem.W.fnOf "broken" "broken" (defArgs s_broken) (defBody s_broken) (defScope s_broken) .none kV_broken dc_broken pm_broken an_broken cd_broken ct_broken), f_joined, (PySem.W.fnOf "joined" "joined" (defArgs s_joined) (defBody s_joined) (defScope s_joined) .none kV_joined dc_joined pm_joined an_joined cd_joined ct_joined), f_widened, (PySem.W.fnOf "widened" "widened" (defArgs s_widened) (defBody s_widened) (defScope s_widened) .none kV_widened dc_widened pm_widened an_widened cd_widened ct_widened), f_seen_in, (PySem.W.fnOf "seen_in" "seen_in" (defArgs s_seen_in) (defBody s_seen_in) (defScope s_seen_in) .none kV_seen_in dc_seen_in pm_seen_in an_seen_in cd_seen_in ct_seen_in), f_Rules_init, (PySem.W.fnOf "__init__" "Rules.__init__" (defArgs s_Rules_init) (defBody s_Rules_init) (defScope s_Rules_init) .none kV_Rules_init dc_Rules_init pm_Rules_init an_Rules_init cd_Rules_init ct_Rules_init), f_Rules_rules, (PySem.W.fnOf "rules" "Rules.rules" (defArgs s_Rules_rules) (defBody s_Rules_rules) (defScope s_Rules_rules) .none kV_Rules_rules dc_Rules_rules pm_Rules_rules an_Rules_rules cd_Rules_rules ct_Rules_rules), f_law_cell_at, (PySem.W.fnOf "_law_cell_at" "_law_cell_at" (defArgs s_law_cell_at) (defBody s_law_cell_at) (defScope s_law_cell_at) .none kV_law_cell_at dc_law_cell_at pm_law_cell_at an_law_cell_at cd_law_cell_at ct_law_cell_at), f_law_draw, (PySem.W.fnOf "_law_draw" "_law_draw" (defArgs s_law_draw) (defBody s_law_draw) (defScope s_law_draw) .none kV_law_draw dc_law_draw pm_law_draw an_law_draw cd_law_draw ct_law_draw), f_law_set, (PySem.W.fnOf "_law_set" "_law_set" (defArgs s_law_set) (defBody s_law_set) (defScope s_law_set) .none kV_law_set dc_law_set pm_law_set an_law_set cd_law_set ct_law_set), f_law_pairs, (PySem.W.fnOf "_law_pairs" "_law_pairs" (defArgs s_law_pairs) (defBody s_law_pairs) (defScope s_law_pairs) .none kV_law_pairs dc_law_pairs pm_law_pairs an_law_pairs cd_law_pairs ct_law_pairs), f_law_like, (PySem.W.fnOf "_law_like" "_law_like" (defArgs s_law_like) (defBody s_law_like) (defScope s_law_like) .none kV_law_like dc_law_like pm_law_like an_law_like cd_law_like ct_law_like), f_law_keeps, (PySem.W.fnOf "_law_keeps" "_law_keeps" (defArgs s_law_keeps) (defBody s_law_keeps) (defScope s_law_keeps) .none kV_law_keeps dc_law_keeps pm_law_keeps an_law_keeps cd_law_keeps ct_law_keeps), f_law_numbers, (PySem.W.fnOf "_law_numbers" "_law_numbers" (defArgs s_law_numbers) (defBody s_law_numbers) (defScope s_law_numbers) .none kV_law_numbers dc_law_numbers pm_law_numbers an_law_numbers cd_law_numbers ct_law_numbers), f_law_table, (PySem.W.fnOf "_law_table" "_law_table" (defArgs s_law_table) (defBody s_law_table) (defScope s_law_table) .none kV_law_table dc_law_table pm_law_table an_law_table cd_law_table ct_law_table), f_law_parts, (PySem.W.fnOf "_law_parts" "_law_parts" (defArgs s_law_parts) (defBody s_law_parts) (defScope s_law_parts) .none kV_law_parts dc_law_parts pm_law_parts an_law_parts cd_law_parts ct_law_parts), f_law_made, (PySem.W.fnOf "_law_made" "_law_made" (defArgs s_law_made) (defBody s_law_made) (defScope s_law_made) .none kV_law_made dc_law_made pm_law_made an_law_made cd_law_made ct_law_made), f_law_all_rows, (PySem.W.fnOf "_law_all_rows" "_law_all_rows" (defArgs s_law_all_rows) (defBody s_law_all_rows) (defScope s_law_all_rows) .none kV_law_all_rows dc_law_all_rows pm_law_all_rows an_law_all_rows cd_law_all_rows ct_law_all_rows), f_law_joined_right, (PySem.W.fnOf "_law_joined_right" "_law_joined_right" (defArgs s_law_joined_right) (defBody s_law_joined_right) (defScope s_law_joined_right) .none kV_law_joined_right dc_law_joined_right pm_law_joined_right an_law_joined_right cd_law_joined_right ct_law_joined_right), fa, (PySem.W.fnOf "law" "law" (defArgs s_law) (defBody s_law) (defScope s_law) .none kV_law dc_law pm_law an_law cd_law ct_law), C_Rules⟩ := by
    constructor
    · exact fun_mk (st := s_is_number) l_is_number c_is_number k_is_number
    · exact (fun_mk (st := s_is_number) l_is_number c_is_number k_is_number).binds (ps := ["value", "least", "most"]) fun _ _ _ _ _ _ us hl => match us, hl with | [_, _, _], _ => rfl
    · exact PySem.W.mg_of X G a_is_number
    · exact fun_mk (st := s_is_list) l_is_list c_is_list k_is_list
    · exact (fun_mk (st := s_is_list) l_is_list c_is_list k_is_list).binds (ps := ["value", "least", "most"]) fun _ _ _ _ _ _ us hl => match us, hl with | [_, _, _], _ => rfl
    · exact PySem.W.mg_of X G a_is_list
    · exact fun_mk (st := s_is_count) l_is_count c_is_count k_is_count
    · exact (fun_mk (st := s_is_count) l_is_count c_is_count k_is_count).binds (ps := ["columns"]) fun _ _ _ _ _ _ us hl => match us, hl with | [_], _ => rfl
    · exact PySem.W.mg_of X G a_is_count
    · exact fun_mk (st := s_all_columns) l_all_columns c_all_columns k_all_columns
    · exact (fun_mk (st := s_all_columns) l_all_columns c_all_columns k_all_columns).binds (ps := ["columns"]) fun _ _ _ _ _ _ us hl => match us, hl with | [_], _ => rfl
    · exact PySem.W.mg_of X G a_all_columns
    · exact fun_mk (st := s_is_set) l_is_set c_is_set k_is_set
    · exact (fun_mk (st := s_is_set) l_is_set c_is_set k_is_set).binds (ps := ["value", "columns"]) fun _ _ _ _ _ _ us hl => match us, hl with | [_, _], _ => rfl
    · exact PySem.W.mg_of X G a_is_set
    · exact fun_mk (st := s_is_rule) l_is_rule c_is_rule k_is_rule
    · exact (fun_mk (st := s_is_rule) l_is_rule c_is_rule k_is_rule).binds (ps := ["value", "columns"]) fun _ _ _ _ _ _ us hl => match us, hl with | [_, _], _ => rfl
    · exact PySem.W.mg_of X G a_is_rule
    · exact fun_mk (st := s_are_rules) l_are_rules c_are_rules k_are_rules
    · exact (fun_mk (st := s_are_rules) l_are_rules c_are_rules k_are_rules).binds (ps := ["value", "columns"]) fun _ _ _ _ _ _ us hl => match us, hl with | [_, _], _ => rfl
    · exact PySem.W.mg_of X G a_are_rules
    · exact fun_mk (st := s_is_row) l_is_row c_is_row k_is_row
    · exact (fun_mk (st := s_is_row) l_is_row c_is_row k_is_row).binds (ps := ["value", "columns"]) fun _ _ _ _ _ _ us hl => match us, hl with | [_, _], _ => rfl
    · exact PySem.W.mg_of X G a_is_row
    · exact fun_mk (st := s_is_table) l_is_table c_is_table k_is_table
    · exact (fun_mk (st := s_is_table) l_is_table c_is_table k_is_table).binds (ps := ["value", "columns"]) fun _ _ _ _ _ _ us hl => match us, hl with | [_, _], _ => rfl
    · exact PySem.W.mg_of X G a_is_table
    · exact fun_mk (st := s_are_parts) l_are_parts c_are_parts k_are_parts
    · exact (fun_mk (st := s_are_parts) l_are_parts c_are_parts k_are_parts).binds (ps := ["value", "columns"]) fun _ _ _ _ _ _ us hl => match us, hl with | [_, _], _ => rfl
    · exact PySem.W.mg_of X G a_are_parts
    · exact fun_mk (st := s_need_table) l_need_table c_need_table k_need_table
    · exact (fun_mk (st := s_need_table) l_need_table c_need_table k_need_table).binds (ps := ["columns", "table"]) fun _ _ _ _ _ _ us hl => match us, hl with | [_, _], _ => rfl
    · exact PySem.W.mg_of X G a_need_table
    · exact fun_mk (st := s_need_parts) l_need_parts c_need_parts k_need_parts
    · exact (fun_mk (st := s_need_parts) l_need_parts c_need_parts k_need_parts).binds (ps := ["columns", "parts"]) fun _ _ _ _ _ _ us hl => match us, hl with | [_, _], _ => rfl
    · exact PySem.W.mg_of X G a_need_parts
    · exact fun_mk (st := s_cells) l_cells c_cells k_cells
    · exact (fun_mk (st := s_cells) l_cells c_cells k_cells).binds (ps := ["row", "some"]) fun _ _ _ _ _ _ us hl => match us, hl with | [_, _], _ => rfl
    · exact PySem.W.mg_of X G a_cells
    · exact fun_mk (st := s_keeps) l_keeps c_keeps k_keeps
    · exact (fun_mk (st := s_keeps) l_keeps c_keeps k_keeps).binds (ps := ["table", "rule"]) fun _ _ _ _ _ _ us hl => match us, hl with | [_, _], _ => rfl
    · exact PySem.W.mg_of X G a_keeps
    · exact fun_mk (st := s_broken) l_broken c_broken k_broken
    · exact (fun_mk (st := s_broken) l_broken c_broken k_broken).binds (ps := ["rules", "table"]) fun _ _ _ _ _ _ us hl => match us, hl with | [_, _], _ => rfl
    · exact PySem.W.mg_of X G a_broken
    · exact fun_mk (st := s_joined) l_joined c_joined k_joined
    · exact (fun_mk (st := s_joined) l_joined c_joined k_joined).binds (ps := ["columns", "table", "parts"]) fun _ _ _ _ _ _ us hl => match us, hl with | [_, _, _], _ => rfl
    · exact PySem.W.mg_of X G a_joined
    · exact fun_mk (st := s_widened) l_widened c_widened k_widened
    · exact (fun_mk (st := s_widened) l_widened c_widened k_widened).binds (ps := ["rows", "column", "table", "parts"]) fun _ _ _ _ _ _ us hl => match us, hl with | [_, _, _, _], _ => rfl
    · exact PySem.W.mg_of X G a_widened
    · exact fun_mk (st := s_seen_in) l_seen_in c_seen_in k_seen_in
    · exact (fun_mk (st := s_seen_in) l_seen_in c_seen_in k_seen_in).binds (ps := ["table", "some"]) fun _ _ _ _ _ _ us hl => match us, hl with | [_, _], _ => rfl
    · exact PySem.W.mg_of X G a_seen_in
    · exact fun_mk (st := s_Rules_init) l_Rules_init c_Rules_init k_Rules_init
    · exact (fun_mk (st := s_Rules_init) l_Rules_init c_Rules_init k_Rules_init).binds (ps := ["self", "columns", "rules"]) fun _ _ _ _ _ _ us hl => match us, hl with | [_, _, _], _ => rfl
    · exact ⟨mk_Rules, a_Rules_init, i_Rules_init, kc_Rules⟩
    · exact fun_mk (st := s_Rules_rules) l_Rules_rules c_Rules_rules k_Rules_rules
    · exact (fun_mk (st := s_Rules_rules) l_Rules_rules c_Rules_rules k_Rules_rules).binds (ps := ["self"]) fun _ _ _ _ _ _ us hl => match us, hl with | [_], _ => rfl
    · exact ⟨a_Rules_rules, i_Rules_rules, k_Rules_rules⟩
    · exact fun_mk (st := s_law_cell_at) l_law_cell_at c_law_cell_at k_law_cell_at
    · exact (fun_mk (st := s_law_cell_at) l_law_cell_at c_law_cell_at k_law_cell_at).binds (ps := ["_law_script", "_law_k"]) fun _ _ _ _ _ _ us hl => match us, hl with | [_, _], _ => rfl
    · exact PySem.W.mg_of X G a_law_cell_at
    · exact fun_mk (st := s_law_draw) l_law_draw c_law_draw k_law_draw
    · exact (fun_mk (st := s_law_draw) l_law_draw c_law_draw k_law_draw).binds (ps := ["_law_cell", "_law_k", "_law_many"]) fun _ _ _ _ _ _ us hl => match us, hl with | [_, _, _], _ => rfl
    · exact PySem.W.mg_of X G a_law_draw
    · exact fun_mk (st := s_law_set) l_law_set c_law_set k_law_set
    · exact (fun_mk (st := s_law_set) l_law_set c_law_set k_law_set).binds (ps := ["_law_cell", "_law_columns"]) fun _ _ _ _ _ _ us hl => match us, hl with | [_, _], _ => rfl
    · exact PySem.W.mg_of X G a_law_set
    · exact fun_mk (st := s_law_pairs) l_law_pairs c_law_pairs k_law_pairs
    · exact (fun_mk (st := s_law_pairs) l_law_pairs c_law_pairs k_law_pairs).binds (ps := ["_law_cell", "_law_columns", "_law_most"]) fun _ _ _ _ _ _ us hl => match us, hl with | [_, _, _], _ => rfl
    · exact PySem.W.mg_of X G a_law_pairs
    · exact fun_mk (st := s_law_like) l_law_like c_law_like k_law_like
    · exact (fun_mk (st := s_law_like) l_law_like c_law_like k_law_like).binds (ps := ["_law_one", "_law_other", "_law_some"]) fun _ _ _ _ _ _ us hl => match us, hl with | [_, _, _], _ => rfl
    · exact PySem.W.mg_of X G a_law_like
    · exact fun_mk (st := s_law_keeps) l_law_keeps c_law_keeps k_law_keeps
    · exact (fun_mk (st := s_law_keeps) l_law_keeps c_law_keeps k_law_keeps).binds (ps := ["_law_table_here", "_law_rule"]) fun _ _ _ _ _ _ us hl => match us, hl with | [_, _], _ => rfl
    · exact PySem.W.mg_of X G a_law_keeps
    · exact fun_mk (st := s_law_numbers) l_law_numbers c_law_numbers k_law_numbers
    · exact (fun_mk (st := s_law_numbers) l_law_numbers c_law_numbers k_law_numbers).binds (ps := ["_law_found", "_law_most"]) fun _ _ _ _ _ _ us hl => match us, hl with | [_, _], _ => rfl
    · exact PySem.W.mg_of X G a_law_numbers
    · exact fun_mk (st := s_law_table) l_law_table c_law_table k_law_table
    · exact (fun_mk (st := s_law_table) l_law_table c_law_table k_law_table).binds (ps := ["_law_cell", "_law_columns"]) fun _ _ _ _ _ _ us hl => match us, hl with | [_, _], _ => rfl
    · exact PySem.W.mg_of X G a_law_table
    · exact fun_mk (st := s_law_parts) l_law_parts c_law_parts k_law_parts
    · exact (fun_mk (st := s_law_parts) l_law_parts c_law_parts k_law_parts).binds (ps := ["_law_cell", "_law_columns"]) fun _ _ _ _ _ _ us hl => match us, hl with | [_, _], _ => rfl
    · exact PySem.W.mg_of X G a_law_parts
    · exact fun_mk (st := s_law_made) l_law_made c_law_made k_law_made
    · exact (fun_mk (st := s_law_made) l_law_made c_law_made k_law_made).binds (ps := ["_law_row", "_law_table_here", "_law_parts_here"]) fun _ _ _ _ _ _ us hl => match us, hl with | [_, _, _], _ => rfl
    · exact PySem.W.mg_of X G a_law_made
    · exact fun_mk (st := s_law_all_rows) l_law_all_rows c_law_all_rows k_law_all_rows
    · exact (fun_mk (st := s_law_all_rows) l_law_all_rows c_law_all_rows k_law_all_rows).binds (ps := ["_law_table_here", "_law_columns"]) fun _ _ _ _ _ _ us hl => match us, hl with | [_, _], _ => rfl
    · exact PySem.W.mg_of X G a_law_all_rows
    · exact fun_mk (st := s_law_joined_right) l_law_joined_right c_law_joined_right k_law_joined_right
    · exact (fun_mk (st := s_law_joined_right) l_law_joined_right c_law_joined_right k_law_joined_right).binds (ps := ["_law_table_here", "_law_parts_here", "_law_columns", "_law_found"]) fun _ _ _ _ _ _ us hl => match us, hl with | [_, _, _, _], _ => rfl
    · exact PySem.W.mg_of X G a_law_joined_right
    · exact fun_mk (st := s_law) l_law c_law k_law
    · exact (fun_mk (st := s_law) l_law c_law k_law).binds (ps := ["_law_script"]) fun _ _ _ _ _ _ us hl => match us, hl with | [_], _ => rfl
    · exact PySem.W.mg_of X G a_law
    · exact ⟨pg_Rules, hd_Rules, po_Rules, sa_Rules⟩
    · exact PySem.W.mg_of X G aC_Rules
    · exact na_Rules_columns
    · exact na_Rules_pairs
    · exact PySem.W.mg_none_of X G z_all
    · exact PySem.W.mg_none_of X G z_any
    · exact PySem.W.mg_none_of X G z_bool
    · exact PySem.W.mg_none_of X G z_enumerate
    · exact PySem.W.mg_none_of X G z_int
    · exact PySem.W.mg_none_of X G z_isinstance
    · exact PySem.W.mg_none_of X G z_len
    · exact PySem.W.mg_none_of X G z_list
    · exact PySem.W.mg_none_of X G z_range
    · exact PySem.W.mg_none_of X G z_set
    · exact PySem.W.mg_none_of X G z_sorted
    · exact PySem.W.mg_none_of X G z_tuple
    · exact PySem.W.mg_none_of X G z_zip
    · exact ⟨_, PySem.W.mg_of X G g_MOST_COLUMNS⟩
    · exact ⟨_, PySem.W.mg_of X G g_MOST_RULES⟩
    · exact ⟨_, PySem.W.mg_of X G g_MOST_ROWS⟩
    · exact ⟨_, PySem.W.mg_of X G g_MOST_NUMBER⟩
    · exact ⟨_, PySem.W.mg_of X G g_MOST_PARTS⟩
    · exact ⟨_, PySem.W.mg_of X G g_MOST_ROWS_JOINED⟩
  exact ⟨_, fun s v => .of_eq rfl, fun base _ _ => ok_law T⟩
theorem walk {l : PySem.W.OpenLaw} {q : Program} {loose : List Str} {XP : (Str → Option Value) → Heap → Prop} {YP : World → Heap → Prop} {d : DefRec} {K : Params → PySem.W.Frag} (hn : l.most = some 63) (hdf : d.params.defaults = [])
    (hY : ∀ (w : World) (h : Heap), YP w h → (K w.params).In h)
    (F : ∀ (w : World) (mg : Str → Option Value) (fa : Addr) (h : Heap), (K w.params).In h → h.Ns mainGlobals mg → mg d.name = some (.ref fa) →
      ∃ fd : FuncData, (∀ (s : Shared) (u : Value), BindsTo s fd ⟨[u], []⟩ [("_law_script", u)]) ∧ ∀ base : Heap, (K w.params).In base → base.Ns mainGlobals mg → FnOk l.prog w (K w.params) mg base CX0 12 fa fd ["_law_script"] (sp_law (K w.params))) :
    PySem.W.WalkO q loose XP YP l.row.toRowW d [] (fun f vs => PySem.call f vs) :=
  L2.walk_of (n := 63) (k := 12) (x := "_law_script") (CX := fun _ => CX0) (sp := fun w => sp_law (K w.params)) hn (by decide) hdf ⟨rfl, by decide, by decide⟩ hY F (fun _ _ a ns hl _ hS => ⟨a, ns, rfl, hS, hl, fun _ => rfl⟩) fun _ _ _ _ _ z => z
end K06
def PySem.W.Fast.tw12828239171662021421 : Unit := ()
def PySem.W.Fast.tw3117762897223634875 : Unit := ()
def PySem.W.Fast.tw5108592129500958241 : Unit := ()
def PySem.W.Fast.tw13386126577083557142 : Unit := ()
def PySem.W.Fast.tw6305198434639142996 : Unit := ()
def PySem.W.Fast.tw8503077353249718355 : Unit := ()
def PySem.W.Fast.tw12013437076598446188 : Unit := ()
def PySem.W.Fast.tw3090854382429860120 : Unit := ()
def PySem.W.Fast.tw636146833343232582 : Unit := ()
def PySem.W.Fast.tw8900920534296935012 : Unit := ()
def PySem.W.Fast.tw16057377504995125770 : Unit := ()
def PySem.W.Fast.tw8564683020788434962 : Unit := ()
def PySem.W.Fast.tw6919741567934630501 : Unit := ()
def PySem.W.Fast.tw235530504934760960 : Unit := ()
def PySem.W.Fast.tw9597999274171343574 : Unit := ()
def PySem.W.Fast.tw17891105349320202620 : Unit := ()
def PySem.W.Fast.tw17863503015604828857 : Unit := ()
def PySem.W.Fast.tw16765125033111168893 : Unit := ()
def PySem.W.Fast.tw11531502589510392972 : Unit := ()
def PySem.W.Fast.tw15621603208653644469 : Unit := ()
def PySem.W.Fast.tw15591825576523226904 : Unit := ()
def PySem.W.Fast.tw12707508325997820198 : Unit := ()
def PySem.W.Fast.tw12810432877834058303 : Unit := ()
def PySem.W.Fast.tw1864378988348628134 : Unit := ()
def PySem.W.Fast.tw12266466809985444839 : Unit := ()
def PySem.W.Fast.tw14207118512111931194 : Unit := ()
def PySem.W.Fast.tw11951697995449637496 : Unit := ()
def PySem.W.Fast.tw4470014461087107503 : Unit := ()
def PySem.W.Fast.tw12410594297858021091 : Unit := ()
def PySem.W.Fast.tw13232940748094154135 : Unit := ()
def PySem.W.Fast.tw4583744383638861054 : Unit := ()
def PySem.W.Fast.tw9089746250059573906 : Unit := ()
def PySem.W.Fast.tw18328267521863144186 : Unit := ()
def PySem.W.Fast.tw8103363927314484574 : Unit := ()
def PySem.W.Fast.tw14788443675322117388 : Unit := ()
def PySem.W.Fast.tw11988540731068079903 : Unit := ()
def PySem.W.Fast.tw16706326642706272262 : Unit := ()
def PySem.W.Fast.tw7285442689653065789 : Unit := ()
def PySem.W.Fast.tw4623521499908987666 : Unit := ()
def PySem.W.Fast.tw5042417174459590880 : Unit := ()
def PySem.W.Fast.tw3500678799052857388 : Unit := ()
def PySem.W.Fast.tw18426224899986711888 : Unit := ()
def PySem.W.Fast.tw6489086195212257751 : Unit := ()
def PySem.W.Fast.tw8775617451218546973 : Unit := ()
def PySem.W.Fast.tw16517086056404798428 : Unit := ()
def PySem.W.Fast.tw3527879966361617472 : Unit := ()
def PySem.W.Fast.tw14544538363158485576 : Unit := ()
def PySem.W.Fast.tw14246449547328961173 : Unit := ()
def PySem.W.Fast.tw4950270804330247026 : Unit := ()
def PySem.W.Fast.tw4079859881964343090 : Unit := ()
def PySem.W.Fast.tw9159190327230620480 : Unit := ()
def PySem.W.Fast.tw6375650632987180673 : Unit := ()
def PySem.W.Fast.tw8543767269447286826 : Unit := ()
def PySem.W.Fast.tw5353289016565730867 : Unit := ()
def PySem.W.Fast.tw15867199632687578237 : Unit := ()
def PySem.W.Fast.tw5166805658269761663 : Unit := ()
def PySem.W.Fast.tw17345347741987343805 : Unit := ()
def PySem.W.Fast.tw2077396279589296683 : Unit := ()
def PySem.W.Fast.tw17463127317234482488 : Unit := ()
def PySem.W.Fast.tw2629232783203649746 : Unit := ()
def PySem.W.Fast.tw3974769826553888283 : Unit := ()
def PySem.W.Fast.tw5990412716132203477 : Unit := ()
def PySem.W.Fast.tw13642281941141102371 : Unit := ()
def PySem.W.Fast.tw8646120435095929528 : Unit := ()
def PySem.W.Fast.tw3180547999895071600 : Unit := ()
def PySem.W.Fast.tw6067072176878993426 : Unit := ()
def PySem.W.Fast.tw2396566826706414598 : Unit := ()
def PySem.W.Fast.tw11065600018855603157 : Unit := ()
def PySem.W.Fast.tw16523675070414128695 : Unit := ()
def PySem.W.Fast.tw10975341059089654790 : Unit := ()
def PySem.W.Fast.tw989012319787275822 : Unit := ()
def PySem.W.Fast.tw1907777248201692379 : Unit := ()
def PySem.W.Fast.tw8511938347879760572 : Unit := ()
def PySem.W.Fast.tw15188364917684555623 : Unit := ()
def PySem.W.Fast.tw13813255957319243103 : Unit := ()
def PySem.W.Fast.tw3445331781339606471 : Unit := ()
def PySem.W.Fast.tw9677722582563716235 : Unit := ()
def PySem.W.Fast.tw15054703499043742617 : Unit := ()
def PySem.W.Fast.tw1746639878749694793 : Unit := ()
def PySem.W.Fast.tw1605072908133638481 : Unit := ()
def PySem.W.Fast.tw6838148941160753707 : Unit := ()
def PySem.W.Fast.tw9469357267226384673 : Unit := ()
def PySem.W.Fast.tw9837734446485312587 : Unit := ()
def PySem.W.Fast.tw18135943502253463212 : Unit := ()
def PySem.W.Fast.tw13812317195097428559 : Unit := ()
def PySem.W.Fast.tw11844673480161271527 : Unit := ()
def PySem.W.Fast.tw8112407762686123996 : Unit := ()
def PySem.W.Fast.tw1610313071404465661 : Unit := ()
def PySem.W.Fast.tw15133649486101930354 : Unit := ()
def PySem.W.Fast.tw15368807022188430804 : Unit := ()
def PySem.W.Fast.tw9313962734538055295 : Unit := ()
def PySem.W.Fast.tw1153263375267328186 : Unit := ()
def PySem.W.Fast.tw2956520645226961954 : Unit := ()
def PySem.W.Fast.tw16022647971945725886 : Unit := ()
def PySem.W.Fast.tw11244464896941360447 : Unit := ()
def PySem.W.Fast.tw8463984944385593299 : Unit := ()
def PySem.W.Fast.tw4058441934206000619 : Unit := ()
def PySem.W.Fast.tw15928179417635561765 : Unit := ()
def PySem.W.Fast.tw1596226989621666878 : Unit := ()
def PySem.W.Fast.tw17978682944916541302 : Unit := ()
def PySem.W.Fast.tw10544658490673453482 : Unit := ()
def PySem.W.Fast.tw10973933076241835240 : Unit := ()
def PySem.W.Fast.tw9374452241843821432 : Unit := ()
def PySem.W.Fast.tw12708016119376585784 : Unit := ()
def PySem.W.Fast.tw1194201820984194376 : Unit := ()
def PySem.W.Fast.tw1316660445036615640 : Unit := ()
def PySem.W.Fast.tw5154077038334181728 : Unit := ()
def PySem.W.Fast.tw542009165914944464 : Unit := ()
def PySem.W.Fast.tw1841873091656719437 : Unit := ()
def PySem.W.Fast.tw1822718808158221574 : Unit := ()
def PySem.W.Fast.tw12792274982133933862 : Unit := ()
def PySem.W.Fast.tw1458580237982558091 : Unit := ()
def PySem.W.Fast.tw5952126845990373630 : Unit := ()
def PySem.W.Fast.tw2265709352510867622 : Unit := ()
def PySem.W.Fast.tw18196651599593801157 : Unit := ()
def PySem.W.Fast.tw7204692005419137758 : Unit := ()
def PySem.W.Fast.tw6834794958401765849 : Unit := ()
def PySem.W.Fast.tw13844351080861149980 : Unit := ()
def PySem.W.Fast.tw9251866562686368463 : Unit := ()
def PySem.W.Fast.tw13518316770250072342 : Unit := ()
def PySem.W.Fast.tw9239844282001536336 : Unit := ()
def PySem.W.Fast.tw2538003299678132612 : Unit := ()
def PySem.W.Fast.tw2498131857912260515 : Unit := ()
def PySem.W.Fast.tw6560297758334346843 : Unit := ()
def PySem.W.Fast.tw7550597007383771606 : Unit := ()
def PySem.W.Fast.tw5628748756851894394 : Unit := ()
def PySem.W.Fast.tw9557429414417222674 : Unit := ()
def PySem.W.Fast.tw7706589552358764167 : Unit := ()
def PySem.W.Fast.tw1512507815889312223 : Unit := ()
def PySem.W.Fast.tw6891176693595723101 : Unit := ()
def PySem.W.Fast.tw11461905645130930003 : Unit := ()
def PySem.W.Fast.tw864586432370837282 : Unit := ()
def PySem.W.Fast.tw7406781627865141458 : Unit := ()
def PySem.W.Fast.tw1810304676765578990 : Unit := ()
def PySem.W.Fast.tw3742593268410718404 : Unit := ()
def PySem.W.Fast.tw11697453609137080385 : Unit := ()
def PySem.W.Fast.tw7200932460296551531 : Unit := ()
def PySem.W.Fast.tw15091894628839481665 : Unit := ()
def PySem.W.Fast.tw10206813843512835455 : Unit := ()
def PySem.W.Fast.tw1660071749035240279 : Unit := ()
def PySem.W.Fast.tw17844746852408484249 : Unit := ()
def PySem.W.Fast.tw4937952096108138193 : Unit := ()
def PySem.W.Fast.tw4981819956904860868 : Unit := ()
def PySem.W.Fast.tw8127765085430942332 : Unit := ()
def PySem.W.Fast.tw10065187317433580541 : Unit := ()
def PySem.W.Fast.tw13776630381115379047 : Unit := ()
def PySem.W.Fast.tw6870116054519180326 : Unit := ()
def PySem.W.Fast.tw9140779829677324326 : Unit := ()
def PySem.W.Fast.tw8062636540597067947 : Unit := ()
def PySem.W.Fast.tw6022903356006954483 : Unit := ()
def PySem.W.Fast.tw5594663304418842292 : Unit := ()
def PySem.W.Fast.tw5188416268279864916 : Unit := ()
def PySem.W.Fast.tw17352947292947534025 : Unit := ()
def PySem.W.Fast.tw226740373214801262 : Unit := ()
def PySem.W.Fast.tw8144522289944425905 : Unit := ()
def PySem.W.Fast.tw10996378979031274551 : Unit := ()
def PySem.W.Fast.tw17259872672024036171 : Unit := ()
def PySem.W.Fast.tw13645361882205065809 : Unit := ()
def PySem.W.Fast.tw8356754077984594311 : Unit := ()
def PySem.W.Fast.tw9519286137293406918 : Unit := ()
def PySem.W.Fast.tw16957162410600917494 : Unit := ()
def PySem.W.Fast.tw3804656245895423631 : Unit := ()
def PySem.W.Fast.tw9319381881747534469 : Unit := ()
def PySem.W.Fast.tw6199360832964343851 : Unit := ()
def PySem.W.Fast.tw17049876642555121484 : Unit := ()
def PySem.W.Fast.tw9508006206372716575 : Unit := ()
def PySem.W.Fast.tw14865738061532110784 : Unit := ()
def PySem.W.Fast.tw16451206769166150738 : Unit := ()
def PySem.W.Fast.tw16707021135047245839 : Unit := ()
def PySem.W.Fast.tw3325097339757470406 : Unit := ()
def PySem.W.Fast.tw16153432891845802107 : Unit := ()
def PySem.W.Fast.tw10797477828168391477 : Unit := ()
def PySem.W.Fast.tw12366054158769660657 : Unit := ()
def PySem.W.Fast.tw3901213782216889787 : Unit := ()
def PySem.W.Fast.tw3986617276471112528 : Unit := ()
def PySem.W.Fast.tw11553339119273834056 : Unit := ()
def PySem.W.Fast.tw13859455824334004235 : Unit := ()
def PySem.W.Fast.tw7270788897844427493 : Unit := ()
def PySem.W.Fast.tw16953331414470138510 : Unit := ()
def PySem.W.Fast.tw8494059761238847107 : Unit := ()
def PySem.W.Fast.tw16455284432665934639 : Unit := ()
def PySem.W.Fast.tw16500423375425941427 : Unit := ()
def PySem.W.Fast.tw6524973878377577740 : Unit := ()
def PySem.W.Fast.tw14807059016274455878 : Unit := ()
def PySem.W.Fast.tw4642908879007093819 : Unit := ()
def PySem.W.Fast.tw14382572595465933729 : Unit := ()
def PySem.W.Fast.tw14987440758910931783 : Unit := ()
def PySem.W.Fast.tw17926986386207742566 : Unit := ()
def PySem.W.Fast.tw5040994380094992937 : Unit := ()
def PySem.W.Fast.tw8519878213158371568 : Unit := ()
def PySem.W.Fast.tw2753650256942499785 : Unit := ()
def PySem.W.Fast.tw3653667361871009693 : Unit := ()
def PySem.W.Fast.tw8877992844626971629 : Unit := ()
def PySem.W.Fast.tw5081370859780947759 : Unit := ()
def PySem.W.Fast.tw17186073283517951279 : Unit := ()
def PySem.W.Fast.tw9053139455273217109 : Unit := ()
def PySem.W.Fast.tw540048982418235629 : Unit := ()
def PySem.W.Fast.tw5123028407417672821 : Unit := ()
def PySem.W.Fast.tw6871150095193999156 : Unit := ()
def PySem.W.Fast.tw5418587068632986329 : Unit := ()
def PySem.W.Fast.tw14618836828458455716 : Unit := ()
def PySem.W.Fast.tw16408567064935688539 : Unit := ()
def PySem.W.Fast.tw14063468057751918272 : Unit := ()
def PySem.W.Fast.tw17176169645389418695 : Unit := ()
def PySem.W.Fast.tw11756307642060107608 : Unit := ()
def PySem.W.Fast.tw12545958917701530427 : Unit := ()
def PySem.W.Fast.tw1342329520858558755 : Unit := ()
def PySem.W.Fast.tw15465360723539416520 : Unit := ()
def PySem.W.Fast.tw10410556986706521209 : Unit := ()
def PySem.W.Fast.tw15804702814670584944 : Unit := ()
def PySem.W.Fast.tw5190390599401169991 : Unit := ()
def PySem.W.Fast.tw3273697249213035022 : Unit := ()
def PySem.W.Fast.tw14387937720840578990 : Unit := ()
def PySem.W.Fast.tw9258892512755827819 : Unit := ()
def PySem.W.Fast.tw3840659369089545905 : Unit := ()
def PySem.W.Fast.tw6239131037818327475 : Unit := ()
def PySem.W.Fast.tw8680839451518213529 : Unit := ()
def PySem.W.Fast.tw10527150769732056888 : Unit := ()
def PySem.W.Fast.tw8036919756488565894 : Unit := ()
def PySem.W.Fast.tw15556415791613116194 : Unit := ()
def PySem.W.Fast.tw9550265407746049847 : Unit := ()
def PySem.W.Fast.tw16012767993513522020 : Unit := ()
def PySem.W.Fast.tw8614247477052692615 : Unit := ()
def PySem.W.Fast.tw11875047195925464370 : Unit := ()
def PySem.W.Fast.tw3698513273586965988 : Unit := ()
def PySem.W.Fast.tw13353858174489565328 : Unit := ()
def PySem.W.Fast.tw11611405557593398532 : Unit := ()
def PySem.W.Fast.tw8827473895151223315 : Unit := ()
def PySem.W.Fast.tw11347812470344287220 : Unit := ()
def PySem.W.Fast.tw8611407504130276907 : Unit := ()
def PySem.W.Fast.tw14911217698002562360 : Unit := ()
def PySem.W.Fast.tw17577735993165710925 : Unit := ()
def PySem.W.Fast.tw5241655878723218403 : Unit := ()
def PySem.W.Fast.tw15036491317607183608 : Unit := ()
def PySem.W.Fast.tw9316535395993096072 : Unit := ()
def PySem.W.Fast.tw18281882447660793118 : Unit := ()
def PySem.W.Fast.tw1323880359867993817 : Unit := ()
def PySem.W.Fast.tw9971631636969289103 : Unit := ()
def PySem.W.Fast.tw1721270610000114685 : Unit := ()
def PySem.W.Fast.tw14275971015465497384 : Unit := ()
def PySem.W.Fast.tw3493477525760165833 : Unit := ()
def PySem.W.Fast.tw12374747351789213572 : Unit := ()
def PySem.W.Fast.tw8086764682621708 : Unit := ()
def PySem.W.Fast.tw9821305483806154773 : Unit := ()
def PySem.W.Fast.tw2458557485036705149 : Unit := ()
def PySem.W.Fast.tw7099426015280067704 : Unit := ()
def PySem.W.Fast.tw10599037225705045710 : Unit := ()
def PySem.W.Fast.tw7720191479207835917 : Unit := ()
def PySem.W.Fast.tw8694846774122018938 : Unit := ()
def PySem.W.Fast.tw17126223886813284269 : Unit := ()
def PySem.W.Fast.tw6445381994476342872 : Unit := ()
def PySem.W.Fast.tw11710215070295233598 : Unit := ()
def PySem.W.Fast.tw12688419902375433734 : Unit := ()
def PySem.W.Fast.tw3034590547738916143 : Unit := ()
def PySem.W.Fast.tw10468699923267650529 : Unit := ()
def PySem.W.Fast.tw8980464133299109755 : Unit := ()
def PySem.W.Fast.tw7491654563960461999 : Unit := ()
def PySem.W.Fast.tw4869301844092936895 : Unit := ()
def PySem.W.Fast.tw7824521726193751189 : Unit := ()
def PySem.W.Fast.tw11004208685378259128 : Unit := ()
def PySem.W.Fast.tw14167292791870773464 : Unit := ()
def PySem.W.Fast.tw7965806045715924820 : Unit := ()
def PySem.W.Fast.tw17390930853965245924 : Unit := ()
open PySem PySem.W PyProof.Rows
set_option maxRecDepth 100000 in
set_option maxHeartbeats 0 in
theorem PySem.Challenge.cw_tellscolumns_k06_tables_holds : PySem.Challenge.rw_tellscolumns_k06_tables.Holds := by
  w_on; o_law; k_head; (case hw => w_witness2)
  k_fill
  refine K06.walk (l := PySem.Challenge.rw_tellscolumns_k06_tables) rfl rfl (fun w h Y => PySem.W.kIn_of Y) ?F
  case F =>
    intro w mg fa h KX G hmg
    refine' K06.all_mk KX G hmg ?aC_Rules ?a_is_number ?l_is_number ?c_is_number ?k_is_number ?a_is_list ?l_is_list ?c_is_list ?k_is_list ?a_is_count ?l_is_count ?c_is_count ?k_is_count ?a_all_columns ?l_all_columns ?c_all_columns ?k_all_columns ?a_is_set ?l_is_set ?c_is_set ?k_is_set ?a_is_rule ?l_is_rule ?c_is_rule ?k_is_rule ?a_are_rules ?l_are_rules ?c_are_rules ?k_are_rules ?a_is_row ?l_is_row ?c_is_row ?k_is_row ?a_is_table ?l_is_table ?c_is_table ?k_is_table ?a_are_parts ?l_are_parts ?c_are_parts ?k_are_parts ?a_need_table ?l_need_table ?c_need_table ?k_need_table ?a_need_parts ?l_need_parts ?c_need_parts ?k_need_parts ?a_cells ?l_cells ?c_cells ?k_cells ?a_keeps ?l_keeps ?c_keeps ?k_keeps ?a_broken ?l_broken ?c_broken ?k_broken ?a_joined ?l_joined ?c_joined ?k_joined ?a_widened ?l_widened ?c_widened ?k_widened ?a_seen_in ?l_seen_in ?c_seen_in ?k_seen_in ?a_Rules_init ?i_Rules_init ?l_Rules_init ?c_Rules_init ?k_Rules_init ?a_Rules_rules ?i_Rules_rules ?l_Rules_rules ?c_Rules_rules ?k_Rules_rules ?a_law_cell_at ?l_law_cell_at ?c_law_cell_at ?k_law_cell_at ?a_law_draw ?l_law_draw ?c_law_draw ?k_law_draw ?a_law_set ?l_law_set ?c_law_set ?k_law_set ?a_law_pairs ?l_law_pairs ?c_law_pairs ?k_law_pairs ?a_law_like ?l_law_like ?c_law_like ?k_law_like ?a_law_keeps ?l_law_keeps ?c_law_keeps ?k_law_keeps ?a_law_numbers ?l_law_numbers ?c_law_numbers ?k_law_numbers ?a_law_table ?l_law_table ?c_law_table ?k_law_table ?a_law_parts ?l_law_parts ?c_law_parts ?k_law_parts ?a_law_made ?l_law_made ?c_law_made ?k_law_made ?a_law_all_rows ?l_law_all_rows ?c_law_all_rows ?k_law_all_rows ?a_law_joined_right ?l_law_joined_right ?c_law_joined_right ?k_law_joined_right ?a_law ?l_law ?c_law ?k_law ?pg_Rules ?hd_Rules ?po_Rules ?sa_Rules ?mk_Rules ?kc_Rules ?na_Rules_columns ?na_Rules_pairs ?z_all ?z_any ?z_bool ?z_enumerate ?z_int ?z_isinstance ?z_len ?z_list ?z_range ?z_set ?z_sorted ?z_tuple ?z_zip ?g_MOST_COLUMNS ?g_MOST_RULES ?g_MOST_ROWS ?g_MOST_NUMBER ?g_MOST_PARTS ?g_MOST_ROWS_JOINED
    (case aC_Rules => k_is)
    (case a_is_number => k_is)
    (case l_is_number => k_is)
    (case c_is_number => k_is)
    (case k_is_number => k_is)
    (case a_is_list => k_is)
    (case l_is_list => k_is)
    (case c_is_list => k_is)
    (case k_is_list => k_is)
    (case a_is_count => k_is)
    (case l_is_count => k_is)
    (case c_is_count => k_is)
    (case k_is_count => k_is)
    (case a_all_columns => k_is)
    (case l_all_columns => k_is)
    (case c_all_columns => k_is)
    (case k_all_columns => k_is)
    (case a_is_set => k_is)
    (case l_is_set => k_is)
    (case c_is_set => k_is)
    (case k_is_set => k_is)
    (case a_is_rule => k_is)
    (case l_is_rule => k_is)
    (case c_is_rule => k_is)
    (case k_is_rule => k_is)
    (case a_are_rules => k_is)
    (case l_are_rules => k_is)
    (case c_are_rules => k_is)
    (case k_are_rules => k_is)
    (case a_is_row => k_is)
    (case l_is_row => k_is)
    (case c_is_row => k_is)
    (case k_is_row => k_is)
    (case a_is_table => k_is)
    (case l_is_table => k_is)
    (case c_is_table => k_is)
    (case k_is_table => k_is)
    (case a_are_parts => k_is)
    (case l_are_parts => k_is)
    (case c_are_parts => k_is)
    (case k_are_parts => k_is)
    (case a_need_table => k_is)
    (case l_need_table => k_is)
    (case c_need_table => k_is)
    (case k_need_table => k_is)
    (case a_need_parts => k_is)
    (case l_need_parts => k_is)
    (case c_need_parts => k_is)
    (case k_need_parts => k_is)
    (case a_cells => k_is)
    (case l_cells => k_is)
    (case c_cells => k_is)
    (case k_cells => k_is)
    (case a_keeps => k_is)
    (case l_keeps => k_is)
    (case c_keeps => k_is)
    (case k_keeps => k_is)
    (case a_broken => k_is)
    (case l_broken => k_is)
    (case c_broken => k_is)
    (case k_broken => k_is)
    (case a_joined => k_is)
    (case l_joined => k_is)
    (case c_joined => k_is)
    (case k_joined => k_is)
    (case a_widened => k_is)
    (case l_widened => k_is)
    (case c_widened => k_is)
    (case k_widened => k_is)
    (case a_seen_in => k_is)
    (case l_seen_in => k_is)
    (case c_seen_in => k_is)
    (case k_seen_in => k_is)
    (case a_Rules_init => k_is)
    (case i_Rules_init => k_is)
    (case l_Rules_init => k_is)
    (case c_Rules_init => k_is)
    (case k_Rules_init => k_is)
    (case a_Rules_rules => k_is)
    (case i_Rules_rules => k_is)
    (case l_Rules_rules => k_is)
    (case c_Rules_rules => k_is)
    (case k_Rules_rules => k_is)
    (case a_law_cell_at => k_is)
    (case l_law_cell_at => k_is)
    (case c_law_cell_at => k_is)
    (case k_law_cell_at => k_is)
    (case a_law_draw => k_is)
    (case l_law_draw => k_is)
    (case c_law_draw => k_is)
    (case k_law_draw => k_is)
    (case a_law_set => k_is)
    (case l_law_set => k_is)
    (case c_law_set => k_is)
    (case k_law_set => k_is)
    (case a_law_pairs => k_is)
    (case l_law_pairs => k_is)
    (case c_law_pairs => k_is)
    (case k_law_pairs => k_is)
    (case a_law_like => k_is)
    (case l_law_like => k_is)
    (case c_law_like => k_is)
    (case k_law_like => k_is)
    (case a_law_keeps => k_is)
    (case l_law_keeps => k_is)
    (case c_law_keeps => k_is)
    (case k_law_keeps => k_is)
    (case a_law_numbers => k_is)
    (case l_law_numbers => k_is)
    (case c_law_numbers => k_is)
    (case k_law_numbers => k_is)
    (case a_law_table => k_is)
    (case l_law_table => k_is)
    (case c_law_table => k_is)
    (case k_law_table => k_is)
    (case a_law_parts => k_is)
    (case l_law_parts => k_is)
    (case c_law_parts => k_is)
    (case k_law_parts => k_is)
    (case a_law_made => k_is)
    (case l_law_made => k_is)
    (case c_law_made => k_is)
    (case k_law_made => k_is)
    (case a_law_all_rows => k_is)
    (case l_law_all_rows => k_is)
    (case c_law_all_rows => k_is)
    (case k_law_all_rows => k_is)
    (case a_law_joined_right => k_is)
    (case l_law_joined_right => k_is)
    (case c_law_joined_right => k_is)
    (case k_law_joined_right => k_is)
    (case a_law => k_is)
    (case l_law => k_is)
    (case c_law => k_is)
    (case k_law => k_is)
    (case pg_Rules => k_is)
    (case hd_Rules => k_is)
    (case po_Rules => k_is)
    (case sa_Rules => k_is)
    (case mk_Rules => k_is)
    (case kc_Rules => k_is)
    (case na_Rules_columns => k_is)
    (case na_Rules_pairs => k_is)
    (case z_all => k_is)
    (case z_any => k_is)
    (case z_bool => k_is)
    (case z_enumerate => k_is)
    (case z_int => k_is)
    (case z_isinstance => k_is)
    (case z_len => k_is)
    (case z_list => k_is)
    (case z_range => k_is)
    (case z_set => k_is)
    (case z_sorted => k_is)
    (case z_tuple => k_is)
    (case z_zip => k_is)
    (case g_MOST_COLUMNS => k_is)
    (case g_MOST_RULES => k_is)
    (case g_MOST_ROWS => k_is)
    (case g_MOST_NUMBER => k_is)
    (case g_MOST_PARTS => k_is)
    (case g_MOST_ROWS_JOINED => k_is)

