import PyProof.Rows.All
import Wide.All
import OpenK.AllK
import Wide.FinOn
import Lean
import PyProof.EqAt
import PyProof.EqKinds
import PyProof.TupleCall
import PySem.Challenge.RW_tellscolumns_k13_texts
import PyProof.Rows.TopTwo
import PyProof.StationsW
import PyProof.ExcClass
import PyProof.RulesAs
import PyProof.Rows.Catch
import PyProof.Rows.SetFrom
import PyProof.Rows.SortShell
import PyProof.CollectIter
import PyProof.ZipIter
import PyProof.Rows.SortWalk
import PyProof.IsRules
import PyProof.MeetsSeq
import PyProof.FactsAll.list_3
import KE.KIntText
import PyProof.Rows.StrSplitJoin
import PyProof.Rows.StrNews
import PyProof.Rows.CallKwBuiltin
import KE.KIsAll
import PyProof.ExcAttrAll.ValueError
import PyProof.ExcArgsOwn
import PyProof.ConsumeWalk
import KE.KSortTup
import PyProof.DictFindH
import PyProof.P3In
import PyProof.WalkInts
import PyProof.SeqI3
import KE.KItemsList
set_option Elab.async false
set_option linter.all false
set_option maxRecDepth 100000
/-! THE HAND LAYER, for ints, bools, texts, own classes, LISTS and tuples (index, slices, in, append, pop ..), calls, loops. Paste it whole ahead of your own text; what your proof does not reach may be deleted. -/
namespace L2
open PySem PySem.Spec PyProof.Rows

/-- a key: an int or a str -/
abbrev Key := Sum Int Str
def keyIs : Key → Value → Bool
  | .inl k, v => Value.isInt k v
  | .inr x, v => Value.isStrOf x v
def keyH (w : World) : Key → Int
  | .inl k => hashInt k
  | .inr x => hashStr w x
theorem keyIs_shape : ∀ {k : Key} {v : Value}, keyIs k v = true → (∃ i t, k = Sum.inl i ∧ v = Value.int i t) ∨ (∃ x t, k = Sum.inr x ∧ v = Value.str x t)
  | .inl i, v, h => by
    obtain ⟨t, e⟩ := Value.isInt_shape (k := i) (v := v) h
    exact .inl ⟨i, t, rfl, e⟩
  | .inr x, v, h => by
    obtain ⟨t, e⟩ := Value.isStrOf_shape (x := x) (v := v) h
    exact .inr ⟨x, t, rfl, e⟩
theorem keyIs_int (i : Int) (t : Tok) : keyIs (.inl i) (.int i t) = true := by simp [keyIs, Value.isInt]
theorem keyIs_str (x : Str) (t : Tok) : keyIs (.inr x) (.str x t) = true := by simp [keyIs, Value.isStrOf]
theorem key_ll (a b : Int) : decide ((Sum.inl a : Key) = Sum.inl b) = (a == b) := by
  by_cases e : a = b
  · subst e; simp
  · have h : ¬ (Sum.inl a : Key) = Sum.inl b := fun q => e (Sum.inl.inj q)
    rw [decide_eq_false h]
    exact (beq_eq_false_iff_ne.mpr e).symm
theorem key_rr (a b : Str) : decide ((Sum.inr a : Key) = Sum.inr b) = decide (a = b) := by
  by_cases e : a = b
  · subst e; simp
  · have h : ¬ (Sum.inr a : Key) = Sum.inr b := fun q => e (Sum.inr.inj q)
    rw [decide_eq_false h, decide_eq_false e]
theorem key_lr (a : Int) (b : Str) : decide ((Sum.inl a : Key) = Sum.inr b) = false := decide_eq_false (fun q => nomatch q)
theorem key_rl (a : Str) (b : Int) : decide ((Sum.inr a : Key) = Sum.inl b) = false := decide_eq_false (fun q => nomatch q)

def mixKind (prog : Program) (w : World) : PySem.KeyKind prog w Key where
  is := keyIs
  hash := keyH w
  inj := fun v a b ha hb => by
    rcases keyIs_shape ha with ⟨i, t, rfl, rfl⟩ | ⟨x, t, rfl, rfl⟩
    · rcases keyIs_shape hb with ⟨j, u, rfl, e⟩ | ⟨y, u, rfl, e⟩
      · injection e with e1 _; rw [e1]
      · exact nomatch e
    · rcases keyIs_shape hb with ⟨j, u, rfl, e⟩ | ⟨y, u, rfl, e⟩
      · exact nomatch e
      · injection e with e1 _; rw [e1]
  byValue := fun k v h => by
    rcases keyIs_shape h with ⟨i, t, rfl, rfl⟩ | ⟨x, t, rfl, rfl⟩ <;> rfl
  pyHash := fun hv h => by
    rcases keyIs_shape hv with ⟨i, t, rfl, rfl⟩ | ⟨x, t, rfl, rfl⟩
    · exact wpAny_pyHash_int h
    · exact wpAny_pyHash_str h
  eqBool := fun hu hv h => by
    rcases keyIs_shape hu with ⟨i, t, rfl, rfl⟩ | ⟨x, t, rfl, rfl⟩
    · rcases keyIs_shape hv with ⟨j, u, rfl, rfl⟩ | ⟨y, u, rfl, rfl⟩
      · rw [key_ll] at h; exact wpAny_eqBool_int h
      · rw [key_lr] at h; exact SeqAt.EqAt.int_str i t y u _ _ _ _ h
    · rcases keyIs_shape hv with ⟨j, u, rfl, rfl⟩ | ⟨y, u, rfl, rfl⟩
      · rw [key_rl] at h; exact SeqAt.EqAt.str_int x t j u _ _ _ _ h
      · rw [key_rr] at h; exact wpAny_eqBool_str h
  «strs» := fun k x t v h => by
    rcases keyIs_shape h with ⟨i, u, rfl, e⟩ | ⟨y, u, rfl, e⟩
    · exact nomatch e
    · injection e with e1 _
      subst e1
      cases v <;> rfl

theorem mixKind_int (prog : Program) (w : World) (i : Int) (t : Tok) : (mixKind prog w).is (.inl i) (.int i t) = true := keyIs_int i t
theorem mixKind_str (prog : Program) (w : World) (x : Str) (t : Tok) : (mixKind prog w).is (.inr x) (.str x t) = true := keyIs_str x t
end L2

namespace L2
open PySem PySem.Spec PyProof.Rows

/-- a value, without the heap -/
inductive V where
  | non | bl (b : Bool) | int (i : Int) | str (x : Str) | byt (b : Array UInt8) | flt (b : UInt64) | ref (a : Addr) | ty (n : String)
  deriving DecidableEq

def RelV : V → Value → Prop
  | .non, u => u = Value.none
  | .bl b, u => u = Value.bool b
  | .int i, u => ∃ t, u = Value.int i t
  | .str x, u => ∃ t, u = Value.str x t
  | .byt b, u => ∃ t, u = Value.bytes b t
  | .flt b, u => ∃ t, u = Value.float b t
  | .ref a, u => u = Value.ref a
  | .ty n, u => u = Value.type n

abbrev Vals : List V → List Value → Prop := Paired RelV
theorem Vals.length {xs : List V} {us : List Value} (r : Vals xs us) : xs.length = us.length := Paired.length r
theorem Vals.get : ∀ {xs : List V} {us : List Value} {i : Nat} {x : V}, Vals xs us → xs[i]? = some x → ∃ u, us[i]? = some u ∧ RelV x u
  | _, _, _, _, .nil, e => by simp at e
  | _, _, 0, _, .cons r _, e => by simp at e; subst e; exact ⟨_, rfl, r⟩
  | _, _, i + 1, x, .cons _ t, e => by
    obtain ⟨u, h1, h2⟩ := Vals.get (i := i) (x := x) t (by simpa using e)
    exact ⟨u, by simpa using h1, h2⟩
theorem Vals.set {x : V} {u : Value} (r : RelV x u) : ∀ {xs : List V} {us : List Value} (i : Nat), Vals xs us → Vals (xs.set i x) (us.set i u)
  | _, _, _, .nil => .nil
  | _, _, 0, .cons _ t => .cons r t
  | _, _, i + 1, .cons q t => .cons q (Vals.set r i t)
theorem Vals.append : ∀ {xs ys : List V} {us ws : List Value}, Vals xs us → Vals ys ws → Vals (xs ++ ys) (us ++ ws)
  | _, _, _, _, .nil, s => s
  | _, _, _, _, .cons r t, s => .cons r (Vals.append t s)
theorem Vals.take : ∀ {xs : List V} {us : List Value} (n : Nat), Vals xs us → Vals (xs.take n) (us.take n)
  | _, _, 0, _ => .nil
  | _, _, _ + 1, .nil => .nil
  | _, _, n + 1, .cons r t => .cons r (Vals.take n t)
theorem Vals.drop : ∀ {xs : List V} {us : List Value} (n : Nat), Vals xs us → Vals (xs.drop n) (us.drop n)
  | _, _, 0, r => r
  | _, _, _ + 1, .nil => .nil
  | _, _, n + 1, .cons _ t => Vals.drop n t
theorem Vals.none_of : ∀ {xs : List V} {us : List Value} {i : Nat}, Vals xs us → xs[i]? = none → us[i]? = none := fun {xs us i} r e => by
  have h1 := r.length
  have h2 : xs.length ≤ i := List.getElem?_eq_none_iff.mp e
  exact List.getElem?_eq_none_iff.mpr (by omega)

def RelO : Option V → Option Value → Prop
  | some v, some u => RelV v u
  | none, none => True
  | _, _ => False
def KV {κ : Type} : List (κ × V) → List (κ × Value) → Prop := Paired fun (p : κ × V) (q : κ × Value) => p.1 = q.1 ∧ RelV p.2 q.2

/-- a key of a dict (00_mix): an int or a text -/
def kV : Key → V
  | .inl i => .int i
  | .inr x => .str x

/-- what stands at a tracked address -/
inductive HO where
  /-- a list -/
  | lst (xs : List V)
  /-- a tuple (never changes) -/
  | tup (xs : List V)
  /-- a dict whose keys are ints and texts; one whose keys are tuples of ints and texts (the empty one is both) -/
  | dK (kvs : List (Key × V)) | dT (kvs : List (List Key × V))
  /-- a set of ints: its members, its size -/
  | set (S : Int → Bool) (n : Nat)
  /-- an instance of the class at C, its dict at dx, its attributes -/
  | ins (C dx : Addr) (fs : List (Str × V))
  /-- the dict of the instance at x -/
  | own (x : Addr)
  /-- the dict of an exception -/
  | xd (fs : List (Str × V))
  /-- a bound method, f of x -/
  | met (f x : Addr)
  /-- a range object lo, lo + 1, .. below hi -/
  | rng (lo hi : Int)
  /-- a thing that is known to the object (the script; a dict while a loop walks it): read, never written while it is so -/
  | frz (o : Obj) (u : HO)
  /-- a code object's table -/
  | tbl (ps : Array Value)
  /-- any other thing, by what is true of its one object (a def of one's own: SetO a S n := HO.ext fun h => ..) -/
  | ext (φ : Heap → Prop)

abbrev Hp := Addr → Option HO
def upd (H : Hp) (a : Addr) (o : HO) : Hp := fun b => if b = a then some o else H b
theorem upd_same {H : Hp} {a : Addr} {o : HO} : upd H a o a = some o := by unfold upd; rw [if_pos rfl]
theorem upd_ne {H : Hp} {a b : Addr} {o : HO} (h : b ≠ a) : upd H a o b = H b := by unfold upd; rw [if_neg h]
/-- two objects of different content stand apart -/
theorem ne_of {H : Hp} {a b : Addr} {o u : HO} (h : H a = some o) (h' : H b = some u) (d : o ≠ u) : a ≠ b := by
  intro e; subst e; rw [h] at h'; exact d (Option.some.inj h')
theorem ne_of_none {H : Hp} {a b : Addr} {o : HO} (h : H a = some o) (h' : H b = none) : a ≠ b := by
  intro e; subst e; rw [h] at h'; cases h'

section
variable (P : Program) (w : World)
def ObjOk (H : Hp) (h : Heap) (a : Addr) : HO → Prop
  | .lst xs => xs.length ≤ sizeLine ∧ ∃ (its : List Value) (n : Nat), Vals xs its ∧ h.get? a = some { cls := .type "list", data := .seq its.toArray n }
  | .tup xs => xs.length ≤ sizeLine ∧ ∃ its : List Value, Vals xs its ∧ IsTup h a its.toArray
  | .dK kvs => kvs.length ≤ sizeLine ∧ (a == sysModules) = false ∧ ∃ vs, KV kvs vs ∧ h.DictOf (mixKind P w) a vs
  | .dT kvs => kvs.length ≤ sizeLine ∧ (a == sysModules) = false ∧ ∃ xs : List (List Key × Addr × Value),
      Paired (fun (p : List Key × V) (q : List Key × Addr × Value) => p.1 = q.1 ∧ H q.2.1 = some (.tup (p.1.map kV)) ∧ RelV p.2 q.2.2) kvs xs ∧
      ∃ o es ep, h.get? a = some o ∧ o.ExactDict ∧ o.data = .dict es ep ∧ es.toList = xs.map (entryOfKey (tupleKind (mixKind P w))) ∧ (xs.map (·.1)).Nodup
  | .set S n => h.SetOf (intKind P w) a S n
  | .ins C dx fs => H dx = some (.own a) ∧ fs.length ≤ 1000 ∧ dx ≠ a ∧ h.get? a = some (PySem.W.instObj C dx) ∧
      ∃ mA, h.Ns1 dx mA ∧ (∀ f, RelO (fs.lookup f) (mA f)) ∧ PySem.Within mA (fs.map (·.1))
  | .own _ => ∃ o, h.get? a = some o
  | .xd fs => ∃ mA, h.Ns1 a mA ∧ ∀ f, RelO (fs.lookup f) (mA f)
  | .rng lo hi => ∃ t u v, h.get? a = some { cls := .type "range", data := .fields #[.int lo t, .int hi u, .int 1 v] }
  | .frz o u => h.get? a = some o ∧ ObjOk H h a u
  | .tbl ps => h.get? a = some { cls := .none, data := .fields ps }
  | .met f x => h.get? a = some (PySem.W.methodObj (.ref f) (.ref x))
  | .ext φ => φ h ∧ (∃ o, h.get? a = some o) ∧ ∀ h1 h2 : Heap, φ h1 → (∀ o, h1.get? a = some o → h2.get? a = some o) → φ h2
/-- the abstract heap is held -/
def HOk (H : Hp) (h : Heap) : Prop := ∀ a o, H a = some o → ObjOk P w H h a o
end

section
variable {P : Program} {w : World} {H H' : Hp} {h h' : Heap} {a : Addr} {o : HO}
theorem ObjOk.lt (x : ObjOk P w H h a o) : a < h.objs.size := by
  cases o with
  | lst xs => obtain ⟨_, _, _, _, e⟩ := x; exact Heap.lt_size e
  | tup xs => obtain ⟨_, _, _, p⟩ := x; exact p.lt
  | dK kvs => obtain ⟨_, _, _, _, o, _, _, e, _⟩ := x; exact Heap.lt_size e
  | dT kvs => obtain ⟨_, _, _, _, o, _, _, e, _⟩ := x; exact Heap.lt_size e
  | set S n => obtain ⟨o, _, _, _, e, _⟩ := x; exact Heap.lt_size e
  | ins C dx fs => obtain ⟨_, _, _, e, _⟩ := x; exact Heap.lt_size e
  | own y => obtain ⟨_, e⟩ := x; exact Heap.lt_size e
  | xd fs => obtain ⟨_, ⟨_, _, _, e, _⟩, _⟩ := x; exact Heap.lt_size e
  | rng lo hi => obtain ⟨_, _, _, e⟩ := x; exact Heap.lt_size e
  | frz ob u => obtain ⟨e, _⟩ := x; exact Heap.lt_size e
  | tbl ps => exact Heap.lt_size (show h.get? a = some _ from x)
  | met f y => exact Heap.lt_size (show h.get? a = some _ from x)
  | ext φ => obtain ⟨_, ⟨_, e⟩, _⟩ := x; exact Heap.lt_size e
theorem Paired.mapP {α β : Type} {F G : α → β → Prop} : ∀ {l₁ : List α} {l₂ : List β}, Paired F l₁ l₂ → (∀ a b, F a b → G a b) → Paired G l₁ l₂
  | _, _, .nil, _ => .nil
  | _, _, .cons r t, f => .cons (f _ _ r) (Paired.mapP t f)
/-- what an object's description leans on: its own object, its own dict, the tuples -/
theorem ObjOk.stay (x : ObjOk P w H h a o) (k : ∀ b u, (b = a ∨ H b = some (.own a)) → h.get? b = some u → h'.get? b = some u)
    (ho : ∀ b, H b = some (.own a) → H' b = some (.own a)) (ht : ∀ b xs, H b = some (.tup xs) → H' b = some (.tup xs)) : ObjOk P w H' h' a o := by
  induction o with
  | lst xs => obtain ⟨z, its, n, r, e⟩ := x; exact ⟨z, its, n, r, k _ _ (.inl rfl) e⟩
  | tup xs => obtain ⟨z, its, r, ob, e, c⟩ := x; exact ⟨z, its, r, ob, k _ _ (.inl rfl) e, c⟩
  | dK kvs => obtain ⟨z, y, vs, r, ob, es, ep, e, c⟩ := x; exact ⟨z, y, vs, r, ob, es, ep, k _ _ (.inl rfl) e, c⟩
  | dT kvs =>
    obtain ⟨z, y, xs, r, ob, es, ep, e, c⟩ := x
    exact ⟨z, y, xs, Paired.mapP r fun p q z => ⟨z.1, ht _ _ z.2.1, z.2.2⟩, ob, es, ep, k _ _ (.inl rfl) e, c⟩
  | set S n => obtain ⟨ob, es, ep, t, e, c⟩ := x; exact ⟨ob, es, ep, t, k _ _ (.inl rfl) e, c⟩
  | ins C dx fs =>
    obtain ⟨d, z, ne, e, mA, ⟨od, es, ep, e2, c⟩, r⟩ := x
    exact ⟨ho _ d, z, ne, k _ _ (.inl rfl) e, mA, ⟨od, es, ep, k _ _ (.inr d) e2, c⟩, r⟩
  | own y => obtain ⟨ob, e⟩ := x; exact ⟨ob, k _ _ (.inl rfl) e⟩
  | xd fs => obtain ⟨mA, ⟨od, es, ep, e, c⟩, r⟩ := x; exact ⟨mA, ⟨od, es, ep, k _ _ (.inl rfl) e, c⟩, r⟩
  | rng lo hi => obtain ⟨t, u, v, e⟩ := x; exact ⟨t, u, v, k _ _ (.inl rfl) e⟩
  | frz ob u ih => obtain ⟨e, q⟩ := x; exact ⟨k _ _ (.inl rfl) e, ih q⟩
  | tbl ps =>
    have e : h.get? a = some { cls := .none, data := .fields ps } := x
    show h'.get? a = some { cls := .none, data := .fields ps }
    exact k a _ (.inl rfl) e
  | met f y =>
    have e : h.get? a = some (PySem.W.methodObj (.ref f) (.ref y)) := x
    show h'.get? a = some (PySem.W.methodObj (.ref f) (.ref y))
    exact k a _ (.inl rfl) e
  | ext φ => obtain ⟨p, ⟨o, e⟩, st⟩ := x; exact ⟨st _ _ p fun o q => k _ _ (.inl rfl) q, ⟨o, k _ _ (.inl rfl) e⟩, st⟩
theorem HOk.lt (x : HOk P w H h) (e : H a = some o) : a < h.objs.size := (x a o e).lt
theorem HOk.fresh (x : HOk P w H h) (e : h.objs.size ≤ a) : H a = none := by
  cases q : H a with
  | none => rfl
  | some u => exact absurd (Nat.lt_of_lt_of_le (x.lt q) e) (Nat.lt_irrefl _)
/-- every object of the heap is kept -/
theorem HOk.kept (x : HOk P w H h) (k : ∀ b u, h.get? b = some u → h'.get? b = some u) : HOk P w H h' := fun a o e =>
  (x a o e).stay (fun b u _ q => k b u q) (fun _ q => q) fun _ _ q => q
/-- a new object is laid and tracked -/
theorem HOk.laid (x : HOk P w H h) (k : ∀ b u, h.get? b = some u → h'.get? b = some u) (hp : h.objs.size ≤ a) (new : ObjOk P w (upd H a o) h' a o) : HOk P w (upd H a o) h' := fun b u e => by
  have hn := x.fresh hp
  by_cases hb : b = a
  · subst hb; rw [upd_same] at e; cases e; exact new
  · rw [upd_ne hb] at e
    exact (x b u e).stay (fun c v _ q => k c v q) (fun c q => by rw [upd_ne (ne_of_none q hn)]; exact q) fun c xs q => by rw [upd_ne (ne_of_none q hn)]; exact q
end

/-- what may be read as u: it is u, or a known u -/
def Rd (H : Hp) (a : Addr) (u : HO) : Prop := H a = some u ∨ ∃ o, H a = some (.frz o u)
theorem Rd.of {H : Hp} {a : Addr} {u : HO} (h : H a = some u) : Rd H a u := .inl h
theorem Rd.ok {P : Program} {w : World} {H : Hp} {h : Heap} {a : Addr} {u : HO} (r : Rd H a u) (x : HOk P w H h) : ObjOk P w H h a u := by
  rcases r with r | ⟨o, r⟩
  · exact x a u r
  · obtain ⟨_, q⟩ := x a _ r
    exact q
/-- what may be written -/
def Mut : Option HO → Prop
  | some (.lst _) => True
  | some (.dK _) => True
  | some (.dT _) => True
  | some (.set _ _) => True
  | some (.ins _ _ _) => True
  | some (.ext _) => True
  | _ => False
section
variable {P : Program} {w : World} {H : Hp} {h h' : Heap} {x e : Addr} {o' : HO}
/-- the object at e is changed: x itself, or the dict of the instance x -/
theorem HOk.write (ok : HOk P w H h) (mu : Mut (H x)) (he : e = x ∨ H e = some (.own x)) (k : ∀ b u, b ≠ e → h.get? b = some u → h'.get? b = some u) (heo : ∃ u, h'.get? e = some u)
    (new : ObjOk P w (upd H x o') h' x o') : HOk P w (upd H x o') h' := fun b u q => by
  have nown : ∀ c y, H c = some (.own y) → c ≠ x := fun c y r z => by subst z; rw [r] at mu; exact mu
  have ntup : ∀ c xs, H c = some (.tup xs) → c ≠ x := fun c xs r z => by subst z; rw [r] at mu; exact mu
  by_cases hb : b = x
  · subst hb; rw [upd_same] at q; cases q; exact new
  · rw [upd_ne hb] at q
    by_cases hbe : b = e
    · have q' : H b = some (.own x) := by
        rcases he with z | z
        · exact absurd (hbe.trans z) hb
        · rw [hbe]; exact z
      rw [q] at q'; cases q'
      obtain ⟨v, hv⟩ := heo
      exact ⟨v, by rw [hbe]; exact hv⟩
    · refine (ok b u q).stay (fun c v hc r => k c v ?_ r) (fun c r => by rw [upd_ne (nown c b r)]; exact r) fun c xs r => by rw [upd_ne (ntup c xs r)]; exact r
      rcases hc with rfl | hc
      · exact hbe
      · rintro rfl
        rcases he with z | z
        · exact nown c b hc z
        · rw [hc] at z; cases z; exact hb rfl
end

/-! ### kept unless tracked; of the frames at fs (the callers') the slots may change (an exception that passes writes there); of the records at ex (iterators) nothing is said -/
structure Un (fs ex : List Addr) (H H' : Hp) (h h' : Heap) : Prop where
  keep : ∀ b o, h.get? b = some o → H b = none → b ∉ fs → b ∉ ex → h'.get? b = some o
  slot : ∀ b o, h.get? b = some o → H b = none → b ∈ fs → b ∉ ex → ∃ sl, h'.get? b = some { o with slots := sl }
  free : ∀ b o, h.get? b = some o → H b = none → b ∉ ex → H' b = none
  there : ∀ b o, h.get? b = some o → b ∉ ex → ∃ o', h'.get? b = some o'
  tups : ∀ b xs, H b = some (.tup xs) → H' b = some (.tup xs)
  frzs : ∀ b o u, H b = some (.frz o u) → H' b = some (.frz o u)
  tbls : ∀ b ps, H b = some (.tbl ps) → ∃ more, H' b = some (.tbl (ps ++ more))
section
variable {fs fs' ex ex' : List Addr} {H H1 H2 : Hp} {h h1 h2 h' : Heap} {a x e : Addr} {o : HO}
theorem Un.any (u : Un fs ex H H1 h h1) {b : Addr} {ob : Obj} (q : h.get? b = some ob) (n : H b = none) (hx : b ∉ ex) : ∃ sl, h1.get? b = some { ob with slots := sl } := by
  by_cases hb : b ∈ fs
  · exact u.slot b ob q n hb hx
  · exact ⟨ob.slots, u.keep b ob q n hb hx⟩
theorem Un.trans (a : Un fs ex H H1 h h1) (b : Un fs ex H1 H2 h1 h2) : Un fs ex H H2 h h2 where
  keep := fun c ob q n hc hx => b.keep c ob (a.keep c ob q n hc hx) (a.free c ob q n hx) hc hx
  slot := fun c ob q n hc hx => by
    obtain ⟨sl, e1⟩ := a.slot c ob q n hc hx
    obtain ⟨sl', e2⟩ := b.slot c _ e1 (a.free c ob q n hx) hc hx
    exact ⟨sl', e2⟩
  free := fun c ob q n hx => by
    obtain ⟨o', e1⟩ := a.there c ob q hx
    exact b.free c o' e1 (a.free c ob q n hx) hx
  there := fun c ob q hx => by
    obtain ⟨o', e1⟩ := a.there c ob q hx
    exact b.there c o' e1 hx
  tups := fun c xs q => b.tups c xs (a.tups c xs q)
  frzs := fun c ob xs q => b.frzs c ob xs (a.frzs c ob xs q)
  tbls := fun c ps q => by
    obtain ⟨m1, e1⟩ := a.tbls c ps q
    obtain ⟨m2, e2⟩ := b.tbls c _ e1
    exact ⟨m1 ++ m2, by rw [e2, Array.append_assoc]⟩
theorem Un.kept (k : ∀ b u, h.get? b = some u → h'.get? b = some u) : Un fs ex H H h h' :=
  ⟨fun b ob q _ _ _ => k b ob q, fun b ob q _ _ _ => ⟨ob.slots, k b ob q⟩, fun _ _ _ n _ => n, fun b ob q _ => ⟨ob, k b ob q⟩, fun _ _ q => q, fun _ _ _ q => q, fun _ ps q => ⟨#[], by rw [q]; simp⟩⟩
theorem Un.refl : Un fs ex H H h h := Un.kept fun _ _ q => q
theorem Un.laid (k : ∀ b u, h.get? b = some u → h'.get? b = some u) (hp : h.objs.size ≤ a) (hn : H a = none) : Un fs ex H (upd H a o) h h' where
  keep := fun b u q _ _ _ => k b u q
  slot := fun b u q _ _ _ => ⟨u.slots, k b u q⟩
  free := fun b u q n _ => by rw [upd_ne (Nat.ne_of_lt (Nat.lt_of_lt_of_le (Heap.lt_size q) hp))]; exact n
  there := fun b u q _ => ⟨u, k b u q⟩
  tups := fun b xs q => by rw [upd_ne (ne_of_none q hn)]; exact q
  frzs := fun b u xs q => by rw [upd_ne (ne_of_none q hn)]; exact q
  tbls := fun b ps q => ⟨#[], by rw [upd_ne (ne_of_none q hn), q]; simp⟩
theorem Un.write (mu : Mut (H x)) (he : e = x ∨ H e = some (.own x)) (k : ∀ b u, b ≠ e → h.get? b = some u → h'.get? b = some u) (heo : ∃ u, h'.get? e = some u) : Un fs ex H (upd H x o) h h' := by
  have hx : ∀ b, H b = none → b ≠ x := fun b n z => by subst z; rw [n] at mu; exact mu
  have hb : ∀ b, H b = none → b ≠ e := fun b n z => by
    subst z
    rcases he with r | r
    · exact hx b n r
    · rw [n] at r; cases r
  have hm : ∀ b u, H b = some u → ¬ Mut (some u) → b ≠ x := fun b u q nm z => by subst z; rw [q] at mu; exact nm mu
  refine ⟨fun b u q n _ _ => k b u (hb b n) q, fun b u q n _ _ => ⟨u.slots, k b u (hb b n) q⟩, fun b u q n _ => by rw [upd_ne (hx b n)]; exact n, fun b u q _ => ?_,
    fun b xs q => by rw [upd_ne (hm b _ q fun z => z)]; exact q, fun b u xs q => by rw [upd_ne (hm b _ q fun z => z)]; exact q, fun b ps q => ⟨#[], by rw [upd_ne (hm b _ q fun z => z), q]; simp⟩⟩
  by_cases hbe : b = e
  · subst hbe; exact heo
  · exact ⟨u, k b u hbe q⟩
theorem Un.mono (u : Un fs ex H H1 h h1) (hs : ∀ b ∈ fs, b ∈ fs') (hx : ∀ b ∈ ex, b ∈ ex') : Un fs' ex' H H1 h h1 :=
  ⟨fun b ob q n hb he => u.keep b ob q n (fun z => hb (hs b z)) fun z => he (hx b z), fun _ _ q n _ he => u.any q n fun z => he (hx _ z), fun b ob q n he => u.free b ob q n fun z => he (hx b z), fun b ob q he => u.there b ob q fun z => he (hx b z), u.tups, u.frzs, u.tbls⟩
end

/-! ### the heap without what is tracked -/
def trk (h : Heap) (H : Hp) : List Addr := (List.range h.objs.size).filter fun a => (H a).isSome
def hidT (h : Heap) (H : Hp) : Heap := PySem.W.hideAll h (trk h H)
theorem hidT_size (h : Heap) (H : Hp) : (hidT h H).objs.size = h.objs.size := PySem.W.hideAll_size _ _
theorem hidT_get {h : Heap} {H : Hp} {b : Addr} {o : Obj} (e : h.get? b = some o) (n : H b = none) : (hidT h H).get? b = some o :=
  PySem.W.hideAll_get _ e fun hm => by
    have q : (H b).isSome = true := (List.mem_filter.mp hm).2
    rw [n] at q; simp at q
theorem of_hidT {h : Heap} {H : Hp} {b : Addr} {o : Obj} (e : (hidT h H).get? b = some o) : h.get? b = some o ∧ H b = none := by
  have e' : h.get? b = some o := PySem.W.of_hideAll (trk h H) e
  refine ⟨e', ?_⟩
  cases q : H b with
  | none => rfl
  | some x =>
    have hm : b ∈ trk h H := List.mem_filter.mpr ⟨List.mem_range.mpr (Heap.lt_size e'), by simp [q]⟩
    have z : (hidT h H).get? b = none := PySem.W.hideAll_none (trk h H) hm
    rw [z] at e; cases e

/-! ### OpenK's ledger, filled with every new object but one -/
def allNews (g h : Heap) (L : Addr) : List (Addr × Obj) := (List.range h.objs.size).filterMap fun a => if a = L ∨ (g.get? a).isSome = true then none else (h.get? a).map fun o => (a, o)
def rest (g h : Heap) (L d : Addr) : List (Addr × Obj) := (allNews g h L).filter fun p => decide (p.1 ≠ d)
end L2

namespace L2
open PySem PySem.Spec PyProof.Rows

/-- the module's facts, over the base: the heap at the law's entry without what is tracked there -/
structure Mod (K : PySem.W.Frag) (mg : Str → Option Value) (base : Heap) : Prop where
  kin : K.In base
  glob : base.Ns mainGlobals mg
  blt : ∃ mb, base.Ns builtinsNs mb ∧ ∀ x : Str, x ≠ "__name__" → mb x = bootBuiltins x
  nolimit : base.NoLimit

/-- the context: a def's body (or a comprehension's block) running. base: fixed through the whole law; s₀, H₀: the entry; outer: the frames whose slots others may change (a def's callers); stack: all frames that run;
   ex: iterators that were made ahead of the entry and are walked here (a comprehension's); fn: the names whose cells were made at the entry (a def: all; a comprehension's block: its own); calm: not within an except suite; pn: pins that every state bears; xe: what is wanted of an exception that leaves the code -/
structure Cx where
  prog : Program
  w : World
  K : PySem.W.Frag
  mg : Str → Option Value
  base : Heap
  A : Around
  N : List Str
  s₀ : Shared
  H₀ : Hp
  env : Env
  outer : List Env
  stack : List Env
  ex : List Addr
  fn : Str → Bool
  calm : Bool
  pn : List (Addr × Obj)
  xe : Value → Shared → Prop
/-- the callers' frames -/
def frs (l : List Env) : List Addr := l.filterMap (·.frame)
abbrev Cx.fs (X : Cx) : List Addr := frs X.outer

def Vis (sc : Scope) (x : Str) : Prop := sc.names.lookup x = some .local ∨ sc.names.lookup x = some .cell ∨ sc.names.lookup x = some .free
def Loc (sc : Scope) (x : Str) : Prop := sc.names.lookup x = some .local ∨ sc.names.lookup x = some .cell
def Look (env : Env) (h : Heap) (m : Str → Option Value) (x : Str) (u : Value) : Prop :=
  (env.kindOf x = some .local ∧ m x = some u) ∨ ((env.kindOf x = some .cell ∨ env.kindOf x = some .free) ∧ ∃ c, env.cells.lookup x = some c ∧ h.IsCell c (some u))

structure Cx.Ok (X : Cx) : Prop where
  mod : Mod X.K X.mg X.base
  kind : X.env.scope.kind = .function
  glob : X.env.globals = mainGlobals
  blt : X.env.builtins = builtinsNs
  above : X.s₀.heap.objs.size ≤ X.env.locals
  inj : ∀ x y c, X.env.cells.lookup x = some c → X.env.cells.lookup y = some c → x = y
  has : ∀ x, (X.env.kindOf x = some .cell ∨ X.env.kindOf x = some .free) → ∃ c, X.env.cells.lookup x = some c
  cab : ∀ x c, X.fn x = true → X.env.cells.lookup x = some c → X.s₀.heap.objs.size ≤ c
  hd : X.calm = true → X.A.handled = none
  frames : X.A.frames = some X.stack
  stk : X.stack = X.outer ∨ (X.stack = X.env :: X.outer ∧ X.env.frame = some X.env.locals)
  exf : ∀ b ∈ X.ex, b ≠ X.env.locals ∧ ∀ x c, X.env.cells.lookup x = some c → c ≠ b
  bs : ∀ b o, X.base.get? b = some o → X.s₀.heap.get? b = some o ∧ X.H₀ b = none
  bsz : X.base.objs.size ≤ X.s₀.heap.objs.size
  noex : ∀ b o, X.base.get? b = some o → b ∉ X.ex
  exfs : ∀ b ∈ X.ex, b ∉ X.fs
  funs : X.s₀.heap.FunFrames X.base X.outer
  frf : ∀ b ∈ X.fs, X.H₀ b = none

structure Inv (X : Cx) (pins : List (Addr × Obj)) (σ : List (Option V)) (H : Hp) (s : Shared) : Prop where
  ok : X.Ok
  os : s.os = X.s₀.os
  bare : AllBare s.gens
  base : Un X.fs X.ex X.H₀ H X.s₀.heap s.heap
  loc : ∃ m, s.heap.Ns X.env.locals m ∧ ∀ (i : Nat) (x : Str) (v : V), X.N[i]? = some x → σ[i]? = some (some v) → Vis X.env.scope x → ∃ u, RelV v u ∧ Look X.env s.heap m x u
  cell : ∀ x c, X.env.cells.lookup x = some c → ∃ v, s.heap.IsCell c v
  free : H X.env.locals = none
  freeC : ∀ x c, X.env.cells.lookup x = some c → H c = none
  pin : ∀ p ∈ X.pn ++ pins, s.heap.get? p.1 = some p.2 ∧ H p.1 = none ∧ p.1 ≠ X.env.locals ∧ p.1 ∉ X.fs ∧ ∀ v, p.2.data ≠ .cell v
  hok : HOk X.prog X.w H s.heap
  len : σ.length = X.N.length

section
variable {X : Cx} {pins : List (Addr × Obj)} {σ : List (Option V)} {H H' : Hp} {s : Shared} {h' : Heap}

theorem Cx.Ok.nofr (ok : X.Ok) {b : Addr} {o : Obj} (e : X.base.get? b = some o) : b ∉ X.fs := fun hb => by
  have := (ok.funs.mem hb).1
  rw [e] at this; cases this
theorem Inv.bs (I : Inv X pins σ H s) : ∀ b o, X.base.get? b = some o → s.heap.get? b = some o ∧ H b = none := fun b o e =>
  ⟨I.base.keep b o (I.ok.bs b o e).1 (I.ok.bs b o e).2 (I.ok.nofr e) (I.ok.noex b o e), I.base.free b o (I.ok.bs b o e).1 (I.ok.bs b o e).2 (I.ok.noex b o e)⟩
theorem Inv.bk (I : Inv X pins σ H s) : ∀ b o, X.base.get? b = some o → s.heap.get? b = some o := fun b o e => (I.bs b o e).1
theorem Inv.mod (I : Inv X pins σ H s) : Mod X.K X.mg X.base := I.ok.mod
theorem Inv.kIn (I : Inv X pins σ H s) : X.K.In s.heap := I.ok.mod.kin.keeps I.bk
theorem Inv.nolimit (I : Inv X pins σ H s) : s.heap.NoLimit := I.ok.mod.nolimit.keeps I.bk
/-- the frame over the base: for OpenK's rules (K.In X.base is I.mod.kin) -/
theorem Inv.fr (I : Inv X pins σ H s) : ∃ m, Fr X.base X.env.locals s.heap m :=
  let ⟨m, hn, _⟩ := I.loc
  ⟨m, hn, I.bk, Nat.le_trans I.ok.bsz I.ok.above⟩
theorem Inv.lt (I : Inv X pins σ H s) : X.env.locals < s.heap.objs.size := let ⟨_, hn, _⟩ := I.loc; hn.lt
theorem Inv.sz (I : Inv X pins σ H s) : X.s₀.heap.objs.size ≤ s.heap.objs.size := Nat.le_trans I.ok.above (Nat.le_of_lt I.lt)
theorem Inv.nofs (I : Inv X pins σ H s) {a : Addr} (h : s.heap.objs.size ≤ a) : a ∉ X.fs := fun hb => by
  obtain ⟨_, o, ho, _⟩ := I.ok.funs.mem hb
  exact absurd (Nat.lt_of_lt_of_le (Heap.lt_size ho) (Nat.le_trans I.sz h)) (Nat.lt_irrefl _)
theorem Inv.cne (I : Inv X pins σ H s) : ∀ x c, X.env.cells.lookup x = some c → c ≠ X.env.locals := fun x c e z => by
  obtain ⟨v, o, ho, hd⟩ := I.cell x c e
  obtain ⟨m, ⟨o', es, ep, ho', hd', _⟩, _⟩ := I.loc
  rw [z, ho'] at ho; cases ho; rw [hd'] at hd; cases hd
theorem Inv.funs (I : Inv X pins σ H s) : s.heap.FunFrames X.base X.outer := by
  have all : ∀ (l : List Env), (∀ b ∈ frs l, b ∈ X.fs) → X.s₀.heap.FunFrames X.base l → s.heap.FunFrames X.base l := by
    intro l
    induction l with
    | nil => intro _ _; trivial
    | cons env r ih =>
      intro hs hl
      obtain ⟨hk, ⟨L, o, hf, hn, ho, hd⟩, hr⟩ := hl
      have hL : L ∈ X.fs := hs L (by unfold frs; rw [List.filterMap_cons, hf]; exact List.mem_cons_self)
      obtain ⟨sl, e⟩ := I.base.slot L o ho (I.ok.frf L hL) hL fun z => I.ok.exfs L z hL
      exact ⟨hk, ⟨L, _, hf, hn, e, hd⟩, ih (fun b hb => hs b (by unfold frs; rw [List.filterMap_cons, hf]; exact List.mem_cons_of_mem _ hb)) hr⟩
  exact all X.outer (fun _ hb => hb) I.ok.funs

/-- the frames that run, for a call -/
theorem Inv.stack (I : Inv X pins σ H s) : s.heap.FunFrames X.base X.stack := by
  rcases I.ok.stk with e | ⟨e, hf⟩
  · rw [e]; exact I.funs
  · rw [e]
    obtain ⟨m, hn, _⟩ := I.loc
    refine .cons (by rw [I.ok.kind]; decide) hf hn ?_ I.funs
    exact Heap.get?_none_of_le (Nat.le_trans I.ok.bsz I.ok.above)
theorem Inv.stkSub (I : Inv X pins σ H s) : ∀ b ∈ frs X.stack, b ∈ X.env.locals :: X.fs := fun b hb => by
  rcases I.ok.stk with e | ⟨e, hf⟩
  · rw [e] at hb; exact List.mem_cons_of_mem _ hb
  · rw [e] at hb
    unfold frs at hb
    rw [List.filterMap_cons, hf] at hb
    exact hb
theorem Inv.stkFree (I : Inv X pins σ H s) : ∀ b ∈ frs X.stack, H b = none := fun b hb => by
  rcases List.mem_cons.mp (I.stkSub b hb) with e | hb
  · rw [e]; exact I.free
  · obtain ⟨_, o, ho, _⟩ := I.ok.funs.mem hb
    exact I.base.free b o ho (I.ok.frf b hb) fun z => I.ok.exfs b z hb

/-- THE STEP: the untracked objects but the frame and the records at ch are kept (the callers' frames up to slots), the frame's map is kept, the new abstract heap is held -/
theorem Inv.step {g' : Array GenState} {t' : Nat} {d' : Drawn} {ch : List Addr} (I : Inv X pins σ H s)
    (hch : ∀ b ∈ ch, (b ∈ X.ex ∨ X.s₀.heap.objs.size ≤ b) ∧ b ≠ X.env.locals ∧ (∀ x c, X.env.cells.lookup x = some c → c ≠ b) ∧ ∀ p ∈ X.pn ++ pins, p.1 ≠ b)
    (keep : ∀ b o, b ≠ X.env.locals → b ∉ X.fs → b ∉ ch → s.heap.get? b = some o → H b = none → h'.get? b = some o)
    (slot : ∀ b o, b ≠ X.env.locals → b ∈ X.fs → b ∉ ch → s.heap.get? b = some o → H b = none → ∃ sl, h'.get? b = some { o with slots := sl }) (free : ∀ b o, b ∉ ch → s.heap.get? b = some o → H b = none → H' b = none)
    (there : ∀ b o, b ∉ ch → s.heap.get? b = some o → ∃ o', h'.get? b = some o')
    (tups : ∀ b xs, H b = some (.tup xs) → H' b = some (.tup xs)) (frzs : ∀ b o u, H b = some (.frz o u) → H' b = some (.frz o u)) (tbls : ∀ b ps, H b = some (.tbl ps) → ∃ more, H' b = some (.tbl (ps ++ more)))
    (ns : ∀ m, s.heap.Ns X.env.locals m → h'.Ns X.env.locals m) (hok : HOk X.prog X.w H' h') (hg : AllBare g') :
    Inv X pins σ H' { s with heap := h', gens := g', drawn := d', toks := t' } := by
  have neL : ∀ b o, X.s₀.heap.get? b = some o → b ≠ X.env.locals := fun b o e => Nat.ne_of_lt (Nat.lt_of_lt_of_le (Heap.lt_size e) I.ok.above)
  have neC : ∀ b o, X.s₀.heap.get? b = some o → b ∉ X.ex → b ∉ ch := fun b o e hx hb => by
    rcases (hch b hb).1 with z | z
    · exact hx z
    · exact absurd (Nat.lt_of_lt_of_le (Heap.lt_size e) z) (Nat.lt_irrefl _)
  have cellK : ∀ x c, X.env.cells.lookup x = some c → ∀ v, s.heap.IsCell c v → h'.IsCell c v := fun x c e v ⟨o, ho, hd⟩ => by
    have nch : c ∉ ch := fun z => (hch c z).2.2.1 x c e rfl
    by_cases hc : c ∈ X.fs
    · obtain ⟨sl, q⟩ := slot c o (I.cne x c e) hc nch ho (I.freeC x c e)
      exact ⟨_, q, hd⟩
    · exact ⟨o, keep c o (I.cne x c e) hc nch ho (I.freeC x c e), hd⟩
  refine ⟨I.ok, I.os, hg, ⟨fun b o e n hb hx => ?_, fun b o e n hb hx => ?_, fun b o e n hx => ?_, fun b o e hx => ?_, fun b xs e => tups b xs (I.base.tups b xs e), fun b o xs e => frzs b o xs (I.base.frzs b o xs e), fun b ps e => ?_⟩, ?_, fun x c e => ?_, ?_, fun x c e => ?_, fun p hp => ?_, hok, I.len⟩
  · exact keep b o (neL b o e) hb (neC b o e hx) (I.base.keep b o e n hb hx) (I.base.free b o e n hx)
  · obtain ⟨sl, e1⟩ := I.base.slot b o e n hb hx
    obtain ⟨sl', e2⟩ := slot b _ (neL b o e) hb (neC b o e hx) e1 (I.base.free b o e n hx)
    exact ⟨sl', e2⟩
  · obtain ⟨o', e1⟩ := I.base.there b o e hx
    exact free b o' (neC b o e hx) e1 (I.base.free b o e n hx)
  · obtain ⟨o', e1⟩ := I.base.there b o e hx
    exact there b o' (neC b o e hx) e1
  · obtain ⟨m1, e1⟩ := I.base.tbls b ps e
    obtain ⟨m2, e2⟩ := tbls b _ e1
    exact ⟨m1 ++ m2, by rw [e2, Array.append_assoc]⟩
  · obtain ⟨m, hn, hl⟩ := I.loc
    refine ⟨m, ns m hn, fun i x v e1 e2 e3 => ?_⟩
    obtain ⟨u, r, l⟩ := hl i x v e1 e2 e3
    refine ⟨u, r, ?_⟩
    rcases l with l | ⟨k, c, e, z⟩
    · exact .inl l
    · exact .inr ⟨k, c, e, cellK x c e _ z⟩
  · obtain ⟨v, z⟩ := I.cell x c e
    exact ⟨v, cellK x c e v z⟩
  · obtain ⟨m, ⟨o, _, _, ho, _⟩, _⟩ := I.loc
    exact free _ o (fun z => (hch _ z).2.1 rfl) ho I.free
  · obtain ⟨v, o, ho, hd⟩ := I.cell x c e
    exact free c o (fun z => (hch c z).2.2.1 x c e rfl) ho (I.freeC x c e)
  · obtain ⟨e, n, ne, nf, d⟩ := I.pin p hp
    have nch : p.1 ∉ ch := fun z => (hch p.1 z).2.2.2 p hp rfl
    exact ⟨keep p.1 p.2 ne nf nch e n, free p.1 p.2 nch e n, ne, nf, d⟩
/-- .. where the frame's own object is kept too -/
theorem Inv.un {t' : Nat} (I : Inv X pins σ H s) (u : Un X.fs [] H H' s.heap h') (hok : HOk X.prog X.w H' h') : Inv X pins σ H' { s with heap := h', toks := t' } := by
  obtain ⟨m, ⟨o, es, ep, ho, r⟩, _⟩ := id I.loc
  obtain ⟨sl, hL⟩ := u.any ho I.free (by simp)
  exact I.step (g' := s.gens) (d' := s.drawn) (ch := []) (fun _ z => nomatch z) (fun b o _ hb _ e n => u.keep b o e n hb (by simp)) (fun b o _ hb _ e n => u.slot b o e n hb (by simp)) (fun b o _ e n => u.free b o e n (by simp)) (fun b o _ e => u.there b o e (by simp)) u.tups u.frzs u.tbls (fun m' hm => by
    obtain ⟨o', es', ep', ho', r'⟩ := hm
    rw [ho] at ho'; cases ho'
    exact ⟨_, es', ep', hL, r'⟩) hok I.bare
/-- behind a call (or a comprehension's block): the slots of this frame may have changed too, the records at ch may have turned -/
theorem Inv.call {g' : Array GenState} {t' : Nat} {d' : Drawn} {ch : List Addr} (I : Inv X pins σ H s) (u : Un (frs X.stack) ch H H' s.heap h') (hok : HOk X.prog X.w H' h') (hg : AllBare g')
    (hch : ∀ b ∈ ch, (b ∈ X.ex ∨ X.s₀.heap.objs.size ≤ b) ∧ b ≠ X.env.locals ∧ (∀ x c, X.env.cells.lookup x = some c → c ≠ b) ∧ ∀ p ∈ X.pn ++ pins, p.1 ≠ b) :
    Inv X pins σ H' { s with heap := h', gens := g', drawn := d', toks := t' } := by
  obtain ⟨m, ⟨o, es, ep, ho, r⟩, _⟩ := id I.loc
  obtain ⟨sl, hL⟩ := u.any ho I.free fun z => (hch _ z).2.1 rfl
  exact I.step (ch := ch) hch (fun b o hL hb hc e n => u.keep b o e n (fun z => (List.mem_cons.mp (I.stkSub b z)).elim hL hb) hc) (fun b o _ _ hc e n => u.any e n hc) (fun b o hc e n => u.free b o e n hc) (fun b o hc e => u.there b o e hc) u.tups u.frzs u.tbls (fun m' hm => by
    obtain ⟨o', es', ep', ho', r'⟩ := hm
    rw [ho] at ho'; cases ho'
    exact ⟨_, es', ep', hL, r'⟩) hok hg
/-- an untracked record of ours (an iterator) has turned -/
theorem Inv.turned {t' : Nat} {it : Addr} (I : Inv X pins σ H s) (k : ∀ b o, b ≠ it → s.heap.get? b = some o → h'.get? b = some o) (hn : H it = none) (hL : it ≠ X.env.locals)
    (h1 : it ∈ X.ex ∨ X.s₀.heap.objs.size ≤ it) (h2 : ∀ x c, X.env.cells.lookup x = some c → c ≠ it) (h3 : ∀ p ∈ X.pn ++ pins, p.1 ≠ it) : Inv X pins σ H { s with heap := h', toks := t' } := by
  have nit : ∀ b u, H b = some u → b ≠ it := fun b u e z => by rw [z, hn] at e; cases e
  refine I.step (g' := s.gens) (d' := s.drawn) (ch := [it]) (fun b hb => ?_) (fun b o _ _ hc e _ => k b o (fun z => hc (by simp [z])) e) (fun b o _ _ hc e _ => ⟨o.slots, k b o (fun z => hc (by simp [z])) e⟩) (fun _ _ _ _ n => n)
    (fun b o hc e => ⟨o, k b o (fun z => hc (by simp [z])) e⟩) (fun _ _ e => e) (fun _ _ _ e => e) (fun b ps e => ⟨#[], by rw [e]; simp⟩) (fun m hm => ?_) (fun b u e => ?_) I.bare
  · have e : b = it := by simpa using hb
    subst e
    exact ⟨h1, hL, h2, h3⟩
  · obtain ⟨o, es, ep, ho, r⟩ := hm
    exact ⟨o, es, ep, k _ o (Ne.symm hL) ho, r⟩
  · refine (I.hok b u e).stay (fun c v hc q => k c v ?_ q) (fun _ q => q) fun _ _ q => q
    rcases hc with z | z
    · rw [z]; exact nit b u e
    · exact nit c _ z
theorem Inv.tok (I : Inv X pins σ H s) (t : Nat) : Inv X pins σ H { s with toks := t } := I.un (h' := s.heap) (t' := t) Un.refl I.hok
/-- all objects kept -/
theorem Inv.kept {t' : Nat} (I : Inv X pins σ H s) (k : ∀ b u, s.heap.get? b = some u → h'.get? b = some u) : Inv X pins σ H { s with heap := h', toks := t' } := I.un (Un.kept k) (I.hok.kept k)
/-- a new object laid and tracked -/
theorem Inv.laid {a : Addr} {o : HO} {t' : Nat} (I : Inv X pins σ H s) (k : ∀ b u, s.heap.get? b = some u → h'.get? b = some u) (hp : s.heap.objs.size ≤ a) (new : ObjOk X.prog X.w (upd H a o) h' a o) :
    Inv X pins σ (upd H a o) { s with heap := h', toks := t' } := I.un (Un.laid k hp (I.hok.fresh hp)) (I.hok.laid k hp new)
/-- an object written -/
theorem Inv.write {x e : Addr} {o : HO} {t' : Nat} (I : Inv X pins σ H s) (mu : Mut (H x)) (he : e = x ∨ H e = some (.own x)) (k : ∀ b u, b ≠ e → s.heap.get? b = some u → h'.get? b = some u) (heo : ∃ u, h'.get? e = some u)
    (new : ObjOk X.prog X.w (upd H x o) h' x o) : Inv X pins σ (upd H x o) { s with heap := h', toks := t' } := I.un (Un.write mu he k heo) (I.hok.write mu he k heo new)
theorem Inv.pins_of {pins' : List (Addr × Obj)} (I : Inv X pins σ H s) (h : ∀ p ∈ pins', s.heap.get? p.1 = some p.2 ∧ H p.1 = none ∧ p.1 ≠ X.env.locals ∧ p.1 ∉ X.fs ∧ ∀ v, p.2.data ≠ .cell v) : Inv X pins' σ H s :=
  ⟨I.ok, I.os, I.bare, I.base, I.loc, I.cell, I.free, I.freeC, fun p hp => (List.mem_append.mp hp).elim (fun z => I.pin p (List.mem_append_left _ z)) (h p), I.hok, I.len⟩

theorem nodup_ix {N : List Str} (hN : N.Nodup) {i j : Nat} {x : Str} (a : N[i]? = some x) (b : N[j]? = some x) : i = j := by
  obtain ⟨h1, e1⟩ := List.getElem?_eq_some_iff.mp a
  obtain ⟨h2, e2⟩ := List.getElem?_eq_some_iff.mp b
  exact (List.getElem_inj hN).mp (e1.trans e2.symm)

/-- a name is stored; what changed -/
theorem store_ok2 {M : Model} {A : Around} {E : Value → Shared → Prop} {i : Nat} {x : Str} {v : V} {u : Value} {Q : Unit → Shared → Prop} (I : Inv X pins σ H s) (hN : X.N.Nodup) (hi : X.N[i]? = some x) (hx : Loc X.env.scope x) (r : RelV v u)
    (h : ∀ s', Inv X pins (σ.set i (some v)) H s' → (∃ a, Heap.SameBut a s.heap s'.heap ∧ (a = X.env.locals ∨ X.env.cells.lookup x = some a)) → Q () s') (hf : X.fn x = true ∨ X.env.scope.names.lookup x = some .local := by first | exact .inl rfl | exact .inr rfl | assumption) : wpAny M A (storeName X.env x u) Q E s := by
  obtain ⟨m, hn, hl⟩ := id I.loc
  have hcls : (X.env.scope.kind == .class || (X.env.scope.kind == .module && X.env.locals != X.env.globals)) = false := by rw [I.ok.kind]; rfl
  have hiσ : i < σ.length := by rw [I.len]; exact (List.getElem?_eq_some_iff.mp hi).1
  have cne := I.cne
  have tracked : ∀ {a : Addr} {h' : Heap}, (∃ o, s.heap.get? a = some o ∧ H a = none) → Heap.SameBut a s.heap h' → HOk X.prog X.w H h' := fun {a h'} ha hs b ob e => by
    obtain ⟨_, _, hfree⟩ := ha
    refine (I.hok b ob e).stay (fun c w' hc q => (hs.2 c ?_).trans q) (fun _ q => q) fun _ _ q => q
    rintro rfl
    rcases hc with rfl | hc
    · rw [hfree] at e; cases e
    · rw [hfree] at hc; cases hc
  rcases hx with hk | hk
  · refine wpAny_storeName_local hk hn (fun h' hn' hs => ?_) hcls
    obtain ⟨oL, _, _, hoL, _⟩ := id hn
    refine h _ ⟨I.ok, I.os, I.bare, ⟨fun b o e n hb hx => ?_, fun b o e n hb hx => ?_, I.base.free, fun b o e hx => ?_, I.base.tups, I.base.frzs, I.base.tbls⟩, ⟨_, hn', fun j y v' e1 e2 e3 => ?_⟩, fun y c e => ?_, I.free, I.freeC, fun p hp => ?_, tracked ⟨oL, hoL, I.free⟩ hs, by simpa using I.len⟩ ⟨_, hs, .inl rfl⟩
    · exact (hs.2 b (Nat.ne_of_lt (Nat.lt_of_lt_of_le (Heap.lt_size e) I.ok.above))).trans (I.base.keep b o e n hb hx)
    · obtain ⟨sl, e1⟩ := I.base.slot b o e n hb hx
      exact ⟨sl, (hs.2 b (Nat.ne_of_lt (Nat.lt_of_lt_of_le (Heap.lt_size e) I.ok.above))).trans e1⟩
    · obtain ⟨o', e1⟩ := I.base.there b o e hx
      exact ⟨o', (hs.2 b (Nat.ne_of_lt (Nat.lt_of_lt_of_le (Heap.lt_size e) I.ok.above))).trans e1⟩
    · by_cases hj : j = i
      · subst hj
        rw [hi] at e1; cases e1
        rw [List.getElem?_set_self hiσ] at e2
        cases e2
        exact ⟨u, r, .inl ⟨hk, by simp⟩⟩
      · rw [List.getElem?_set_ne (Ne.symm hj)] at e2
        obtain ⟨u', r', q⟩ := hl j y v' e1 e2 e3
        refine ⟨u', r', ?_⟩
        rcases q with ⟨k, e⟩ | ⟨k, c, e, z⟩
        · refine .inl ⟨k, ?_⟩
          have : y ≠ x := fun e => hj (nodup_ix hN e1 (e ▸ hi))
          simp [this, e]
        · exact .inr ⟨k, c, e, z.sameBut hs (cne y c e)⟩
    · obtain ⟨w', z⟩ := I.cell y c e
      exact ⟨w', z.sameBut hs (cne y c e)⟩
    · obtain ⟨e, n, ne, nf, d⟩ := I.pin p hp
      exact ⟨(hs.2 p.1 ne).trans e, n, ne, nf, d⟩
  · have hfn : X.fn x = true := by
      rcases hf with z | z
      · exact z
      · rw [z] at hk; cases hk
    obtain ⟨c, hc⟩ := I.ok.has x (.inl hk)
    obtain ⟨w', z⟩ := I.cell x c hc
    refine wpAny_storeName_cell I.ok.kind hk hc z (fun h' hc' hs => ?_)
    obtain ⟨oc, hoc, hocd⟩ := id z
    refine h { s with heap := h' } ⟨I.ok, I.os, I.bare, ⟨fun b o e n hb hx => ?_, fun b o e n hb hx => ?_, I.base.free, fun b o e hx => ?_, I.base.tups, I.base.frzs, I.base.tbls⟩, ⟨m, hn.sameBut hs (Ne.symm (cne x c hc)), fun j y v' e1 e2 e3 => ?_⟩, fun y c' e => ?_, I.free, I.freeC, fun p hp => ?_, tracked ⟨oc, hoc, I.freeC x c hc⟩ hs, by simpa using I.len⟩ ⟨c, hs, .inr hc⟩
    · exact (hs.2 b (Nat.ne_of_lt (Nat.lt_of_lt_of_le (Heap.lt_size e) (I.ok.cab x c hfn hc)))).trans (I.base.keep b o e n hb hx)
    · obtain ⟨sl, e1⟩ := I.base.slot b o e n hb hx
      exact ⟨sl, (hs.2 b (Nat.ne_of_lt (Nat.lt_of_lt_of_le (Heap.lt_size e) (I.ok.cab x c hfn hc)))).trans e1⟩
    · obtain ⟨o', e1⟩ := I.base.there b o e hx
      exact ⟨o', (hs.2 b (Nat.ne_of_lt (Nat.lt_of_lt_of_le (Heap.lt_size e) (I.ok.cab x c hfn hc)))).trans e1⟩
    · by_cases hj : j = i
      · subst hj
        rw [hi] at e1; cases e1
        rw [List.getElem?_set_self hiσ] at e2
        cases e2
        exact ⟨u, r, .inr ⟨.inl hk, c, hc, hc'⟩⟩
      · rw [List.getElem?_set_ne (Ne.symm hj)] at e2
        obtain ⟨u', r', q⟩ := hl j y v' e1 e2 e3
        refine ⟨u', r', ?_⟩
        rcases q with q | ⟨k, c', e, z'⟩
        · exact .inl q
        · refine .inr ⟨k, c', e, z'.sameBut hs ?_⟩
          rintro rfl
          exact hj (nodup_ix hN e1 (I.ok.inj _ _ _ e hc ▸ hi))
    · by_cases hcc : c' = c
      · subst hcc; exact ⟨_, hc'⟩
      · obtain ⟨w2, z2⟩ := I.cell y c' e
        exact ⟨w2, z2.sameBut hs hcc⟩
    · obtain ⟨e, n, ne, nf, d⟩ := I.pin p hp
      refine ⟨(hs.2 p.1 ?_).trans e, n, ne, nf, d⟩
      intro q
      rw [q, hoc] at e
      have q' : oc = p.2 := Option.some.inj e
      exact d w' (by rw [← q']; exact hocd)
theorem store_ok {M : Model} {A : Around} {E : Value → Shared → Prop} {i : Nat} {x : Str} {v : V} {u : Value} {Q : Unit → Shared → Prop} (I : Inv X pins σ H s) (hN : X.N.Nodup) (hi : X.N[i]? = some x) (hx : Loc X.env.scope x) (r : RelV v u)
    (h : ∀ s', Inv X pins (σ.set i (some v)) H s' → Q () s') (hf : X.fn x = true ∨ X.env.scope.names.lookup x = some .local := by first | exact .inl rfl | exact .inr rfl | assumption) : wpAny M A (storeName X.env x u) Q E s :=
  store_ok2 I hN hi hx r (fun s' I' _ => h s' I') hf
/-- behind a call or a block, the state as it is -/
theorem Inv.call' {s' : Shared} {ch : List Addr} (I : Inv X pins σ H s) (ho : s'.os = s.os) (u : Un (frs X.stack) ch H H' s.heap s'.heap) (hok : HOk X.prog X.w H' s'.heap) (hg : AllBare s'.gens)
    (hch : ∀ b ∈ ch, (b ∈ X.ex ∨ X.s₀.heap.objs.size ≤ b) ∧ b ≠ X.env.locals ∧ (∀ x c, X.env.cells.lookup x = some c → c ≠ b) ∧ ∀ p ∈ X.pn ++ pins, p.1 ≠ b) : Inv X pins σ H' s' := by
  obtain ⟨h', g', d', t', o'⟩ := s'
  have e : o' = s.os := ho
  subst e
  exact I.call (g' := g') (t' := t') (d' := d') u hok hg hch
end

/-! ### the judgements -/
/-- an exception: its class, its own dict's address (where it has one), the abstract heap behind it -/
abbrev XK := Value → Option Addr → Hp → Prop
abbrev St := List (Option V)
abbrev VK := V → Hp → Prop
/-- an expression's reading; a test's; an argument list's -/
abbrev TE := St → Hp → VK → Prop
abbrev TT := St → Hp → (Bool → Hp → Prop) → Prop
abbrev TA := St → Hp → (List V → Hp → Prop) → Prop
/-- what is wanted behind a statement -/
structure Ends where
  nx : St → Hp → Prop
  rt : VK
  bk : St → Hp → Prop := fun _ _ => False
  ct : St → Hp → Prop := fun _ _ => False
abbrev TS := Ends → St → Hp → Prop

def EP (X : Cx) (pins : List (Addr × Obj)) (σ : St) (Q : VK) (u : Value) (s' : Shared) : Prop := ∃ v H', Inv X pins σ H' s' ∧ RelV v u ∧ Q v H'
def TP (X : Cx) (pins : List (Addr × Obj)) (σ : St) (Q : Bool → Hp → Prop) (b : Bool) (s' : Shared) : Prop := ∃ H', Inv X pins σ H' s' ∧ Q b H'
def AP (X : Cx) (pins : List (Addr × Obj)) (σ : St) (Q : List V → Hp → Prop) (us : List Value) (s' : Shared) : Prop := ∃ vs H', Inv X pins σ H' s' ∧ Vals vs us ∧ Q vs H'
def SP (X : Cx) (pins : List (Addr × Obj)) (D : Ends) (f : Flow) (s' : Shared) : Prop :=
  match f with
  | .next => ∃ σ' H', Inv X pins σ' H' s' ∧ D.nx σ' H'
  | .brk => ∃ σ' H', Inv X pins σ' H' s' ∧ D.bk σ' H'
  | .cont => ∃ σ' H', Inv X pins σ' H' s' ∧ D.ct σ' H'
  | .ret u => ∃ v σ' H', Inv X pins σ' H' s' ∧ RelV v u ∧ D.rt v H'

def PE (X : Cx) (e : Expr) (t : TE) : Prop :=
  ∀ (pins : List (Addr × Obj)) (s : Shared) (σ : St) (H : Hp) (Q : VK), Inv X pins σ H s → t σ H Q → wpAny (model X.prog X.w) X.A (eval e X.env) (EP X pins σ Q) X.xe s
def PT (X : Cx) (e : Expr) (t : TT) : Prop :=
  ∀ (pins : List (Addr × Obj)) (s : Shared) (σ : St) (H : Hp) (Q : Bool → Hp → Prop), Inv X pins σ H s → t σ H Q → wpAny (model X.prog X.w) X.A (isTrue e X.env (eval e X.env)) (TP X pins σ Q) X.xe s
/-- a test whatever its 'whole' is (and, or) -/
def PW (X : Cx) (e : Expr) (t : TT) : Prop :=
  ∀ (whole : Sem Value) (pins : List (Addr × Obj)) (s : Shared) (σ : St) (H : Hp) (Q : Bool → Hp → Prop), Inv X pins σ H s → t σ H Q → wpAny (model X.prog X.w) X.A (isTrue e X.env whole) (TP X pins σ Q) X.xe s
theorem PW.pt {X : Cx} {e : Expr} {t : TT} (h : PW X e t) : PT X e t := h _
/-- an argument list (no star), from the left -/
def PA (X : Cx) (es : List Expr) (t : TA) : Prop :=
  ∀ (pos : Pos) (pins : List (Addr × Obj)) (s : Shared) (σ : St) (H : Hp) (Q : List V → Hp → Prop), Inv X pins σ H s → t σ H Q → wpAny (model X.prog X.w) X.A (spliced (backTo pos (starEach es X.env))) (AP X pins σ Q) X.xe s
def PS (X : Cx) (st : Stmt) (t : TS) : Prop :=
  ∀ (pins : List (Addr × Obj)) (s : Shared) (σ : St) (H : Hp) (D : Ends), Inv X pins σ H s → t D σ H → wpAny (model X.prog X.w) X.A (exec st X.env) (SP X pins D) X.xe s
def PSs (X : Cx) (st : List Stmt) (t : TS) : Prop :=
  ∀ (pins : List (Addr × Obj)) (s : Shared) (σ : St) (H : Hp) (D : Ends), Inv X pins σ H s → t D σ H → wpAny (model X.prog X.w) X.A (execs st X.env) (SP X pins D) X.xe s
/-- weaken the end -/
theorem thn {α : Type} {t : Sem α} {Q Q' : α → Shared → Prop} {M : Model} {A : Around} {E : Value → Shared → Prop} {s : Shared} (h : wpAny M A t Q E s) (hQ : ∀ a s, Q a s → Q' a s) : wpAny M A t Q' E s := wpAny_mono h hQ fun _ _ x => x
end L2

namespace L2
open PySem PySem.Spec PyProof.Rows
section
variable {X : Cx}


/-! ### names and constants -/
def tVar (i : Nat) : TE := fun σ H Q => ∃ v, σ[i]? = some (some v) ∧ Q v H
def tC (v : V) : TE := fun _ H Q => Q v H
theorem pe_var {i : Nat} {x : Str} {pos : Pos} (hN : X.N[i]? = some x) (hv : Vis X.env.scope x) (hd : (x == ("__debug__" : Str)) = false := by decide) (hcd : (x == ("__classdict__" : Str)) = false := by decide) : PE X (.Name x pos) (tVar i) := by
  intro pins s σ H Q I h
  obtain ⟨v, e, h⟩ := h
  obtain ⟨m, hn, hl⟩ := I.loc
  obtain ⟨u, r, l⟩ := hl i x v hN e hv
  have fin : EP X pins σ Q u s := ⟨v, H, I, r, h⟩
  rcases l with ⟨hk, hm⟩ | ⟨hk, c, hc, hcell⟩
  · exact wpAny_Name (wpAny_loadName_local I.ok.kind hk hn hm fin) hd
  · rcases hk with hk | hk
    · exact wpAny_Name (wpAny_loadName_cell I.ok.kind hk hc hcell fin) hd
    · exact wpAny_Name (wpAny_loadName_free I.ok.kind hk hc hcell fin hcd) hd
theorem pe_int {i j pos} : PE X (.Constant (.int i) j pos) (tC (.int i)) := fun _ _ _ H _ I h => wpAny_Constant_int ⟨.int i, H, I.tok _, ⟨_, rfl⟩, h⟩
theorem pe_bl {b j pos} : PE X (.Constant (.bool b) j pos) (tC (.bl b)) := fun _ _ _ H _ I h => Constant_bool ⟨.bl b, H, I, rfl, h⟩
theorem pe_non {j pos} : PE X (.Constant .none j pos) (tC .non) := fun _ _ _ H _ I h => Constant_none ⟨.non, H, I, rfl, h⟩
theorem pe_str {x j pos} : PE X (.Constant (.str x) j pos) (tC (.str x)) := fun _ _ _ H _ I h => Calls.Constant_str ⟨.str x, H, I.tok _, ⟨_, rfl⟩, h⟩

/-- a global name of the def -/
def Gl (X : Cx) (x : Str) : Prop := X.env.kindOf x = some .globalImplicit
theorem ld_glob {E : Value → Shared → Prop} {pins : List (Addr × Obj)} {s : Shared} {σ : St} {H : Hp} {x : Str} {u : Value} {pos : Pos} {Q : Value → Shared → Prop} (I : Inv X pins σ H s) (hg : Gl X x) (hm : X.mg x = some u) (h : Q u s)
    (hd : (x == ("__debug__" : Str)) = false := by decide) : wpAny (model X.prog X.w) X.A (eval (.Name x pos) X.env) Q E s :=
  Calls.Name_function_global I.ok.kind hg (Calls.loadGlobal_global (by rw [I.ok.glob]; exact I.mod.glob.keeps I.bk) hm h) hd
theorem ld_blt {E : Value → Shared → Prop} {pins : List (Addr × Obj)} {s : Shared} {σ : St} {H : Hp} {x : Str} {u : Value} {pos : Pos} {Q : Value → Shared → Prop} (I : Inv X pins σ H s) (hg : Gl X x) (hm : X.mg x = none) (hv : bootBuiltins x = some u) (h : Q u s)
    (hn : x ≠ "__name__" := by decide) (hd : (x == ("__debug__" : Str)) = false := by decide) : wpAny (model X.prog X.w) X.A (eval (.Name x pos) X.env) Q E s := by
  obtain ⟨mb, h1, h2⟩ := I.mod.blt
  exact Calls.Name_function_global I.ok.kind hg (Calls.loadGlobal_builtin (by rw [I.ok.glob]; exact I.mod.glob.keeps I.bk) hm (by rw [I.ok.blt]; exact h1.keeps I.bk) ((h2 x hn).trans hv) h) hd
/-- a module's constant, a class, a function, as a value -/
theorem pe_glob {x : Str} {v : V} {u : Value} {pos : Pos} (hg : Gl X x) (hm : X.mg x = some u) (r : RelV v u) (hd : (x == ("__debug__" : Str)) = false := by decide) : PE X (.Name x pos) (tC v) :=
  fun _ _ _ H _ I h => ld_glob I hg hm ⟨v, H, I, r, h⟩ hd
theorem pe_bltn {x : Str} {v : V} {u : Value} {pos : Pos} (hg : Gl X x) (hm : X.mg x = none) (hv : bootBuiltins x = some u) (r : RelV v u) (hn : x ≠ "__name__" := by decide) (hd : (x == ("__debug__" : Str)) = false := by decide) : PE X (.Name x pos) (tC v) :=
  fun _ _ _ H _ I h => ld_blt I hg hm hv ⟨v, H, I, r, h⟩ hn hd

/-! ### arithmetic -/
variable {a b : Expr} {ta tb : TE} {pos : Pos}

/-! ### comparisons -/
def PC (X : Cx) (op : CmpOp) (a b : Expr) (t : TE) : Prop :=
  ∀ (pins : List (Addr × Obj)) (s : Shared) (σ : St) (H : Hp) (Q : VK), Inv X pins σ H s → t σ H Q →
    wpAny (model X.prog X.w) X.A (eval a X.env) (fun v s₁ => wpAny (model X.prog X.w) X.A (eval b X.env) (fun u s₂ => wpAny (model X.prog X.w) X.A (compareOp op v u) (EP X pins σ Q) X.xe s₂) X.xe s₁) X.xe s
theorem nobehind (b : Expr) {op : CmpOp} (h : op ≠ .In) (h2 : op ≠ .NotIn) : behindInMarks op b = false := by
  have e1 : (op == CmpOp.In) = false := by cases op <;> first | rfl | exact absurd rfl h
  have e2 : (op == CmpOp.NotIn) = false := by cases op <;> first | rfl | exact absurd rfl h2
  cases b <;> simp [behindInMarks, e1, e2]
/-- a comparison as a value, as a test -/
def tB (t : TE) : TT := fun σ H Q => t σ H fun x H1 => ∃ c, x = .bl c ∧ Q c H1
theorem pt_cmp {op : CmpOp} {t : TE} (h : PC X op a b t) (h1 : behindInMarks op b = false := by first | exact nobehind _ (by decide) (by decide) | rfl) : PT X (.Compare a [op] [b] pos) (tB t) := by
  intro pins s σ H Q I hw
  refine wpAny_isTrue_Compare1 (thn (h pins s σ H _ I hw) fun v s1 h1 => thn h1 fun u s2 h2 => thn h2 fun c s3 ⟨x, H1, I1, r1, q1⟩ => ?_) h1
  obtain ⟨d, rfl, q⟩ := q1
  cases r1
  exact wpAny_truthy_bool ⟨H1, I1, q⟩
/-- an expression whose value is a bool, as a test -/
theorem pt_val {e : Expr} {t : TE} (h : PE X e t) (he : ∀ whole, isTrue e X.env whole = (do let v ← whole; standAt e.pos; holding [v] (truthy v)) := by intro _; rfl) : PT X e (tB t) := by
  intro pins s σ H Q I hw
  refine isTrue_plain (thn (h pins s σ H _ I hw) fun v s1 ⟨x, H1, I1, r1, q1⟩ => ?_) (he _)
  obtain ⟨d, rfl, q⟩ := q1
  cases r1
  exact wpAny_truthy_bool ⟨H1, I1, q⟩

/-! ### and, or, not -/
variable {tA tB' : TT} {rest : List Expr}
def tAnd (t u : TT) : TT := fun σ H Q => t σ H fun c H1 => if c = true then u σ H1 Q else Q false H1
def tOr (t u : TT) : TT := fun σ H Q => t σ H fun c H1 => if c = true then Q true H1 else u σ H1 Q
def tNot (t : TT) : TT := fun σ H Q => t σ H fun c H1 => Q (!c) H1
theorem pw_and1 (ha : PT X a tA) : PW X (.BoolOp .And [a] pos) tA := by
  intro wh pins s σ H Q I h
  refine isTrue_and (thn (ha pins s σ H Q I h) fun c s1 e => ?_)
  cases c with
  | true => exact isTrue_and_nil e
  | false => exact e
theorem pw_or1 (ha : PT X a tA) : PW X (.BoolOp .Or [a] pos) tA := by
  intro wh pins s σ H Q I h
  refine isTrue_or (thn (ha pins s σ H Q I h) fun c s1 e => ?_)
  cases c with
  | false => exact isTrue_or_nil e
  | true => exact e
theorem pw_and (ha : PT X a tA) (hb : PW X (.BoolOp .And (b :: rest) pos) tB') : PW X (.BoolOp .And (a :: b :: rest) pos) (tAnd tA tB') := by
  intro wh pins s σ H Q I h
  refine isTrue_and (thn (ha pins s σ H _ I h) fun c s1 ⟨H1, I1, q1⟩ => ?_)
  cases c with
  | true => exact hb wh pins s1 σ H1 Q I1 q1
  | false => exact ⟨H1, I1, q1⟩
theorem pw_or (ha : PT X a tA) (hb : PW X (.BoolOp .Or (b :: rest) pos) tB') : PW X (.BoolOp .Or (a :: b :: rest) pos) (tOr tA tB') := by
  intro wh pins s σ H Q I h
  refine isTrue_or (thn (ha pins s σ H _ I h) fun c s1 ⟨H1, I1, q1⟩ => ?_)
  cases c with
  | true => exact ⟨H1, I1, q1⟩
  | false => exact hb wh pins s1 σ H1 Q I1 q1
theorem pt_not (ha : PT X a tA) : PT X (.UnaryOp .Not a pos) (tNot tA) := by
  intro pins s σ H Q I h
  exact isTrue_not (ha pins s σ H (fun c H1 => Q (!c) H1) I h)
/-- .. as values (bools) -/
def tAndV (ta tb : TE) : TE := fun σ H Q => ta σ H fun x H1 => ∃ c, x = .bl c ∧ if c = true then tb σ H1 Q else Q (.bl false) H1
theorem pe_one {op} {t : TE} (h : PE X a t) : PE X (.BoolOp op [a] pos) t := fun pins s σ H Q I hw => BoolOp_one (h pins s σ H Q I hw)
theorem pe_and (ha : PE X a ta) (hb : PE X (.BoolOp .And (b :: rest) pos) tb) : PE X (.BoolOp .And (a :: b :: rest) pos) (tAndV ta tb) := by
  intro pins s σ H Q I h
  refine BoolOp_and (thn (ha pins s σ H _ I h) fun v s1 ⟨x, H1, I1, r1, q1⟩ => ?_)
  obtain ⟨c, rfl, q1⟩ := q1
  cases r1
  refine wpAny_truthy_bool ?_
  cases c with
  | true => exact hb pins s1 σ H1 Q I1 q1
  | false => exact ⟨.bl false, H1, I1, rfl, q1⟩
/-- a if t else b -/
def tIf (t : TT) (ta tb : TE) : TE := fun σ H Q => t σ H fun c H1 => if c = true then ta σ H1 Q else tb σ H1 Q
theorem pe_ifExp {c : Expr} (hc : PT X c tA) (ha : PE X a ta) (hb : PE X b tb) : PE X (.IfExp c a b pos) (tIf tA ta tb) := by
  intro pins s σ H Q I h
  refine wpAny_IfExp (thn (hc pins s σ H _ I h) fun d s1 ⟨H1, I1, q1⟩ => ?_)
  cases d with
  | true => exact ha pins s1 σ H1 Q I1 q1
  | false => exact hb pins s1 σ H1 Q I1 q1
end
end L2

namespace L2
open PySem PySem.Spec PyProof.Rows

/-! ### a list, a tuple that is read: tracked, frozen, or an object of the module -/
def SqL (K : PySem.W.Frag) (H : Hp) (a : Addr) (xs : List V) : Prop :=
  Rd H a (.lst xs) ∨
    ∃ (o : Obj) (its : Array Value) (n : Nat), K.lookup a = some o ∧ o.cls = .type "list" ∧ o.dict = none ∧ o.data = .seq its n ∧ its.size ≤ sizeLine ∧ Vals xs its.toList
def SqT (K : PySem.W.Frag) (H : Hp) (a : Addr) (xs : List V) : Prop :=
  Rd H a (.tup xs) ∨
    ∃ (o : Obj) (its : Array Value) (n : Nat), K.lookup a = some o ∧ o.cls = .type "tuple" ∧ o.data = .seq its n ∧ its.size ≤ sizeLine ∧ Vals xs its.toList
def absV : Value → Option V
  | .none => some .non
  | .bool b => some (.bl b)
  | .int i _ => some (.int i)
  | .str x _ => some (.str x)
  | .bytes b _ => some (.byt b)
  | .float b _ => some (.flt b)
  | .ref a => some (.ref a)
  | .type n => some (.ty n)
  | _ => none
theorem RelV.abs {x : V} {u : Value} (r : RelV x u) : absV u = some x := by
  cases x with
  | non => cases r; rfl
  | bl _ => cases r; rfl
  | int _ => obtain ⟨t, rfl⟩ := r; rfl
  | str _ => obtain ⟨t, rfl⟩ := r; rfl
  | byt _ => obtain ⟨t, rfl⟩ := r; rfl
  | flt _ => obtain ⟨t, rfl⟩ := r; rfl
  | ref _ => cases r; rfl
  | ty _ => cases r; rfl
theorem RelV.inj {x y : V} {u : Value} (r : RelV x u) (q : RelV y u) : x = y := Option.some.inj (r.abs.symm.trans q.abs)
theorem Vals.inj : ∀ {xs ys : List V} {us : List Value}, Vals xs us → Vals ys us → xs = ys
  | _, _, _, .nil, .nil => rfl
  | _, _, _, .cons r t, .cons r' t' => by rw [r.inj r', Vals.inj t t']
section
variable {X : Cx} {pins : List (Addr × Obj)} {σ : St} {H : Hp} {s : Shared} {a : Addr} {xs ys : List V}
theorem SqL.of {K : PySem.W.Frag} (h : H a = some (.lst xs)) : SqL K H a xs := .inl (.inl h)
theorem SqT.of {K : PySem.W.Frag} (h : H a = some (.tup xs)) : SqT K H a xs := .inl (.inl h)
theorem Inv.list (I : Inv X pins σ H s) (h : SqL X.K H a xs) : ∃ its : List Value, Vals xs its ∧ PlainL s.heap a its.toArray ∧ xs.length ≤ sizeLine := by
  rcases h with h | ⟨o, its, n, hk, hc, hd, hs, hz, r⟩
  · obtain ⟨z, its, n, r, e⟩ := h.ok I.hok
    exact ⟨its, r, ⟨_, n, e, rfl, rfl, rfl⟩, z⟩
  · refine ⟨its.toList, r, ⟨o, n, I.kIn a o hk, hc, hd, by simpa using hs⟩, ?_⟩
    have e := r.length
    simp only [Array.length_toList] at e
    omega
theorem Inv.tuple (I : Inv X pins σ H s) (h : SqT X.K H a xs) : ∃ its : List Value, Vals xs its ∧ IsTup s.heap a its.toArray ∧ xs.length ≤ sizeLine := by
  rcases h with h | ⟨o, its, n, hk, hc, hs, hz, r⟩
  · obtain ⟨z, its, r, p⟩ := h.ok I.hok
    exact ⟨its, r, p, z⟩
  · refine ⟨its.toList, r, ⟨o, I.kIn a o hk, hc, n, by simpa using hs⟩, ?_⟩
    have e := r.length
    simp only [Array.length_toList] at e
    omega
theorem Inv.list_inj (I : Inv X pins σ H s) (h : SqL X.K H a xs) (h' : SqL X.K H a ys) : xs = ys := by
  obtain ⟨its, r, ⟨o, n, e, _, _, d⟩, _⟩ := I.list h
  obtain ⟨its', r', ⟨o', n', e', _, _, d'⟩, _⟩ := I.list h'
  rw [e] at e'; cases e'
  rw [d] at d'
  injection d' with d1 _
  have : its = its' := by simpa using congrArg Array.toList d1
  subst this
  exact r.inj r'
end

/-! ### another wish about exceptions -/
abbrev Cx.wish (X : Cx) (E : Value → Shared → Prop) : Cx := { X with xe := E }
/-- no exception leaves -/
abbrev Cx.nox (X : Cx) : Cx := X.wish fun _ _ => False
theorem Cx.Ok.wish {X : Cx} (ok : X.Ok) (E : Value → Shared → Prop) : (X.wish E).Ok :=
  ⟨ok.mod, ok.kind, ok.glob, ok.blt, ok.above, ok.inj, ok.has, ok.cab, ok.hd, ok.frames, ok.stk, ok.exf, ok.bs, ok.bsz, ok.noex, ok.exfs, ok.funs, ok.frf⟩
theorem Cx.Ok.unwish {X : Cx} {E : Value → Shared → Prop} (ok : (X.wish E).Ok) : X.Ok :=
  ⟨ok.mod, ok.kind, ok.glob, ok.blt, ok.above, ok.inj, ok.has, ok.cab, ok.hd, ok.frames, ok.stk, ok.exf, ok.bs, ok.bsz, ok.noex, ok.exfs, ok.funs, ok.frf⟩
section
variable {X : Cx} {pins : List (Addr × Obj)} {σ : St} {H : Hp} {s : Shared} {E : Value → Shared → Prop}
theorem Inv.wish (I : Inv X pins σ H s) (E : Value → Shared → Prop) : Inv (X.wish E) pins σ H s := ⟨I.ok.wish E, I.os, I.bare, I.base, I.loc, I.cell, I.free, I.freeC, I.pin, I.hok, I.len⟩
theorem Inv.unwish (I : Inv (X.wish E) pins σ H s) : Inv X pins σ H s := ⟨I.ok.unwish, I.os, I.bare, I.base, I.loc, I.cell, I.free, I.freeC, I.pin, I.hok, I.len⟩
theorem SP.unwish {D : Ends} {f : Flow} {s' : Shared} (h : SP (X.wish E) pins D f s') : SP X pins D f s' := by
  cases f with
  | next => obtain ⟨σ', H', I, q⟩ := h; exact ⟨σ', H', I.unwish, q⟩
  | brk => obtain ⟨σ', H', I, q⟩ := h; exact ⟨σ', H', I.unwish, q⟩
  | cont => obtain ⟨σ', H', I, q⟩ := h; exact ⟨σ', H', I.unwish, q⟩
  | ret u => obtain ⟨v, σ', H', I, r, q⟩ := h; exact ⟨v, σ', H', I.unwish, r, q⟩
theorem PE.nox {e : Expr} {t : TE} (h : PE X.nox e t) : PE X e t := fun pins s σ H Q I hw =>
  wpAny_mono (h pins s σ H Q (I.wish _) hw) (fun _ _ ⟨v, H', I', r, q⟩ => ⟨v, H', I'.unwish, r, q⟩) fun _ _ z => False.elim z
theorem PT.nox {e : Expr} {t : TT} (h : PT X.nox e t) : PT X e t := fun pins s σ H Q I hw =>
  wpAny_mono (h pins s σ H Q (I.wish _) hw) (fun _ _ ⟨H', I', q⟩ => ⟨H', I'.unwish, q⟩) fun _ _ z => False.elim z
theorem PSs.nox {st : List Stmt} {t : TS} (h : PSs X.nox st t) : PSs X st t := fun pins s σ H D I hw =>
  wpAny_mono (h pins s σ H D (I.wish _) hw) (fun _ _ q => q.unwish) fun _ _ z => False.elim z
end

/-! ### blocks and small statements -/
section
variable {X : Cx} {st : Stmt} {rest : List Stmt} {t u : TS} {e : Expr} {te : TE} {pos : Pos}
def tNext : TS := fun D σ H => D.nx σ H
def tSeq (t u : TS) : TS := fun D σ H => t { D with nx := u D } σ H
theorem pss_nil : PSs X [] tNext := fun _ _ σ H _ I h => wpAny_execs_nil ⟨σ, H, I, h⟩
theorem pss_cons (h1 : PS X st t) (h2 : PSs X rest u) : PSs X (st :: rest) (tSeq t u) := by
  intro pins s σ H D I h
  refine wpAny_execs_cons (thn (h1 pins s σ H { D with nx := u D } I h) fun f s1 q => ?_)
  cases f with
  | next =>
    obtain ⟨σ', H', I', q⟩ := q
    exact h2 pins s1 σ' H' D I' q
  | ret v => exact q
  | brk => exact q
  | cont => exact q
theorem pss_one (h1 : PS X st t) : PSs X [st] t := by
  intro pins s σ H D I h
  refine wpAny_execs_cons (thn (h1 pins s σ H D I h) fun f s1 q => ?_)
  cases f with
  | next => exact wpAny_execs_nil q
  | ret v => exact q
  | brk => exact q
  | cont => exact q
/-- in a def's body nothing is shown -/
theorem Inv.quiet {pins : List (Addr × Obj)} {σ : St} {H : Hp} {s : Shared} (I : Inv X pins σ H s) : interactive X.env = false := by simp [interactive, I.ok.kind]
/-- an expression whose value is dropped -/
def tDrop (te : TE) : TS := fun D σ H => te σ H fun _ H1 => D.nx σ H1
theorem ps_expr (he : PE X e te) (hs : swapsWith e none pos.line X.env = pure false := by rfl) : PS X (.Expr e pos) (tDrop te) := by
  intro pins s σ H D I h
  exact wpAny_Expr_any (thn (he pins s σ H _ I h) fun v s1 ⟨x, H1, I1, r1, q1⟩ => ⟨σ, H1, I1, q1⟩) I.quiet hs
def tRet (te : TE) : TS := fun D σ H => te σ H D.rt
theorem ps_ret (he : PE X e te) : PS X (.Return (some e) pos) (tRet te) := by
  intro pins s σ H D I h
  exact wpAny_Return_some (thn (he pins s σ H _ I h) fun v s1 ⟨x, H1, I1, r1, q1⟩ => ⟨x, σ, H1, I1, r1, q1⟩)
def tIfS (c : TT) (t u : TS) : TS := fun D σ H => c σ H fun b H1 => if b = true then t D σ H1 else u D σ H1
theorem ps_if {c : Expr} {a b : List Stmt} {tc : TT} (hc : PT X c tc) (ha : PSs X a t) (hb : PSs X b u) : PS X (.If c a b pos) (tIfS tc t u) := by
  intro pins s σ H D I h
  refine wpAny_If (thn (hc pins s σ H _ I h) fun d s1 ⟨H1, I1, q1⟩ => ?_)
  cases d with
  | true => exact ha pins s1 σ H1 D I1 q1
  | false => exact hb pins s1 σ H1 D I1 q1
/-- code that the proof never comes to -/
def tNever : TS := fun _ _ _ => False
theorem ps_never : PS X st tNever := fun _ _ _ _ _ _ h => h.elim
theorem pss_never {sts : List Stmt} : PSs X sts tNever := fun _ _ _ _ _ _ h => h.elim
end

/-! ### targets -/
abbrev TG := V → St → Hp → (St → Hp → Prop) → Prop
abbrev TGs := List V → St → Hp → (St → Hp → Prop) → Prop
def PG (X : Cx) (target : Expr) (t : TG) : Prop :=
  ∀ (pins : List (Addr × Obj)) (s : Shared) (σ : St) (H : Hp) (v : V) (u : Value) (Q : St → Hp → Prop), Inv X pins σ H s → RelV v u → t v σ H Q →
    wpAny (model X.prog X.w) X.A (assign target X.env u) (fun _ s' => ∃ σ' H', Inv X pins σ' H' s' ∧ Q σ' H') X.xe s
/-- several targets, one after another -/
def PGs (X : Cx) (ts : List Expr) (t : TGs) : Prop :=
  ∀ (pins : List (Addr × Obj)) (s : Shared) (σ : St) (H : Hp) (vs : List V) (us : List Value) (Q : St → Hp → Prop), Inv X pins σ H s → Vals vs us → t vs σ H Q →
    wpAny (model X.prog X.w) X.A (assignInOrder ((assignEach ts X.env).map (·.2)) us) (fun _ s' => ∃ σ' H', Inv X pins σ' H' s' ∧ Q σ' H') X.xe s
section
variable {X : Cx} {pos : Pos}
def gName (i : Nat) : TG := fun v σ H Q => Q (σ.set i (some v)) H
theorem pg_name {i : Nat} {x : Str} (hN : X.N.Nodup) (hi : X.N[i]? = some x) (hx : Loc X.env.scope x) (hf : X.fn x = true ∨ X.env.scope.names.lookup x = some .local := by first | exact .inl rfl | exact .inr rfl | assumption) : PG X (.Name x pos) (gName i) := by
  intro pins s σ H v u Q I r h
  exact wpAny_assign_Name (store_ok I hN hi hx r (fun s' I' => ⟨_, H, I', h⟩) hf)
def gNil : TGs := fun vs σ H Q => vs = [] ∧ Q σ H
def gCons (t : TG) (u : TGs) : TGs := fun vs σ H Q => ∃ v r, vs = v :: r ∧ t v σ H fun σ' H' => u r σ' H' Q
theorem pgs_nil : PGs X [] gNil := by
  intro pins s σ H vs us Q I r h
  obtain ⟨e, h⟩ := h
  subst e
  cases r
  exact assignInOrder_nil ⟨σ, H, I, h⟩
theorem pgs_cons {e : Expr} {es : List Expr} {t : TG} {u : TGs} (h1 : PG X e t) (h2 : PGs X es u)
    (hs : (assignEach (e :: es) X.env).map (·.2) = assign e X.env :: (assignEach es X.env).map (·.2) := by rfl) : PGs X (e :: es) (gCons t u) := by
  intro pins s σ H vs us Q I r h
  obtain ⟨v, vr, e1, h⟩ := h
  subst e1
  cases r with
  | cons r rr =>
    rw [hs]
    refine assignInOrder_cons (thn (h1 pins s σ H _ _ _ I r h) fun _ s1 ⟨σ1, H1, I1, q1⟩ => ?_)
    exact h2 pins s1 σ1 H1 _ _ Q I1 rr q1
/-- (a, b, ..) = a tuple of that length -/
def gTup (K : PySem.W.Frag) (n : Nat) (t : TGs) : TG := fun v σ H Q => ∃ a xs, v = .ref a ∧ SqT K H a xs ∧ xs.length = n ∧ t xs σ H Q
theorem pg_tup {es : List Expr} {k : Nat} {t : TGs} {n : Nat} (hc : X.calm = true) (h : PGs X es t)
    (hn : (assignEach es X.env).length = n := by rfl) (hst : (assignEach es X.env).findIdx? (·.1) = none := by rfl) : PG X (.Tuple es k pos) (gTup X.K n t) := by
  intro pins s σ H v u Q I r hw
  obtain ⟨a, xs, e1, hq, hl, hw⟩ := hw
  subst e1
  cases r
  obtain ⟨its, rv, ht, hz⟩ := I.tuple hq
  refine assign_Tuple_tuple (I.ok.hd hc) ht (by simp [hn, ← hl, rv.length]) hst fun h' hx => ?_
  have I1 : Inv X pins σ H { s with heap := h' } := I.kept (t' := s.toks) fun b o e => hx b o (Nat.ne_of_lt (Heap.lt_size e)) e
  exact h pins _ σ H xs _ Q I1 (by simpa using rv) hw
/-- target = value -/
def tAsg (te : TE) (g : TG) : TS := fun D σ H => te σ H fun x H1 => g x σ H1 D.nx
theorem ps_asg {tg e : Expr} {te : TE} {g : TG} (he : PE X e te) (hg : PG X tg g) (hs : swapsWithSole [tg] e pos.line X.env = pure false := by rfl) (hw : swappedStores [tg] e X.env = pure none := by rfl)
    (h1 : (assignEach [tg] X.env).map (·.2) = [assign tg X.env] := by rfl) : PS X (.Assign [tg] e pos) (tAsg te g) := by
  intro pins s σ H D I h
  refine wpAny_Assign_stores (thn (he pins s σ H _ I h) fun v s1 ⟨x, H1, I1, r1, q1⟩ => ?_) hs hw
  rw [h1]
  exact thn (hg pins s1 σ H1 x v _ I1 r1 q1) fun _ s2 q => q
/-- name = value -/
theorem ps_set {i : Nat} {x : Str} {e : Expr} {te : TE} {pos' : Pos} (hN : X.N.Nodup) (hi : X.N[i]? = some x) (hx : Loc X.env.scope x) (he : PE X e te) (hs : swapsWith e (some (.Name x pos')) pos.line X.env = pure false := by rfl) (hf : X.fn x = true ∨ X.env.scope.names.lookup x = some .local := by first | exact .inl rfl | exact .inr rfl | assumption) :
    PS X (.Assign [.Name x pos'] e pos) (tAsg te (gName i)) := by
  intro pins s σ H D I h
  refine wpAny_Assign_Name (thn (he pins s σ H _ I h) fun v s1 ⟨y, H1, I1, r1, q1⟩ => ?_) hs
  exact store_ok I1 hN hi hx r1 (fun s2 I2 => ⟨_, H1, I2, q1⟩) hf
end

/-! ### while -/
section
variable {X : Cx} {pos : Pos}
end

/-! ### what a loop or a comprehension walks -/
/-- at turn i: it yields x (the heap may grow), or it stops -/
structure It where
  go : Nat → Hp → Prop
  yld : Nat → Hp → V → Hp → Prop
  stop : Nat → Hp → Prop
/-- the iterator's own objects may turn: they are not the frame's, not pinned, younger than the entry (or a comprehension's own) -/
def FpOk (X : Cx) (pins : List (Addr × Obj)) (H : Hp) (b : Addr) : Prop :=
  H b = none ∧ b ≠ X.env.locals ∧ b ∉ X.fs ∧ (b ∈ X.ex ∨ X.s₀.heap.objs.size ≤ b) ∧ (∀ x c, X.env.cells.lookup x = some c → c ≠ b) ∧ ∀ p ∈ X.pn ++ pins, p.1 ≠ b
theorem Inv.fpOk {X : Cx} {pins : List (Addr × Obj)} {σ : St} {H H' : Hp} {s : Shared} {b : Addr} (I : Inv X pins σ H s) (hb : s.heap.objs.size ≤ b) (hn : H' b = none) : FpOk X pins H' b := by
  refine ⟨hn, Nat.ne_of_gt (Nat.lt_of_lt_of_le I.lt hb), I.nofs hb, .inr (Nat.le_trans I.sz hb), fun x c e z => ?_, fun p hp z => ?_⟩
  · obtain ⟨v, q⟩ := I.cell x c e
    exact absurd (Nat.lt_of_lt_of_le q.lt (by rw [z]; exact hb)) (Nat.lt_irrefl _)
  · exact absurd (Nat.lt_of_lt_of_le (Heap.lt_size (I.pin p hp).1) (by rw [z]; exact hb)) (Nat.lt_irrefl _)
structure Turn (P : Program) (w : World) (K : PySem.W.Frag) (tg : Expr) (J : It) (fp : List Addr) (it : Addr) (tn : Nat → Heap → Prop) : Prop where
  mem : it ∈ fp
  obj : ∀ i h, tn i h → ∀ b ∈ fp, ∃ o, h.get? b = some o ∧ ∀ v, o.data ≠ .cell v
  keep : ∀ i h h', tn i h → (∀ b ∈ fp, ∀ o, h.get? b = some o → h'.get? b = some o) → tn i h'
  item : ∀ (X : Cx), X.prog = P → X.w = w → X.K = K → X.calm = true → ∀ (i : Nat) (pins : List (Addr × Obj)) (s : Shared) (σ : St) (H : Hp) (E : Value → Shared → Prop), Inv X pins σ H s → (∀ b ∈ fp, FpOk X pins H b) → tn i s.heap → J.go i H →
    wpAny (model P w) X.A (pyNext (.ref it)) (fun r s1 => ∃ u, r = some u ∧
      wpAny (model P w) X.A (letOwnedTupleGo tg (.ref it) u) (fun _ s2 => ∃ x H', Inv X pins σ H' s2 ∧ RelV x u ∧ J.yld i H x H' ∧ tn (i + 1) s2.heap ∧ ∀ b ∈ fp, H' b = none) E s1) E s
  done : ∀ (X : Cx), X.prog = P → X.w = w → X.K = K → X.calm = true → ∀ (i : Nat) (pins : List (Addr × Obj)) (s : Shared) (σ : St) (H : Hp) (E : Value → Shared → Prop), Inv X pins σ H s → (∀ b ∈ fp, FpOk X pins H b) → tn i s.heap → J.stop i H →
    wpAny (model P w) X.A (pyNext (.ref it)) (fun r s1 => r = none ∧ Inv X pins σ H s1) E s
  self : ∀ (A : Around) (i : Nat) (s : Shared) (Q : Value → Shared → Prop) (E : Value → Shared → Prop), tn i s.heap → Q (.ref it) s → wpAny (model P w) A (pyIter (.ref it)) Q E s
abbrev TI := St → Hp → (It → Hp → Prop) → Prop
/-- an iterator has come -/
def PIE (X : Cx) (pins : List (Addr × Obj)) (σ : St) (tg : Expr) (R : It → Hp → Prop) (itv : Value) (s2 : Shared) : Prop :=
  ∃ (it : Addr) (fp : List Addr) (tn : Nat → Heap → Prop) (J : It) (H' : Hp), itv = .ref it ∧ Inv X pins σ H' s2 ∧ Turn X.prog X.w X.K tg J fp it tn ∧ tn 0 s2.heap ∧ (∀ b ∈ fp, FpOk X pins H' b) ∧ R J H'
def PI (X : Cx) (tg iter : Expr) (wi : TI) : Prop :=
  ∀ (pins : List (Addr × Obj)) (s : Shared) (σ : St) (H : Hp) (R : It → Hp → Prop), Inv X pins σ H s → wi σ H R →
    wpAny (model X.prog X.w) X.A (eval iter X.env) (fun v s1 => wpAny (model X.prog X.w) X.A (pyIter v) (PIE X pins σ tg R) X.xe s1) X.xe s

/-- the step ahead of the store is nothing for an iterator that keeps no tuple -/
theorem go_of {M : Model} {A : Around} {E : Value → Shared → Prop} {s : Shared} {tg : Expr} {it : Addr} {u : Value} {o : Obj} {n : String} {vs : Array Value} {Q : Unit → Shared → Prop} (ho : s.heap.get? it = some o) (hc : o.cls = .type n) (hd : o.data = .fields vs)
    (hn : ["enumerate", "zip", "dict_itemiterator", "dict_reverseitemiterator", "odict_iterator", "itertools.zip_longest", "itertools.pairwise"].contains n = false) (hQ : Q () s) : wpAny M A (letOwnedTupleGo tg (.ref it) u) Q E s := by
  unfold letOwnedTupleGo
  cases tg <;> first
    | exact wpAny_pure hQ
    | (cases u <;> first
        | exact wpAny_pure hQ
        | (refine wpAny_bind (wpAny_load ho ?_)
           rw [hc, hd]
           show wpAny M A (if (["enumerate", "zip", "dict_itemiterator", "dict_reverseitemiterator", "odict_iterator", "itertools.zip_longest", "itertools.pairwise"].contains n && vs[0]? == some (rawInt _)) = true then _ else _) Q E s
           rw [if_neg (by intro h; rw [hn, Bool.false_and] at h; cases h)]
           exact wpAny_pure hQ))

/-- the list at a, as it stands at each turn (a loop may append to it) -/
def Itl (K : PySem.W.Frag) (a : Addr) : It :=
  ⟨fun i H => ∃ xs x, SqL K H a xs ∧ xs[i]? = some x, fun i H x H' => H' = H ∧ ∀ xs, SqL K H a xs → xs[i]? = some x, fun i H => ∃ xs, SqL K H a xs ∧ xs.length ≤ i⟩
/-- lo, lo + 1, .. (n of them) -/
def Itr (lo : Int) (n : Nat) : It := ⟨fun i _ => i < n, fun i H x H' => H' = H ∧ x = .int (lo + i), fun i _ => n ≤ i⟩
theorem turn_list {P : Program} {w : World} {K : PySem.W.Frag} {tg : Expr} (a it : Addr) : Turn P w K tg (Itl K a) [it] it (fun i h => h.IsListIter it a i) where
  mem := by simp
  obj := fun i h st b hb => by
    have e : b = it := by simpa using hb
    subst e
    obtain ⟨o, e, c, d⟩ := st
    exact ⟨o, e, fun v z => by rw [d] at z; cases z⟩
  keep := fun i h h' st k => st.at fun o e => k it (by simp) o e
  item := by
    intro X hP hw hK hc i pins s σ H E I hf st hg
    subst hP hw hK
    obtain ⟨xs, x, hq, hx⟩ := hg
    obtain ⟨its, rv, p, hz⟩ := I.list hq
    obtain ⟨u, hu, ru⟩ := rv.get hx
    obtain ⟨f0, f1, f2, f3, f4, f5⟩ := hf it (by simp)
    refine wpAny_pyNext_list_item st p.isList (x := u) (by simpa using hu) fun h' st' sb => ?_
    have I1 : Inv X pins σ H { s with heap := h' } := I.turned (t' := s.toks) (fun b o hb e => (sb.2 b hb).trans e) f0 f1 f3 f4 f5
    obtain ⟨o, e, c, d⟩ := id st'
    exact ⟨u, rfl, go_of (s := { s with heap := h' }) e c d (by decide) ⟨x, H, I1, ru, ⟨rfl, fun ys hy => by rw [I.list_inj hy hq]; exact hx⟩, st', fun b hb => (hf b hb).1⟩⟩
  done := by
    intro X hP hw hK hc i pins s σ H E I hf st hg
    subst hP hw hK
    obtain ⟨xs, hq, hx⟩ := hg
    obtain ⟨its, rv, p, hz⟩ := I.list hq
    obtain ⟨f0, f1, f2, f3, f4, f5⟩ := hf it (by simp)
    have hl := rv.length
    exact wpAny_pyNext_list_end (I.ok.hd hc) st p.isList (by simp; omega) fun h' eb => ⟨rfl, I.turned (t' := s.toks) (fun b o hb e => eb b o hb e) f0 f1 f3 f4 f5⟩
  self := fun _ _ _ _ _ st h => wpAny_pyIter_listiter st h
theorem turn_range {P : Program} {w : World} {K : PySem.W.Frag} {tg : Expr} (it : Addr) (lo : Int) (n : Nat) : Turn P w K tg (Itr lo n) [it] it (fun i h => IsRangeIter h it (lo + (i : Nat) * 1) ((n : Int) - (i : Nat)) 1) where
  mem := by simp
  obj := fun i h st b hb => by
    have e : b = it := by simpa using hb
    subst e
    exact ⟨_, st, fun v z => by
      have z' : Data.fields _ = Data.cell v := z
      cases z'⟩
  keep := fun i h h' st k => k it (by simp) _ st
  item := by
    intro X hP hw hK hc i pins s σ H E I hf st hg
    subst hP hw hK
    obtain ⟨f0, f1, f2, f3, f4, f5⟩ := hf it (by simp)
    have W := Walks.range (prog := X.prog) (w := X.w) (I.ok.hd hc) it lo 1 n
    refine W.item i s _ _ hg st fun v h' tk hv st' kk => ?_
    obtain ⟨t, rfl⟩ := hv
    have I1 : Inv X pins σ H { s with heap := h', toks := tk } := I.turned (fun b o hb e => kk b o (by simpa using hb) e) f0 f1 f3 f4 f5
    refine ⟨_, rfl, go_of (s := { s with heap := h', toks := tk }) (n := "range_iterator") st' rfl rfl (by decide) ⟨.int (lo + i), H, I1, ⟨t, ?_⟩, ⟨rfl, rfl⟩, st', fun b hb => (hf b hb).1⟩⟩
    rw [Int.mul_one]
  done := by
    intro X hP hw hK hc i pins s σ H E I hf st hg
    subst hP hw hK
    obtain ⟨f0, f1, f2, f3, f4, f5⟩ := hf it (by simp)
    exact wpAny_pyNext_range_end (I.ok.hd hc) st (by have : n ≤ i := hg; omega) fun h' eb => ⟨rfl, I.turned (t' := s.toks) (fun b o hb e => eb b o hb e) f0 f1 f3 f4 f5⟩
  self := fun _ _ _ _ _ st h => wpAny_pyIter_rangeiter st h
end L2

namespace L2
open PySem PySem.Spec PyProof.Rows
section
variable {X : Cx} {tg : Expr}
def iList (K : PySem.W.Frag) (tl : TE) : TI := fun σ H R => tl σ H fun x H1 => ∃ a, x = .ref a ∧ (∃ xs, SqL K H1 a xs) ∧ R (Itl K a) H1
theorem pi_list {l : Expr} {tl : TE} (hl : PE X l tl) : PI X tg l (iList X.K tl) := by
  intro pins s σ H R I h
  refine thn (hl pins s σ H _ I h) fun v s1 ⟨x, H1, I1, r1, q1⟩ => ?_
  obtain ⟨a, e, ⟨xs, hq⟩, q⟩ := q1
  subst e
  cases r1
  obtain ⟨its, rv, p, hz⟩ := I1.list hq
  refine wpAny_pyIter_list p.isList ?_
  refine ⟨s1.heap.objs.size, [s1.heap.objs.size], _, _, H1, rfl, I1.kept (t' := s1.toks) fun b o e => Heap.get?_push_of_some _ e, turn_list a _, ⟨_, Heap.get?_push_size _ rfl, rfl, rfl⟩, fun b hb => ?_, q⟩
  have e : b = s1.heap.objs.size := by simpa using hb
  subst e
  exact I1.fpOk (Nat.le_refl _) (I1.hok.fresh (Nat.le_refl _))
/-- a range object just made, walked -/
theorem range_it {pins : List (Addr × Obj)} {σ : St} {H : Hp} {s : Shared} {R : It → Hp → Prop} {E : Value → Shared → Prop} {lo hi : Int} {t u v : Tok} {tk : Nat} (I : Inv X pins σ H s) (h1 : -(2 ^ 62) ≤ lo) (h2 : lo < 2 ^ 62) (h3 : -(2 ^ 62) ≤ hi) (h4 : hi < 2 ^ 62)
    (q : R (Itr lo (hi - lo).toNat) H) : wpAny (model X.prog X.w) X.A (pyIter (.ref s.heap.objs.size)) (PIE X pins σ tg R) E { s with heap := s.heap.push { cls := .type "range", data := .fields #[.int lo t, .int hi u, .int 1 v] }, toks := tk } := by
  refine wpAny_pyIter_range (IsRange.new ..) (small_one h1 h2 h3 h4) ?_
  have I1 : Inv X pins σ H { s with heap := s.heap.push { cls := .type "range", data := .fields #[.int lo t, .int hi u, .int 1 v] }, toks := tk } := I.kept fun b o e => Heap.get?_push_of_some _ e
  refine ⟨(s.heap.push { cls := .type "range", data := .fields #[.int lo t, .int hi u, .int 1 v] }).objs.size, [(s.heap.push { cls := .type "range", data := .fields #[.int lo t, .int hi u, .int 1 v] }).objs.size], _, _, H, rfl,
    I1.kept (t' := tk) fun b o e => Heap.get?_push_of_some _ e, turn_range _ lo (hi - lo).toNat, ?_, fun b hb => ?_, q⟩
  · have e1 : lo + ((0 : Nat) : Int) * 1 = lo := by simp
    have e2 : (((hi - lo).toNat : Nat) : Int) - ((0 : Nat) : Int) = Builtin.Range.rangeSize lo hi 1 := by rw [rangeSize_one]; split <;> omega
    show IsRangeIter _ _ (lo + ((0 : Nat) : Int) * 1) ((((hi - lo).toNat : Nat) : Int) - ((0 : Nat) : Int)) 1
    rw [e1, e2]
    exact Heap.get?_push_size _ rfl
  · have e : b = (s.heap.push { cls := .type "range", data := .fields #[.int lo t, .int hi u, .int 1 v] }).objs.size := by simpa using hb
    subst e
    exact I1.fpOk (Nat.le_refl _) (I1.hok.fresh (Nat.le_refl _))
def iRng1 (ta : TA) : TI := fun σ H R => ta σ H fun vs H1 => ∃ j : Int, vs = [.int j] ∧ -(2 ^ 62) ≤ j ∧ j < 2 ^ 62 ∧ R (Itr 0 j.toNat) H1
def iRng2 (ta : TA) : TI := fun σ H R => ta σ H fun vs H1 => ∃ i j : Int, vs = [.int i, .int j] ∧ (-(2 ^ 62) ≤ i ∧ i < 2 ^ 62 ∧ -(2 ^ 62) ≤ j ∧ j < 2 ^ 62) ∧ R (Itr i (j - i).toNat) H1
theorem pi_range1 {a : Expr} {ta : TA} {p pos : Pos} (hg : Gl X "range") (hm : X.mg "range" = none) (ha : PA X [a] ta) (hs : starEach [a] X.env = [(false, eval a X.env)] := by rfl) : PI X tg (.Call (.Name "range" p) [a] [] pos) (iRng1 ta) := by
  intro pins s σ H R I h
  refine Call_ (ld_blt I hg hm boot_range (PyProof.Rows.callWith_type1 (thn (ha pos pins s σ H _ I h) fun us s1 ⟨vs, H1, I1, r1, q1⟩ => ?_) hs rfl))
  obtain ⟨j, e, q1, q2, q⟩ := q1
  subst e
  cases r1 with
  | cons r rr =>
    cases rr
    obtain ⟨t, rfl⟩ := r
    exact call_range_1 (range_it I1 (by omega) (by omega) q1 q2 (by simpa using q))
theorem pi_range2 {a b : Expr} {ta : TA} {p pos : Pos} (hg : Gl X "range") (hm : X.mg "range" = none) (ha : PA X [a, b] ta) (hs : starEach [a, b] X.env = [(false, eval a X.env), (false, eval b X.env)] := by rfl) (hs2 : starEach [b] X.env = [(false, eval b X.env)] := by rfl) :
    PI X tg (.Call (.Name "range" p) [a, b] [] pos) (iRng2 ta) := by
  intro pins s σ H R I h
  refine Call_ (ld_blt I hg hm boot_range (PyProof.Rows.callWith_type1 (thn (ha pos pins s σ H _ I h) fun us s1 ⟨vs, H1, I1, r1, q1⟩ => ?_) (by rw [hs, hs2]) (by rw [hs2]; rfl)))
  obtain ⟨i, j, e, ⟨q1, q2, q3, q4⟩, q⟩ := q1
  subst e
  cases r1 with
  | cons r rr =>
    cases rr with
    | cons r' rr =>
      cases rr
      obtain ⟨t, rfl⟩ := r
      obtain ⟨t', rfl⟩ := r'
      exact call_range_2 (range_it I1 q1 q2 q3 q4 q)

/-! ### for -/
/-- W: the invariant by the turn and a measure; N: what the body is to reach -/
def tFor (wi : TI) (g : TG) (tb : TS) : TS := fun D σ H => wi σ H fun J H1 => ∃ W : Nat → Nat → St → Hp → Prop, (∃ m, W 0 m σ H1) ∧ ∀ i m σ H, W i m σ H →
  (J.stop i H ∧ D.nx σ H) ∨ (J.go i H ∧ ∃ N : St → Hp → Prop, (∀ σ' H', N σ' H' → ∃ m', m' < m ∧ W (i + 1) m' σ' H') ∧ ∀ x H', J.yld i H x H' → g x σ H' fun σ2 H2 => tb { D with nx := N, ct := N, bk := D.nx } σ2 H2)
/-- the records at fp as they stand -/
def pinsAt (fp : List Addr) (h : Heap) : List (Addr × Obj) := fp.filterMap fun b => (h.get? b).map fun o => (b, o)
theorem mem_pinsAt {fp : List Addr} {h : Heap} {b : Addr} {o : Obj} (hb : b ∈ fp) (e : h.get? b = some o) : (b, o) ∈ pinsAt fp h := List.mem_filterMap.mpr ⟨b, hb, by rw [e]; rfl⟩
theorem of_pinsAt {fp : List Addr} {h : Heap} {p : Addr × Obj} (hp : p ∈ pinsAt fp h) : p.1 ∈ fp ∧ h.get? p.1 = some p.2 := by
  obtain ⟨b, hb, e⟩ := List.mem_filterMap.mp hp
  cases q : h.get? b with
  | none => rw [q] at e; cases e
  | some o =>
    rw [q] at e
    have e' : (b, o) = p := Option.some.inj e
    subst e'
    exact ⟨hb, q⟩
theorem Inv.pinned {pins : List (Addr × Obj)} {σ : St} {H : Hp} {s : Shared} {fp : List Addr} (I : Inv X pins σ H s) (hf : ∀ b ∈ fp, FpOk X pins H b) (ho : ∀ b ∈ fp, ∃ o, s.heap.get? b = some o ∧ ∀ v, o.data ≠ .cell v) : Inv X (pins ++ pinsAt fp s.heap) σ H s :=
  I.pins_of fun p hp => (List.mem_append.mp hp).elim (fun z => I.pin p (List.mem_append_right _ z)) fun z => by
    obtain ⟨hb, e⟩ := of_pinsAt z
    obtain ⟨f0, f1, f2, _⟩ := hf p.1 hb
    obtain ⟨o, e', d⟩ := ho p.1 hb
    rw [e] at e'; cases e'
    exact ⟨e, f0, f1, f2, d⟩
theorem Inv.unpinned {pins pl : List (Addr × Obj)} {σ : St} {H : Hp} {s : Shared} (I : Inv X (pins ++ pl) σ H s) : Inv X pins σ H s := I.pins_of fun p hp => I.pin p (List.mem_append_right _ (List.mem_append_left _ hp))
theorem ps_for {iter : Expr} {body : List Stmt} {wi : TI} {g : TG} {tb : TS} {pos : Pos} (hp : PassesOwn (model X.prog X.w) X.A X.env X.xe) (hc : X.calm = true) (hi : PI X tg iter wi) (hg : PG X tg g) (hb : PSs X body tb)
    (hs : ∀ x, foldedSetIterable iter X.env x = pure x := by intro _; rfl) : PS X (.For tg iter body [] pos) (tFor wi g tb) := by
  intro pins s σ H D I h
  refine wpAny_For (thn (hi pins s σ H _ I h) fun v s1 h1 => thn h1 fun itv s2 h2 => ?_) hs
  obtain ⟨it, fp, tn, J, H2, e, I2, T, st2, f2, W, ⟨m0, w0⟩, turn⟩ := h2
  subst e
  -- what stays true of the iterator's objects through the loop
  have stat : ∀ {H' : Hp}, (∀ b ∈ fp, H' b = none) → ∀ b ∈ fp, FpOk X pins H' b := fun hn b hb => ⟨hn b hb, (f2 b hb).2⟩
  refine codeAny_forLoop_any (fun n s' => ∃ i σ' H', Inv X pins σ' H' s' ∧ tn i s'.heap ∧ (∀ b ∈ fp, H' b = none) ∧ W i n σ' H') ?_ m0 ⟨0, σ, H2, I2, st2, fun b hb => (f2 b hb).1, w0⟩
  rintro n s3 ⟨i, σ3, H3, I3, st3, fr3, w3⟩
  rcases turn i n σ3 H3 w3 with ⟨stop, qn⟩ | ⟨go, N, hN, step⟩
  · refine wpAny_passesOwn hp (thn (T.done X rfl rfl rfl hc i pins s3 σ3 H3 X.xe I3 (stat fr3) st3 stop) fun r s4 ⟨hr, I4⟩ => ?_)
    subst hr
    exact wpAny_execs_nil ⟨σ3, H3, I4, qn⟩
  · refine wpAny_passesOwn hp (thn (T.item X rfl rfl rfl hc i pins s3 σ3 H3 X.xe I3 (stat fr3) st3 go) fun r s4 ⟨u, hr, h4⟩ => ?_)
    subst hr
    refine wpAny_passesOwn hp (thn h4 fun _ s5 ⟨x, H5, I5, r5, y5, st5, fr5⟩ => ?_)
    have I5' := I5.pinned (stat fr5) (T.obj _ _ st5)
    refine wpAny_passesOwn hp (thn (hg _ s5 σ3 H5 x u _ I5' r5 (step x H5 y5)) fun _ s6 ⟨σ6, H6, I6, q6⟩ => ?_)
    refine wpAny_passesOwn hp (thn (hb _ s6 σ6 H6 _ I6 q6) fun f s7 q7 => ?_)
    have again : ∀ {σ7 : St} {H7 : Hp}, Inv X (pins ++ pinsAt fp s5.heap) σ7 H7 s7 → N σ7 H7 → ∃ m, m < n ∧ ∃ i σ' H', Inv X pins σ' H' s7 ∧ tn i s7.heap ∧ (∀ b ∈ fp, H' b = none) ∧ W i m σ' H' := fun {σ7 H7} I7 n7 => by
      obtain ⟨m', hm, w7⟩ := hN σ7 H7 n7
      refine ⟨m', hm, i + 1, σ7, H7, I7.unpinned, T.keep _ _ _ st5 fun b hb o e => (I7.pin (b, o) (List.mem_append_right _ (List.mem_append_right _ (mem_pinsAt hb e)))).1, fun b hb => ?_, w7⟩
      obtain ⟨o, e, d⟩ := T.obj _ _ st5 b hb
      exact (I7.pin (b, o) (List.mem_append_right _ (List.mem_append_right _ (mem_pinsAt hb e)))).2.1
    cases f with
    | next => obtain ⟨σ7, H7, I7, n7⟩ := q7; exact again I7 n7
    | cont => obtain ⟨σ7, H7, I7, n7⟩ := q7; exact again I7 n7
    | brk => obtain ⟨σ7, H7, I7, q7⟩ := q7; exact ⟨σ7, H7, I7.unpinned, q7⟩
    | ret v => obtain ⟨x7, σ7, H7, I7, r7, q7⟩ := q7; exact ⟨x7, σ7, H7, I7.unpinned, r7, q7⟩
end

/-! ### the forms one uses -/
/-- over a list that the body leaves as it is -/
theorem for_list {K : PySem.W.Frag} {a : Addr} {xs : List V} {g : TG} {tb : TS} {D : Ends} {σ : St} {H : Hp} (Pv : Nat → St → Hp → Prop) (h0 : Pv 0 σ H) (hl : ∀ i σ H, i ≤ xs.length → Pv i σ H → SqL K H a xs)
    (hs : ∀ i x σ H, xs[i]? = some x → Pv i σ H → g x σ H fun σ2 H2 => tb { D with nx := Pv (i + 1), ct := Pv (i + 1), bk := D.nx } σ2 H2) (hd : ∀ σ H, Pv xs.length σ H → D.nx σ H) :
    ∃ W : Nat → Nat → St → Hp → Prop, (∃ m, W 0 m σ H) ∧ ∀ i m σ H, W i m σ H →
      ((Itl K a).stop i H ∧ D.nx σ H) ∨ ((Itl K a).go i H ∧ ∃ N : St → Hp → Prop, (∀ σ' H', N σ' H' → ∃ m', m' < m ∧ W (i + 1) m' σ' H') ∧ ∀ x H', (Itl K a).yld i H x H' → g x σ H' fun σ2 H2 => tb { D with nx := N, ct := N, bk := D.nx } σ2 H2) := by
  refine ⟨fun i m σ H => m = xs.length - i ∧ i ≤ xs.length ∧ Pv i σ H, ⟨xs.length, by simp, Nat.zero_le _, h0⟩, ?_⟩
  rintro i m σ H ⟨rfl, hi, p⟩
  have q := hl i σ H hi p
  by_cases hlt : i < xs.length
  · refine .inr ⟨⟨xs, xs[i], q, by simp [hlt]⟩, Pv (i + 1), fun σ' H' p' => ⟨xs.length - (i + 1), by omega, rfl, hlt, p'⟩, fun x H' y => ?_⟩
    obtain ⟨e, y⟩ := y
    subst e
    exact hs i x σ _ (y xs q) p
  · have e : i = xs.length := by omega
    subst e
    exact .inl ⟨⟨xs, q, Nat.le_refl _⟩, hd σ H p⟩
theorem for_range {lo : Int} {n : Nat} {g : TG} {tb : TS} {D : Ends} {σ : St} {H : Hp} (Pv : Nat → St → Hp → Prop) (h0 : Pv 0 σ H)
    (hs : ∀ i σ H, i < n → Pv i σ H → g (.int (lo + i)) σ H fun σ2 H2 => tb { D with nx := Pv (i + 1), ct := Pv (i + 1), bk := D.nx } σ2 H2) (hd : ∀ σ H, Pv n σ H → D.nx σ H) :
    ∃ W : Nat → Nat → St → Hp → Prop, (∃ m, W 0 m σ H) ∧ ∀ i m σ H, W i m σ H →
      ((Itr lo n).stop i H ∧ D.nx σ H) ∨ ((Itr lo n).go i H ∧ ∃ N : St → Hp → Prop, (∀ σ' H', N σ' H' → ∃ m', m' < m ∧ W (i + 1) m' σ' H') ∧ ∀ x H', (Itr lo n).yld i H x H' → g x σ H' fun σ2 H2 => tb { D with nx := N, ct := N, bk := D.nx } σ2 H2) := by
  refine ⟨fun i m σ H => m = n - i ∧ i ≤ n ∧ Pv i σ H, ⟨n, by simp, Nat.zero_le _, h0⟩, ?_⟩
  rintro i m σ H ⟨rfl, hi, p⟩
  by_cases hlt : i < n
  · refine .inr ⟨hlt, Pv (i + 1), fun σ' H' p' => ⟨n - (i + 1), by omega, rfl, hlt, p'⟩, fun x H' y => ?_⟩
    obtain ⟨e, y⟩ := y
    subst e y
    exact hs i σ _ hlt p
  · have e : i = n := by omega
    subst e
    exact .inl ⟨Nat.le_refl _, hd σ H p⟩
end L2

namespace L2
open PySem PySem.Spec PyProof.Rows

abbrev R2 := V → V → Hp → VK → Prop
/-- a two-place operation on values: f is binaryOp op, inplaceOp op or compareOp op -/
def OpR (X : Cx) (f : Value → Value → Sem Value) (r : R2) : Prop :=
  ∀ (pins : List (Addr × Obj)) (s : Shared) (σ : St) (H : Hp) (x y : V) (v u : Value) (Q : VK), Inv X pins σ H s → RelV x v → RelV y u → r x y H Q →
    wpAny (model X.prog X.w) X.A (f v u) (EP X pins σ Q) X.xe s
/-- a one-place operation -/
def UnR (X : Cx) (f : Value → Sem Value) (r : V → Hp → VK → Prop) : Prop :=
  ∀ (pins : List (Addr × Obj)) (s : Shared) (σ : St) (H : Hp) (x : V) (v : Value) (Q : VK), Inv X pins σ H s → RelV x v → r x H Q →
    wpAny (model X.prog X.w) X.A (f v) (EP X pins σ Q) X.xe s
/-- a call of a value that is known (a builtin, a type) with values -/
def CallR (X : Cx) (f : Value) (r : List V → Hp → VK → Prop) : Prop :=
  ∀ (pins : List (Addr × Obj)) (s : Shared) (σ : St) (H : Hp) (xs : List V) (us : List Value) (Q : VK), Inv X pins σ H s → Vals xs us → r xs H Q →
    wpAny (model X.prog X.w) X.A (call f us) (EP X pins σ Q) X.xe s
/-- a value's truth -/
def TruR (X : Cx) (r : V → Hp → (Bool → Hp → Prop) → Prop) : Prop :=
  ∀ (pins : List (Addr × Obj)) (s : Shared) (σ : St) (H : Hp) (x : V) (v : Value) (Q : Bool → Hp → Prop), Inv X pins σ H s → RelV x v → r x H Q →
    wpAny (model X.prog X.w) X.A (truthy v) (TP X pins σ Q) X.xe s

def tOp (r : R2) (ta tb : TE) : TE := fun σ H Q => ta σ H fun x H1 => tb σ H1 fun y H2 => r x y H2 Q
def tUn (r : V → Hp → VK → Prop) (ta : TE) : TE := fun σ H Q => ta σ H fun x H1 => r x H1 Q
/-- ints in, under C, and a value out -/
def rI (C : Int → Int → Prop) (g : Int → Int → V) : R2 := fun x y H Q => ∃ i j, x = .int i ∧ y = .int j ∧ C i j ∧ Q (g i j) H
def rI0 (g : Int → Int → V) : R2 := fun x y H Q => ∃ i j, x = .int i ∧ y = .int j ∧ Q (g i j) H
def rU (g : Int → V) : V → Hp → VK → Prop := fun x H Q => ∃ i, x = .int i ∧ Q (g i) H

section
variable {X : Cx} {a b c : Expr} {ta tb tc : TE} {pos : Pos}

theorem binT (ha : PE X a ta) (hb : PE X b tb) {pins : List (Addr × Obj)} {s : Shared} {σ : St} {H : Hp} {R : V → V → Hp → Prop} (I : Inv X pins σ H s)
    (h : ta σ H fun x H1 => tb σ H1 fun y H2 => R x y H2) {Q : Value → Shared → Prop} {f : Value → Value → Sem Value}
    (hf : ∀ v u s2 x y H2, Inv X pins σ H2 s2 → RelV x v → RelV y u → R x y H2 → wpAny (model X.prog X.w) X.A (f v u) Q X.xe s2) :
    wpAny (model X.prog X.w) X.A (eval a X.env) (fun v s₁ => wpAny (model X.prog X.w) X.A (eval b X.env) (fun u s₂ => wpAny (model X.prog X.w) X.A (f v u) Q X.xe s₂) X.xe s₁) X.xe s := by
  refine thn (ha pins s σ H _ I h) fun v s1 ⟨x, H1, I1, r1, q1⟩ => ?_
  refine thn (hb pins s1 σ H1 _ I1 q1) fun u s2 ⟨y, H2, I2, r2, q2⟩ => ?_
  exact hf v u s2 x y H2 I2 r1 r2 q2

theorem pe_op {op : Operator} {r : R2} (ho : OpR X (binaryOp op) r) (ha : PE X a ta) (hb : PE X b tb) : PE X (.BinOp a op b pos) (tOp r ta tb) := by
  intro pins s σ H Q I h
  exact wpAny_BinOp (binT ha hb I h fun v u s2 x y H2 I2 rx ry q => ho pins s2 σ H2 x y v u Q I2 rx ry q)
theorem pe_un {op : UnaryOp} {r : V → Hp → VK → Prop} (ho : UnR X (unaryOp op) r) (ha : PE X a ta) : PE X (.UnaryOp op a pos) (tUn r ta) := by
  intro pins s σ H Q I h
  exact UnaryOp_ (thn (ha pins s σ H _ I h) fun v s1 ⟨x, H1, I1, r1, q1⟩ => ho pins s1 σ H1 x v Q I1 r1 q1)

/-! ### ints -/
theorem opI {f : Value → Value → Sem Value} {C : Int → Int → Prop} {g : Int → Int → Int}
    (rule : ∀ (i j : Int) (t u : Tok) (s : Shared) (Q : Value → Shared → Prop) (E : Value → Shared → Prop), C i j → Q (.int (g i j) s.toks) { s with toks := s.toks + 1 } → wpAny (model X.prog X.w) X.A (f (.int i t) (.int j u)) Q E s) :
    OpR X f (rI C fun i j => .int (g i j)) := by
  intro pins s σ H x y v u Q I rx ry h
  obtain ⟨i, j, rfl, rfl, hc, q⟩ := h
  obtain ⟨t, rfl⟩ := rx
  obtain ⟨t', rfl⟩ := ry
  exact rule i j t t' s _ _ hc ⟨.int (g i j), H, I.tok _, ⟨_, rfl⟩, q⟩
theorem opI0 {f : Value → Value → Sem Value} {g : Int → Int → Int}
    (rule : ∀ (i j : Int) (t u : Tok) (s : Shared) (Q : Value → Shared → Prop) (E : Value → Shared → Prop), Q (.int (g i j) s.toks) { s with toks := s.toks + 1 } → wpAny (model X.prog X.w) X.A (f (.int i t) (.int j u)) Q E s) :
    OpR X f (rI0 fun i j => .int (g i j)) := by
  intro pins s σ H x y v u Q I rx ry h
  obtain ⟨i, j, rfl, rfl, q⟩ := h
  obtain ⟨t, rfl⟩ := rx
  obtain ⟨t', rfl⟩ := ry
  exact rule i j t t' s _ _ ⟨.int (g i j), H, I.tok _, ⟨_, rfl⟩, q⟩
theorem opB0 {f : Value → Value → Sem Value} {g : Int → Int → Bool}
    (rule : ∀ (i j : Int) (t u : Tok) (s : Shared) (Q : Value → Shared → Prop) (E : Value → Shared → Prop), Q (.bool (g i j)) s → wpAny (model X.prog X.w) X.A (f (.int i t) (.int j u)) Q E s) :
    OpR X f (rI0 fun i j => .bl (g i j)) := by
  intro pins s σ H x y v u Q I rx ry h
  obtain ⟨i, j, rfl, rfl, q⟩ := h
  obtain ⟨t, rfl⟩ := rx
  obtain ⟨t', rfl⟩ := ry
  exact rule i j t t' s _ _ ⟨.bl (g i j), H, I, rfl, q⟩

def CDiv (i j : Int) : Prop := 0 < j ∧ j < 1073741824
def CPow (i j : Int) : Prop := 0 ≤ j ∧ j ≤ 1000000 ∧ i.natAbs < 2 ^ 64
def CMul (i j : Int) : Prop := (-(2 ^ 64) < i ∧ i < 2 ^ 64) ∨ (-(2 ^ 64) < j ∧ j < 2 ^ 64)
theorem CMul.ok {i j : Int} (h : CMul i j) : IntMulOk i j := by
  rcases h with ⟨h1, h2⟩ | ⟨h1, h2⟩
  · exact .of_left (intBits_le_64 h1 h2)
  · exact .of_right (intBits_le_64 h1 h2)
theorem two_pow_nn (k : Nat) : (0 : Int) ≤ 2 ^ k := by
  rw [two_pow_cast]
  exact Int.natCast_nonneg _

theorem op_add : OpR X (binaryOp .Add) (rI0 fun i j => .int (i + j)) := opI0 fun _ _ _ _ _ _ _ q => add_int q
theorem op_sub : OpR X (binaryOp .Sub) (rI0 fun i j => .int (i - j)) := opI0 fun _ _ _ _ _ _ _ q => sub_int q
theorem op_mul : OpR X (binaryOp .Mult) (rI CMul fun i j => .int (i * j)) := opI fun _ _ _ _ _ _ _ hc q => mul_int q hc.ok
/-- // by a positive divisor -/
theorem op_fdiv : OpR X (binaryOp .FloorDiv) (rI CDiv fun i j => .int (i / j)) := opI fun i j _ _ _ _ _ hc q => by
  have h1 : (0 : Int) < j := hc.1
  have h2 : j < 1073741824 := hc.2
  exact floordiv_int (by omega) (by rw [Int.fdiv_eq_ediv_of_nonneg i (by omega)]; exact q) (.inl (PyProof.noPylong_small (by omega)))
/-- % by a positive divisor of any size -/
theorem op_mod : OpR X (binaryOp .Mod) (rI (fun _ j => 0 < j) fun i j => .int (i % j)) := opI fun i j _ _ _ _ _ hc q => by
  have h1 : (0 : Int) < j := hc
  exact mod_int' (by omega) (by rw [Int.fmod_eq_emod_of_nonneg i (by omega)]; exact q)
theorem op_shl : OpR X (binaryOp .LShift) (rI CPow fun i j => .int (i * 2 ^ j.toNat)) := opI fun _ _ _ _ _ _ _ hc q => lshift_int_small hc.1 hc.2.1 hc.2.2 q
theorem op_shr : OpR X (binaryOp .RShift) (rI (fun _ j => 0 ≤ j) fun i j => .int (i / 2 ^ j.toNat)) := opI fun i j _ _ _ _ _ hc q =>
  rshift_int hc (by rw [Int.fdiv_eq_ediv_of_nonneg i (two_pow_nn _)]; exact q)
theorem op_and : OpR X (binaryOp .BitAnd) (rI0 fun i j => .int (Builtin.bitAnd i j)) := opI0 fun _ _ _ _ _ _ _ q => and_int q
theorem op_or : OpR X (binaryOp .BitOr) (rI0 fun i j => .int (Builtin.bitOr i j)) := opI0 fun _ _ _ _ _ _ _ q => or_int q


theorem unI {f : Value → Sem Value} {g : Int → Int}
    (rule : ∀ (i : Int) (t : Tok) (s : Shared) (Q : Value → Shared → Prop) (E : Value → Shared → Prop), Q (.int (g i) s.toks) { s with toks := s.toks + 1 } → wpAny (model X.prog X.w) X.A (f (.int i t)) Q E s) :
    UnR X f (rU fun i => .int (g i)) := by
  intro pins s σ H x v Q I rx h
  obtain ⟨i, rfl, q⟩ := h
  obtain ⟨t, rfl⟩ := rx
  exact rule i t s _ _ ⟨.int (g i), H, I.tok _, ⟨_, rfl⟩, q⟩
theorem un_neg : UnR X (unaryOp .USub) (rU fun i => .int (-i)) := unI fun _ _ _ _ _ q => neg_int q

/-! ### bools among ints: n += (a < b) -/
end

/-! ### comparisons -/
/-- the scalars that == tells apart as data does -/
def scal : V → V → Bool
  | .non, .non => true | .non, .int _ => true | .int _, .non => true | .non, .bl _ => true | .bl _, .non => true | .non, .str _ => true | .str _, .non => true
  | .int _, .int _ => true | .bl _, .bl _ => true | .str _, .str _ => true | .byt _, .byt _ => true
  | .int _, .str _ => true | .str _, .int _ => true | .bl _, .str _ => true | .str _, .bl _ => true
  | _, _ => false
def rEq : R2 := fun x y H Q => scal x y = true ∧ Q (.bl (decide (x = y))) H
def rNe : R2 := fun x y H Q => scal x y = true ∧ Q (.bl (!decide (x = y))) H

theorem dec_int {i j : Int} : decide (V.int i = V.int j) = (i == j) := by
  rw [Bool.eq_iff_iff]
  simp
theorem dec_bl {i j : Bool} : decide (V.bl i = V.bl j) = (i == j) := by
  rw [Bool.eq_iff_iff]
  simp
theorem dec_str {i j : Str} : decide (V.str i = V.str j) = (i == j) := by
  rw [Bool.eq_iff_iff]
  simp
theorem dec_byt {i j : Array UInt8} : decide (V.byt i = V.byt j) = (i.toList == j.toList) := by
  rw [Bool.eq_iff_iff]
  cases i
  cases j
  simp

section
variable {X : Cx} {a b c : Expr} {ta tb tc : TE} {pos : Pos}
theorem fin_bl {pins : List (Addr × Obj)} {σ : St} {H : Hp} {s : Shared} {Q : VK} {k k' : Bool} (I : Inv X pins σ H s) (q : Q (.bl k) H) (e : k = k') : EP X pins σ Q (.bool k') s := by
  subst e
  exact ⟨.bl k, H, I, rfl, q⟩
theorem op_eq : OpR X (compareOp .Eq) rEq := by
  intro pins s σ H x y v u Q I rx ry h
  obtain ⟨hs, q⟩ := h
  cases x with
  | non =>
    cases rx
    cases y with
    | non => cases ry; exact PySem.EqNone.eq_none_none (fin_bl I q (by simp))
    | bl j => cases ry; exact PySem.EqNone.eq_none_bool (fin_bl I q (by simp))
    | int j => obtain ⟨t', rfl⟩ := ry; exact PySem.EqNone.eq_none_int (fin_bl I q (by simp))
    | str j => obtain ⟨t', rfl⟩ := ry; exact PySem.EqNone.eq_none_str (fin_bl I q (by simp))
    | _ => exact absurd (show false = true from hs) Bool.false_ne_true
  | bl i =>
    cases rx
    cases y with
    | non => cases ry; exact PySem.EqNone.eq_bool_none (fin_bl I q (by simp))
    | bl j => cases ry; exact eq_bool (fin_bl I q dec_bl)
    | str j => obtain ⟨t', rfl⟩ := ry; exact PySem.EqMixed.eq_bool_str (fin_bl I q (by simp))
    | _ => exact absurd (show false = true from hs) Bool.false_ne_true
  | int i =>
    obtain ⟨t, rfl⟩ := rx
    cases y with
    | non => cases ry; exact PySem.EqNone.eq_int_none (fin_bl I q (by simp))
    | int j => obtain ⟨t', rfl⟩ := ry; exact eq_int (fin_bl I q dec_int)
    | str j => obtain ⟨t', rfl⟩ := ry; exact PySem.EqMixed.eq_int_str (fin_bl I q (by simp))
    | _ => exact absurd (show false = true from hs) Bool.false_ne_true
  | str i =>
    obtain ⟨t, rfl⟩ := rx
    cases y with
    | non => cases ry; exact PySem.EqNone.eq_str_none (fin_bl I q (by simp))
    | bl j => cases ry; exact PySem.EqMixed.eq_str_bool (fin_bl I q (by simp))
    | int j => obtain ⟨t', rfl⟩ := ry; exact PySem.EqMixed.eq_str_int (fin_bl I q (by simp))
    | str j => obtain ⟨t', rfl⟩ := ry; exact eq_str (fin_bl I q dec_str)
    | _ => exact absurd (show false = true from hs) Bool.false_ne_true
  | byt i =>
    obtain ⟨t, rfl⟩ := rx
    cases y with
    | byt j => obtain ⟨t', rfl⟩ := ry; exact PySem.W.eq_bytes (fin_bl I q dec_byt)
    | _ => exact absurd (show false = true from hs) Bool.false_ne_true
  | _ => cases y <;> exact absurd (show false = true from hs) Bool.false_ne_true
theorem op_ne : OpR X (compareOp .NotEq) rNe := by
  intro pins s σ H x y v u Q I rx ry h
  obtain ⟨hs, q⟩ := h
  cases x with
  | non =>
    cases rx
    cases y with
    | non => cases ry; exact PySem.EqNone.ne_none_none (fin_bl I q (by simp))
    | bl j => cases ry; exact PySem.EqNone.ne_none_bool (fin_bl I q (by simp))
    | int j => obtain ⟨t', rfl⟩ := ry; exact PySem.EqNone.ne_none_int (fin_bl I q (by simp))
    | str j => obtain ⟨t', rfl⟩ := ry; exact PySem.EqNone.ne_none_str (fin_bl I q (by simp))
    | _ => exact absurd (show false = true from hs) Bool.false_ne_true
  | bl i =>
    cases rx
    cases y with
    | non => cases ry; exact PySem.EqNone.ne_bool_none (fin_bl I q (by simp))
    | bl j => cases ry; exact ne_bool (fin_bl I q (congrArg not dec_bl))
    | str j => obtain ⟨t', rfl⟩ := ry; exact PySem.EqMixed.ne_bool_str (fin_bl I q (by simp))
    | _ => exact absurd (show false = true from hs) Bool.false_ne_true
  | int i =>
    obtain ⟨t, rfl⟩ := rx
    cases y with
    | non => cases ry; exact PySem.EqNone.ne_int_none (fin_bl I q (by simp))
    | int j => obtain ⟨t', rfl⟩ := ry; exact ne_int (fin_bl I q (congrArg not dec_int))
    | str j => obtain ⟨t', rfl⟩ := ry; exact PySem.EqMixed.ne_int_str (fin_bl I q (by simp))
    | _ => exact absurd (show false = true from hs) Bool.false_ne_true
  | str i =>
    obtain ⟨t, rfl⟩ := rx
    cases y with
    | non => cases ry; exact PySem.EqNone.ne_str_none (fin_bl I q (by simp))
    | bl j => cases ry; exact PySem.EqMixed.ne_str_bool (fin_bl I q (by simp))
    | int j => obtain ⟨t', rfl⟩ := ry; exact PySem.EqMixed.ne_str_int (fin_bl I q (by simp))
    | str j => obtain ⟨t', rfl⟩ := ry; exact ne_str (fin_bl I q (congrArg not dec_str))
    | _ => exact absurd (show false = true from hs) Bool.false_ne_true
  | byt i =>
    obtain ⟨t, rfl⟩ := rx
    cases y with
    | byt j => obtain ⟨t', rfl⟩ := ry; exact PySem.W.ne_bytes (fin_bl I q (congrArg not dec_byt))
    | _ => exact absurd (show false = true from hs) Bool.false_ne_true
  | _ => cases y <;> exact absurd (show false = true from hs) Bool.false_ne_true

theorem op_lt : OpR X (compareOp .Lt) (rI0 fun i j => .bl (decide (i < j))) := opB0 fun _ _ _ _ _ _ _ q => lt_int q
theorem op_le : OpR X (compareOp .LtE) (rI0 fun i j => .bl (decide (i ≤ j))) := opB0 fun _ _ _ _ _ _ _ q => le_int q
theorem op_gt : OpR X (compareOp .Gt) (rI0 fun i j => .bl (decide (j < i))) := opB0 fun _ _ _ _ _ _ _ q => gt_int q

/-- is None, is not None: the right side a value none -/
theorem op_isN : OpR X (compareOp .Is) (fun x y H Q => y = .non ∧ Q (.bl (decide (x = .non))) H) := by
  intro pins s σ H x y v u Q I rx ry h
  obtain ⟨rfl, q⟩ := h
  cases ry
  refine is_none_gen (fin_bl I q ?_)
  cases x <;> first
    | (cases rx; rfl)
    | (obtain ⟨t, rfl⟩ := rx; rfl)
theorem op_notN : OpR X (compareOp .IsNot) (fun x y H Q => y = .non ∧ Q (.bl (!decide (x = .non))) H) := by
  intro pins s σ H x y v u Q I rx ry h
  obtain ⟨rfl, q⟩ := h
  cases ry
  refine isnot_none_gen (fin_bl I q ?_)
  cases x <;> first
    | (cases rx; rfl)
    | (obtain ⟨t, rfl⟩ := rx; rfl)


/-- two rules for one operation: by cases -/
theorem OpR.or {f : Value → Value → Sem Value} {r r' : R2} (h : OpR X f r) (h' : OpR X f r') : OpR X f (fun x y H Q => r x y H Q ∨ r' x y H Q) := by
  intro pins s σ H x y v u Q I rx ry q
  rcases q with q | q
  · exact h pins s σ H x y v u Q I rx ry q
  · exact h' pins s σ H x y v u Q I rx ry q

theorem nomark (b : Expr) {op : CmpOp} (h : op ≠ .In := by decide) (h2 : op ≠ .NotIn := by decide) : behindInMarks op b = false := by
  have e1 : (op == CmpOp.In) = false := by cases op <;> first | rfl | exact absurd rfl h
  have e2 : (op == CmpOp.NotIn) = false := by cases op <;> first | rfl | exact absurd rfl h2
  cases b <;> simp [behindInMarks, e1, e2]
/-- a comparison as a value; hm: nomark b, or (for in, not in) by with_unfolding_all rfl -/
theorem pe_cmpR {op : CmpOp} {r : R2} (ho : OpR X (compareOp op) r) (ha : PE X a ta) (hb : PE X b tb) (hm : behindInMarks op b = false) : PE X (.Compare a [op] [b] pos) (tOp r ta tb) := by
  intro pins s σ H Q I h
  exact wpAny_Compare1 (binT ha hb I h fun v u s2 x y H2 I2 rx ry q => ho pins s2 σ H2 x y v u Q I2 rx ry q) hm
/-- a reading of a value as a test -/
def tTest (t : TE) : TT := fun σ H Q => t σ H fun x H' => ∃ k, x = .bl k ∧ Q k H'
theorem pt_cmpR {op : CmpOp} {r : R2} (ho : OpR X (compareOp op) r) (ha : PE X a ta) (hb : PE X b tb) (hm : behindInMarks op b = false) : PT X (.Compare a [op] [b] pos) (tTest (tOp r ta tb)) := by
  intro pins s σ H Q I h
  refine wpAny_isTrue_Compare1 (thn (ha pins s σ H _ I h) fun v s1 ⟨x, H1, I1, r1, q1⟩ => thn (hb pins s1 σ H1 _ I1 q1) fun u s2 ⟨y, H2, I2, r2, q2⟩ =>
    thn (ho pins s2 σ H2 x y v u _ I2 r1 r2 q2) fun c s3 ⟨z, H3, I3, r3, k, e, q3⟩ => ?_) hm
  subst e
  cases r3
  exact wpAny_truthy_bool ⟨H3, I3, q3⟩
/-- a op1 b op2 c -/
def tChain (r r' : R2) (ta tb tc : TE) : TE := fun σ H Q => ta σ H fun x H1 => tb σ H1 fun y H2 => r x y H2 fun z H3 => ∃ k, z = .bl k ∧
  (if k = true then tc σ H3 fun w' H4 => r' y w' H4 Q else Q (.bl false) H3)
theorem pe_chain {op op' : CmpOp} {r r' : R2} (ho : OpR X (compareOp op) r) (ho' : OpR X (compareOp op') r') (ha : PE X a ta) (hb : PE X b tb) (hc : PE X c tc)
    (hm : lastMarks [op, op'] [b, c] = false := by with_unfolding_all rfl) : PE X (.Compare a [op, op'] [b, c] pos) (tChain r r' ta tb tc) := by
  intro pins s σ H Q I h
  refine Compare_chain (thn (ha pins s σ H _ I h) fun v s1 ⟨x, H1, I1, r1, q1⟩ => chain_link (thn (hb pins s1 σ H1 _ I1 q1) fun u s2 ⟨y, H2, I2, r2, q2⟩ =>
    thn (ho pins s2 σ H2 x y v u _ I2 r1 r2 q2) fun d s3 ⟨z, H3, I3, r3, k, e, q3⟩ => ?_)) hm
  subst e
  cases r3
  refine wpAny_truthy_bool ?_
  cases k with
  | false => exact ite_ff ⟨.bl false, H3, I3, rfl, q3⟩
  | true => exact ite_tt (chain_last (thn (hc pins s3 σ H3 _ I3 q3) fun w' s4 ⟨z', H4, I4, r4, q4⟩ => ho' pins s4 σ H4 y z' u w' Q I4 r2 r4 q4))

/-! ### truth -/
/-- a value's truth by the abstract heap -/
def TruV (K : PySem.W.Frag) (x : V) (H : Hp) (k : Bool) : Prop :=
  match x with
  | .non => k = false
  | .bl b => k = b
  | .int i => k = (i != 0)
  | .str y => y.length ≤ sizeLine ∧ k = ((y.length : Int) != 0)
  | .byt y => y.size ≤ sizeLine ∧ k = ((y.size : Int) != 0)
  | .ref p => (∃ xs, SqL K H p xs ∧ k = !xs.isEmpty) ∨ (∃ xs, SqT K H p xs ∧ k = !xs.isEmpty) ∨ ∃ kvs, H p = some (.dK kvs) ∧ k = !kvs.isEmpty
  | _ => False
theorem isEmpty_kv {κ : Type} {kvs : List (κ × V)} {vs : List (κ × Value)} (r : KV kvs vs) : (!vs.isEmpty) = !kvs.isEmpty := by
  cases r <;> rfl
theorem isEmpty_of {xs : List V} {its : List Value} (r : Vals xs its) : (!its.toArray.isEmpty) = !xs.isEmpty := by
  cases r <;> simp
theorem line63 : (sizeLine : Nat) < 2 ^ 63 := by rw [sizeLine_eq]; decide
theorem tru_ok : TruR X (fun x H Q => ∃ k, TruV X.K x H k ∧ Q k H) := by
  intro pins s σ H x v Q I rx h
  obtain ⟨k, e, q⟩ := h
  have hl := line63
  have hs : sizeLine = 16777216 := sizeLine_eq
  cases x with
  | non =>
    cases rx
    have e' : k = false := e
    subst e'
    exact truthy_none ⟨H, I, q⟩
  | bl b =>
    cases rx
    have e' : k = b := e
    subst e'
    exact wpAny_truthy_bool ⟨H, I, q⟩
  | int i =>
    obtain ⟨t, rfl⟩ := rx
    have e' : k = (i != 0) := e
    subst e'
    exact PySem.P.truthy_int ⟨H, I, q⟩
  | str y =>
    obtain ⟨t, rfl⟩ := rx
    obtain ⟨hy, e'⟩ : y.length ≤ sizeLine ∧ k = ((y.length : Int) != 0) := e
    subst e'
    exact PySem.P.truthy_str (by omega) ⟨H, I.tok _, q⟩
  | byt y =>
    obtain ⟨t, rfl⟩ := rx
    obtain ⟨hy, e'⟩ : y.size ≤ sizeLine ∧ k = ((y.size : Int) != 0) := e
    subst e'
    exact PySem.W.truthy_bytes (by omega) ⟨H, I.tok _, q⟩
  | ref p =>
    cases rx
    have e' : (∃ xs, SqL X.K H p xs ∧ k = !xs.isEmpty) ∨ (∃ xs, SqT X.K H p xs ∧ k = !xs.isEmpty) ∨ ∃ kvs, H p = some (.dK kvs) ∧ k = !kvs.isEmpty := e
    rcases e' with ⟨xs, hx, e'⟩ | ⟨xs, hx, e'⟩ | ⟨kvs, hx, e'⟩
    · subst e'
      obtain ⟨its, r, pl, hz⟩ := I.list hx
      have hlen := r.length
      exact wpAny_truthy_list pl.isList (by simp only [List.size_toArray]; omega) ⟨H, I.tok _, by rw [isEmpty_of r]; exact q⟩
    · subst e'
      obtain ⟨its, r, pl, hz⟩ := I.tuple hx
      have hlen := r.length
      exact truthy_tuple pl (by simp only [List.size_toArray]; omega) ⟨H, I.tok _, by rw [isEmpty_of r]; exact q⟩
    · subst e'
      obtain ⟨hz, hS, vs, r, m⟩ : kvs.length ≤ sizeLine ∧ (p == sysModules) = false ∧ ∃ vs, KV kvs vs ∧ s.heap.DictOf (mixKind X.prog X.w) p vs := I.hok p _ hx
      have hlen : kvs.length = vs.length := Paired.length r
      exact wpAny_truthy_dict hS m (by omega) ⟨H, I.tok _, by rw [isEmpty_kv r]; exact q⟩
  | _ => exact (show False from e).elim
/-- any expression whose test is its value's truth (a name, a call, a subscript, a field ..: he by fun _ => rfl) -/
theorem pt_truth (ha : PE X a ta) (he : ∀ whole, isTrue a X.env whole = (do let v ← whole; standAt a.pos; holding [v] (truthy v))) :
    PT X a (fun σ H Q => ta σ H fun x H' => ∃ k, TruV X.K x H' k ∧ Q k H') := by
  intro pins s σ H Q I h
  exact isTrue_plain (thn (ha pins s σ H _ I h) fun v s1 ⟨x, H1, I1, r1, q1⟩ => tru_ok pins s1 σ H1 x v Q I1 r1 q1) (he _)

/-! ### strs and bytes -/
theorem op_add_str : OpR X (binaryOp .Add) (fun x y H Q => ∃ i j, x = .str i ∧ y = .str j ∧ i.length + j.length ≤ sizeLine ∧ Q (.str (i ++ j)) H) := by
  intro pins s σ H x y v u Q I rx ry h
  obtain ⟨i, j, rfl, rfl, hz, q⟩ := h
  obtain ⟨t, rfl⟩ := rx
  obtain ⟨t', rfl⟩ := ry
  exact add_str (fun t' tk => ⟨.str (i ++ j), H, I.tok _, ⟨_, rfl⟩, q⟩) hz


/-! ### scalar builtins, by CallR -/
theorem vals1 {x : V} {us : List Value} (r : Vals [x] us) : ∃ u, us = [u] ∧ RelV x u := by
  cases r with
  | cons r1 r2 => cases r2; exact ⟨_, rfl, r1⟩
theorem vals2 {x y : V} {us : List Value} (r : Vals [x, y] us) : ∃ u w', us = [u, w'] ∧ RelV x u ∧ RelV y w' := by
  cases r with
  | cons r1 r2 =>
    cases r2 with
    | cons r3 r4 => cases r4; exact ⟨_, _, rfl, r1, r3⟩
theorem call_int1 : CallR X (.type "int") (fun xs H Q => (∃ i, xs = [.int i] ∧ Q (.int i) H) ∨ ∃ k, xs = [.bl k] ∧ Q (.int (if k then 1 else 0)) H) := by
  intro pins s σ H xs us Q I r h
  rcases h with ⟨i, rfl, q⟩ | ⟨k, rfl, q⟩
  · obtain ⟨u, rfl, t, rfl⟩ := vals1 r
    exact call_int_int ⟨.int i, H, I, ⟨_, rfl⟩, q⟩
  · obtain ⟨u, rfl, r1⟩ := vals1 r
    cases r1
    exact call_int_bool ⟨.int (if k then 1 else 0), H, I.tok _, ⟨_, rfl⟩, q⟩
theorem call_str_int : CallR X (.type "str") (fun xs H Q => ∃ i, xs = [.int i] ∧ i.natAbs.log2 < 1920 ∧ Q (.str (toString i)) H) := by
  intro pins s σ H xs us Q I r h
  obtain ⟨i, rfl, hz, q⟩ := h
  obtain ⟨u, rfl, t, rfl⟩ := vals1 r
  exact PySem.P.str_of_int hz ⟨.str _, H, I.tok _, ⟨_, rfl⟩, q⟩
end
end L2

namespace L2
open PySem PySem.Spec PyProof.Rows

/-! ### an instance, its attributes a map -/
structure ObjM (h : Heap) (x dx C : Addr) (mA : Str → Option Value) : Prop where
  obj : h.get? x = some (PySem.W.instObj C dx)
  ns : h.Ns1 dx mA
  ne : dx ≠ x

theorem lookIn_ns {h : Heap} {dx : Addr} {mA : Str → Option Value} (n : h.Ns1 dx mA) : ∃ od, h.get? dx = some od ∧ ∀ name, PySem.W.lookIn name od = some (mA name) := by
  obtain ⟨o, es, ep, ho, hd, hk, _, hm⟩ := n
  refine ⟨o, ho, fun name => ?_⟩
  have e := hm name
  unfold nsFind findBy at e
  rw [← Array.find?_toList] at e
  unfold PySem.W.lookIn
  rw [hd]
  dsimp only
  split
  · rename_i y q
    rw [q] at e
    exact congrArg some e
  · rename_i q
    rw [q] at e
    have a : es.toList.any (·.refKey) = false := by
      rw [List.any_eq_false]
      intro y hy
      obtain ⟨z, t, hkey⟩ := hk y (Array.mem_toList_iff.mp hy)
      simp [DictEntry.refKey, hkey]
    have a' : ¬ es.toList.any (·.refKey) = true := by rw [a]; exact Bool.false_ne_true
    rw [if_neg a']
    exact congrArg some e

theorem ObjM.look {h : Heap} {x dx C : Addr} {mA : Str → Option Value} (I : ObjM h x dx C mA) : ∃ od, PySem.W.InstAt h x (PySem.W.instObj C dx) C (some od) ∧ ∀ name, PySem.W.lookIn name od = some (mA name) :=
  let ⟨od, ho, hl⟩ := lookIn_ns I.ns
  ⟨od, ⟨I.obj, rfl, rfl, ho⟩, hl⟩

section
variable {prog : Program} {w : World} {A : Around} {E : Value → Shared → Prop} {s : Shared} {K : PySem.W.Frag} {x dx C f : Addr} {mA : Str → Option Value} {name : Str} {v : Value}

theorem get_map {expr : Bool} {Q : Value → Shared → Prop} (X : K.In s.heap) (I : ObjM s.heap x dx C mA) (hg : PySem.W.plainGet K C name = true) (hh : PySem.W.hasDictIn K C = true)
    (ha : PySem.W.findIn K (.ref C) name = some none) (hv : mA name = some v) (hv' : PySem.W.handedIn v = true) (h : Q v { s with toks := s.toks + 1 }) :
    wpAny (model prog w) A (getAttr (.ref x) name expr) Q E s := by
  obtain ⟨od, J, hl⟩ := I.look
  exact PySem.W.get_value X J (PySem.W.plainGet_of hg).1 (PySem.W.findObj_own hh ha rfl (by rw [hl, hv])) hv' h


theorem get_meth {pl : Sem Bool} {Q : Value × List Value → Shared → Prop} (X : K.In s.heap) (I : ObjM s.heap x dx C mA) (hg : PySem.W.plainGet K C name = true)
    (hf : PySem.W.findIn K (.ref C) name = some (some (.ref f))) (ht : PySem.W.isFn K (.ref f) = true) (hv : mA name = none) (h : Q (.ref f, [.ref x]) s) :
    wpAny (model prog w) A (getMethod (.ref x) name pl) Q E s := by
  obtain ⟨od, J, hl⟩ := I.look
  exact PySem.W.method_fn X J (PySem.W.plainGet_of hg).1 (PySem.W.plainGet_of hg).2 hf (beq_iff_eq.mp ht) (by show (PySem.W.lookIn name od).map (·.isSome) = some false; rw [hl, hv]; rfl) h

theorem set_map {ns : List Str} {Q : Unit → Shared → Prop} (X : K.In s.heap) (I : ObjM s.heap x dx C mA)
    (hs : PySem.W.findIn K (.ref C) "__setattr__" = some (some (.builtin "object.__setattr__"))) (hp : PySem.W.plainOver K C = true) (ht : PySem.W.takerIn K C name = some none) (hh : PySem.W.hasDictIn K C = true)
    (hw : PySem.Within mA ns) (hsz : ns.length ≤ sizeLine)
    (h : ∀ h', ObjM h' x dx C (fun y => if y = name then some v else mA y) → Heap.SameBut dx s.heap h' → Q () { s with heap := h', toks := s.toks + 2 }) :
    wpAny (model prog w) A (setAttr (.ref x) name v) Q E s := by
  obtain ⟨od, J, hl⟩ := I.look
  refine PySem.W.set_plain X J hs (PySem.W.osa_open (s := { s with toks := s.toks + 1 }) (r := none) X J hp ht fun b => ?_)
  obtain ⟨cd, hc, hd'⟩ := PySem.W.any_some hh
  have hx : s.heap.get? x = some ⟨.ref C, some dx, .plain, #[]⟩ := I.obj
  refine wpAny_bind (wpAny_pure (wpAny_bind (wpAny_bind (wpAny_loadPart hx (wpAny_bind (PySem.W.Looks.here (s := { s with toks := s.toks + 1 }) (PySem.W.looks_clsIn X hc) ?_))))))
  rw [hd']
  refine wpAny_pure (a := some dx) (wpAny_bind (wpAny_pure (wpAny_bind ?_)))
  refine wpAny_nsSet1 (s := { s with toks := s.toks + 1 }) I.ns fun h' hn2 hs2 => ?_
  obtain ⟨oD, esD, epD, hoD, hdD, hcD⟩ := hn2.count (PySem.Within.cons name v hw)
  refine wpAny_bind (wpAny_lookBehind hoD (by rw [hdD]; exact pastItsLine_dict (Nat.le_trans hcD (by rw [List.length_cons]; omega))) ?_)
  exact wpAny_pure (h _ ⟨(hs2.2 _ (Ne.symm I.ne)).trans I.obj, hn2, I.ne⟩ hs2)

/-- C(..): the dict at the heap's end, the instance behind it; then its __init__ -/
theorem make_map {R : Result → Shared → Prop} {vs : List Value} {kw : List (Str × Value)} (X : K.In s.heap) (hm : PySem.W.makesIn K C = true)
    (hi : PySem.W.findIn K (.ref C) "__init__" = some (some (.ref f))) (hf : PySem.W.typeIn K (.ref f) = some (.type "function"))
    (h : codeAny (model prog w) (A.under (.builtin "type.__call__" ⟨.ref C :: vs, kw⟩)) (.call (.ref f) ⟨.ref (s.heap.objs.size + 1) :: vs, kw⟩) (PySem.W.InitBack (s.heap.objs.size + 1) R)
      { s with heap := (s.heap.push PySem.W.emptyDict).push (PySem.W.instObj C s.heap.objs.size) }) :
    codeAny (model prog w) A (.call (.ref C) ⟨vs, kw⟩) R s := by
  obtain ⟨hh, g, d, t, os⟩ := s
  exact PySem.W.make_core (PySem.W.makes_of X hm) (PySem.W.looks_findIn X hi) (fun self => PySem.W.bind_fn X self hf) (.inl rfl) h
end

/-! ### the attributes as a list of pairs -/
def putF (f : Str) (v : V) : List (Str × V) → List (Str × V)
  | [] => [(f, v)]
  | (g, x) :: r => if g = f then (g, v) :: r else (g, x) :: putF f v r
theorem lookup_putF (f g : Str) (v : V) : ∀ fs : List (Str × V), (putF f v fs).lookup g = if g = f then some v else fs.lookup g
  | [] => by
    show List.lookup g [(f, v)] = _
    by_cases h : g = f
    · have hb : (g == f) = true := beq_iff_eq.mpr h
      simp only [List.lookup, hb, if_pos h]
    · have hb : (g == f) = false := beq_eq_false_iff_ne.mpr h
      simp only [List.lookup, hb, if_neg h]
  | (k, x) :: r => by
    have ih := lookup_putF f g v r
    rw [show putF f v ((k, x) :: r) = (if k = f then (k, v) :: r else (k, x) :: putF f v r) from rfl]
    by_cases hk : k = f
    · rw [if_pos hk]
      by_cases h : g = k
      · have hb : (g == k) = true := beq_iff_eq.mpr h
        simp only [List.lookup, hb, if_pos (h.trans hk)]
      · have hb : (g == k) = false := beq_eq_false_iff_ne.mpr h
        simp only [List.lookup, hb, if_neg (fun e : g = f => h (e.trans hk.symm))]
    · rw [if_neg hk]
      by_cases h : g = k
      · have hb : (g == k) = true := beq_iff_eq.mpr h
        simp only [List.lookup, hb, if_neg (fun e : g = f => hk (h.symm.trans e))]
      · have hb : (g == k) = false := beq_eq_false_iff_ne.mpr h
        simp only [List.lookup, hb]
        exact ih
theorem keys_putF (f : Str) (v : V) : ∀ fs : List (Str × V), f ∈ (putF f v fs).map (·.1) ∧ ∀ g, g ∈ fs.map (·.1) → g ∈ (putF f v fs).map (·.1)
  | [] => ⟨by simp [putF], fun g h => by simp at h⟩
  | (k, x) :: r => by
    obtain ⟨i1, i2⟩ := keys_putF f v r
    rw [show putF f v ((k, x) :: r) = (if k = f then (k, v) :: r else (k, x) :: putF f v r) from rfl]
    by_cases hk : k = f
    · rw [if_pos hk]
      subst hk
      exact ⟨by simp, fun g h => by simpa using h⟩
    · rw [if_neg hk]
      refine ⟨?_, fun g h => ?_⟩
      · rw [List.map_cons]
        exact List.mem_cons_of_mem _ i1
      · rw [List.map_cons] at h ⊢
        rcases List.mem_cons.mp h with e | e
        · exact List.mem_cons.mpr (.inl e)
        · exact List.mem_cons_of_mem _ (i2 g e)
theorem length_putF (f : Str) (v : V) : ∀ fs : List (Str × V), (putF f v fs).length ≤ fs.length + 1
  | [] => by simp [putF]
  | (k, x) :: r => by
    have ih := length_putF f v r
    rw [show putF f v ((k, x) :: r) = (if k = f then (k, v) :: r else (k, x) :: putF f v r) from rfl]
    by_cases hk : k = f
    · rw [if_pos hk, List.length_cons, List.length_cons]; omega
    · rw [if_neg hk, List.length_cons, List.length_cons]; omega

theorem RelO.some_of {v : V} {o : Option Value} (r : RelO (some v) o) : ∃ u, o = some u ∧ RelV v u := by
  cases o with
  | none => exact (show False from r).elim
  | some u => exact ⟨u, rfl, r⟩
theorem RelO.none_of {o : Option Value} (r : RelO none o) : o = none := by
  cases o with
  | none => rfl
  | some u => exact (show False from r).elim
theorem handed_of {v : V} {u : Value} (r : RelV v u) : PySem.W.handedIn u = true := by
  cases v with
  | non => cases (show u = Value.none from r); rfl
  | bl b => cases (show u = Value.bool b from r); rfl
  | int i => obtain ⟨t, e⟩ := (show ∃ t, u = Value.int i t from r); cases e; rfl
  | str x => obtain ⟨t, e⟩ := (show ∃ t, u = Value.str x t from r); cases e; rfl
  | byt b => obtain ⟨t, e⟩ := (show ∃ t, u = Value.bytes b t from r); cases e; rfl
  | flt b => obtain ⟨t, e⟩ := (show ∃ t, u = Value.float b t from r); cases e; rfl
  | ref a => cases (show u = Value.ref a from r); rfl
  | ty n => cases (show u = Value.type n from r); rfl

section
variable {P : Program} {w : World} {H H' : Hp} {h h' : Heap} {a C dx : Addr} {fs fs' : List (Str × V)}
theorem ins_get (hok : HOk P w H h) (e : H a = some (.ins C dx fs)) : ∃ mA, ObjM h a dx C mA ∧ (∀ f, RelO (fs.lookup f) (mA f)) ∧ PySem.Within mA (fs.map (·.1)) ∧ fs.length ≤ 1000 ∧ H dx = some (.own a) := by
  obtain ⟨d, z, ne, ob, mA, n, r, q⟩ := (show ObjOk P w H h a (.ins C dx fs) from hok a _ e)
  exact ⟨mA, ⟨ob, n, ne⟩, r, q, z, d⟩
end

/-! ### what of the text a class must have -/
structure Cls (K : PySem.W.Frag) (C : Addr) : Prop where
  pg : PySem.W.plainGet K C Str.empty = true
  hd : PySem.W.hasDictIn K C = true
  po : PySem.W.plainOver K C = true
  sa : PySem.W.findIn K (.ref C) "__setattr__" = some (some (.builtin "object.__setattr__"))
theorem Cls.get {K : PySem.W.Frag} {C : Addr} (c : Cls K C) (f : Str) : PySem.W.plainGet K C f = true := c.pg
/-- no class of it has the name -/
def NoAttr (K : PySem.W.Frag) (C : Addr) (f : Str) : Prop := PySem.W.findIn K (.ref C) f = some none
theorem NoAttr.taker {K : PySem.W.Frag} {C : Addr} {f : Str} (n : NoAttr K C f) : PySem.W.takerIn K C f = some none := by
  unfold PySem.W.takerIn
  rw [show PySem.W.findIn K (.ref C) f = some none from n]
  rfl
/-- a method: a plain def of the class or of one above it -/
structure Meth (K : PySem.W.Frag) (C : Addr) (m : Str) (f : Addr) : Prop where
  at_ : PySem.W.findIn K (.ref C) m = some (some (.ref f))
  fn : PySem.W.isFn K (.ref f) = true
  kp : PySem.W.keepIn K (.ref f) = true

section
variable {X : Cx} {pins : List (Addr × Obj)} {σ : St} {H : Hp} {s : Shared} {a C dx : Addr} {fs : List (Str × V)} {f : Str} {v : V} {A : Around} {E : Value → Shared → Prop}

theorem getattr_ok {b : Bool} {Q : Value → Shared → Prop} (I : Inv X pins σ H s) (e : H a = some (.ins C dx fs)) (c : Cls X.K C) (n : NoAttr X.K C f) (l : fs.lookup f = some v)
    (h : ∀ u s', Inv X pins σ H s' → RelV v u → Q u s') : wpAny (model X.prog X.w) A (getAttr (.ref a) f b) Q E s := by
  obtain ⟨mA, O, r, _, _, _⟩ := ins_get I.hok e
  obtain ⟨u, hu, ru⟩ := RelO.some_of (v := v) (o := mA f) (by rw [← l]; exact r f)
  exact get_map I.kIn O (c.get f) c.hd n hu (handed_of ru) (h u _ (I.tok _) ru)


theorem getmeth_ok {m : Str} {g : Addr} {pl : Sem Bool} {Q : Value × List Value → Shared → Prop} (I : Inv X pins σ H s) (e : H a = some (.ins C dx fs)) (c : Cls X.K C) (k : Meth X.K C m g) (l : fs.lookup m = none)
    (h : Q (.ref g, [.ref a]) s) : wpAny (model X.prog X.w) A (getMethod (.ref a) m pl) Q E s := by
  obtain ⟨mA, O, r, _, _, _⟩ := ins_get I.hok e
  have hn : mA m = none := RelO.none_of (by rw [← l]; exact r m)
  exact get_meth I.kIn O (c.get m) k.at_ k.fn hn h

theorem setattr_ok {y : V} {u : Value} {Q : Unit → Shared → Prop} (I : Inv X pins σ H s) (e : H a = some (.ins C dx fs)) (c : Cls X.K C) (n : NoAttr X.K C f) (hl : fs.length < 1000) (ry : RelV y u)
    (h : ∀ s', Inv X pins σ (upd H a (.ins C dx (putF f y fs))) s' → Q () s') : wpAny (model X.prog X.w) A (setAttr (.ref a) f u) Q E s := by
  obtain ⟨mA, O, r, wi, _, ho⟩ := ins_get I.hok e
  have hz : (fs.map (·.1)).length ≤ sizeLine := by rw [List.length_map, sizeLine_eq]; omega
  refine set_map I.kIn O c.sa c.po n.taker c.hd wi hz fun h' O' sb => h _ ?_
  have hd : ∃ o, h'.get? dx = some o := let ⟨o, _, _, e', _⟩ := O'.ns; ⟨o, e'⟩
  refine I.write (x := a) (e := dx) (by rw [e]; exact True.intro) (.inr ho) (fun b q hb z => (sb.2 b hb).trans z) hd ?_
  refine ⟨by rw [upd_ne O.ne]; exact ho, ?_, O.ne, O'.obj, _, O'.ns, fun g => ?_, fun g hg => ?_⟩
  · have := length_putF f y fs; omega
  · show RelO ((putF f y fs).lookup g) (if g = f then some u else mA g)
    rw [lookup_putF]
    by_cases q : g = f
    · rw [if_pos q, if_pos q]; exact ry
    · rw [if_neg q, if_neg q]; exact r g
  · by_cases q : g = f
    · rw [q]; exact (keys_putF f y fs).1
    · refine (keys_putF f y fs).2 g (wi g fun z => hg ?_)
      show (if g = f then some u else mA g) = none
      rw [if_neg q]; exact z

/-- a new instance, tracked, without attributes -/
theorem Inv.made (I : Inv X pins σ H s) : Inv X pins σ (upd (upd H s.heap.objs.size (.own (s.heap.objs.size + 1))) (s.heap.objs.size + 1) (.ins C s.heap.objs.size []))
    { s with heap := (s.heap.push PySem.W.emptyDict).push (PySem.W.instObj C s.heap.objs.size) } := by
  have e1 : (s.heap.push PySem.W.emptyDict).get? s.heap.objs.size = some PySem.W.emptyDict := Heap.get?_push_size s.heap rfl
  have e2 : ((s.heap.push PySem.W.emptyDict).push (PySem.W.instObj C s.heap.objs.size)).get? (s.heap.objs.size + 1) = some (PySem.W.instObj C s.heap.objs.size) := by
    have := Heap.get?_push_size (s.heap.push PySem.W.emptyDict) (o := PySem.W.instObj C s.heap.objs.size) rfl
    rwa [Heap.size_push] at this
  have e3 : (s.heap.push PySem.W.emptyDict).Ns s.heap.objs.size (fun _ => none) := ⟨PySem.W.emptyDict, #[], _, e1, rfl, (fun e he => absurd he (by simp)), fun _ => rfl⟩
  have I1 := I.laid (a := s.heap.objs.size) (o := .own (s.heap.objs.size + 1)) (h' := s.heap.push PySem.W.emptyDict) (t' := s.toks) (fun b u q => Heap.get?_push_of_some _ q) (Nat.le_refl _) ⟨_, e1⟩
  refine I1.laid (a := s.heap.objs.size + 1) (o := .ins C s.heap.objs.size []) (t' := s.toks) (fun b u q => Heap.get?_push_of_some _ q) (Nat.le_of_eq (Heap.size_push _ _)) ?_
  have ne : s.heap.objs.size ≠ s.heap.objs.size + 1 := Nat.ne_of_lt (Nat.lt_succ_self _)
  refine ⟨by rw [upd_ne ne, upd_same], Nat.zero_le _, ne, e2, fun _ => none, (Heap.Ns1.of_empty e3).at fun o q => Heap.get?_push_of_some _ q, fun _ => True.intro, fun y hy => absurd rfl hy⟩

/-- e.f where nothing but the object is asked: through attributeBase (super) and the last hold -/
theorem attr_of {prog : Program} {w : World} {env : Env} {e : Expr} {f : Str} {pos : Pos} {s : Shared} {Q : Value → Shared → Prop} (hb : attributeBase e f env (eval e env) = eval e env)
    (h : wpAny (model prog w) A (eval e env) (fun o s₁ => wpAny (model prog w) A (getAttr o f true) Q E s₁) E s) : wpAny (model prog w) A (eval (.Attribute e f pos) env) Q E s :=
  Attribute_any_ h (by rw [arm_eval_Attribute, hb])
end

/-! ### readings and rules -/
/-- e.f, an attribute of the instance -/
def tFld (K : PySem.W.Frag) (ta : TE) (f : Str) : TE := fun σ H Q => ta σ H fun x H1 => ∃ a C dx fs v, x = .ref a ∧ H1 a = some (.ins C dx fs) ∧ Cls K C ∧ NoAttr K C f ∧ fs.lookup f = some v ∧ Q v H1
/-- e.f = value -/
def sFld (K : PySem.W.Frag) (ta tv : TE) (f : Str) : TS := fun D σ H => tv σ H fun y H1 => ta σ H1 fun x H2 => ∃ a C dx fs, x = .ref a ∧ H2 a = some (.ins C dx fs) ∧ Cls K C ∧ NoAttr K C f ∧ fs.length < 1000 ∧
  D.nx σ (upd H2 a (.ins C dx (putF f y fs)))

section
variable {X : Cx} {o e value : Expr} {f : Str} {pos pos' tpos : Pos} {ta tv : TE}
theorem pe_fld (he : PE X e ta) (hb : attributeBase e f X.env (eval e X.env) = eval e X.env) : PE X (.Attribute e f pos) (tFld X.K ta f) := by
  intro pins s σ H Q I h
  refine attr_of hb (thn (he pins s σ H _ I h) fun u s1 ⟨x, H1, I1, rx, a, C, dx, fs, v, ex, ea, c, n, l, q⟩ => ?_)
  subst ex
  obtain rfl : u = Value.ref a := rx
  exact getattr_ok I1 ea c n l fun u' s2 I2 ru => ⟨v, H1, I2, ru, q⟩
theorem ps_fld (ha : PE X o ta) (hv : PE X value tv) (hs : swapsWith value (some (.Attribute o f pos')) pos.line X.env = pure false) : PS X (.Assign [.Attribute o f pos'] value pos) (sFld X.K ta tv f) := by
  intro pins s σ H D I h
  refine plainObj_wpAny_Assign_Attribute (thn (hv pins s σ H _ I h) fun u s1 ⟨y, H1, I1, ry, q⟩ => thn (ha pins s1 σ H1 _ I1 q) fun ov s2 ⟨x, H2, I2, rx, a, C, dx, fs, ex, ea, c, n, l, q2⟩ => ?_) hs
  subst ex
  obtain rfl : ov = Value.ref a := rx
  exact setattr_ok I2 ea c n l ry fun s3 I3 => ⟨σ, _, I3, q2⟩

end

/-! ### isinstance -/
section
variable {X : Cx} {pins : List (Addr × Obj)} {σ : St} {H : Hp} {s : Shared} {A : Around} {E : Value → Shared → Prop} {Q : Value → Shared → Prop} {c : Value} {b : Bool}
/-- the type of a value, as the fragment's deciders take it; for an instance its class -/
inductive TyOf (K : PySem.W.Frag) (H : Hp) : V → Value → Prop where
  | non : TyOf K H .non (.type "NoneType")
  | bl (x : Bool) : TyOf K H (.bl x) (.type "bool")
  | int (i : Int) : TyOf K H (.int i) (.type "int")
  | str (x : Str) : TyOf K H (.str x) (.type "str")
  | flt (x : UInt64) : TyOf K H (.flt x) (.type "float")
  | lst {a : Addr} {xs : List V} (e : H a = some (.lst xs)) : TyOf K H (.ref a) (.type "list")
  | frz {a : Addr} {o : Obj} {xs : List V} (e : H a = some (.frz o (.lst xs))) : TyOf K H (.ref a) (.type "list")
  | tup {a : Addr} {xs : List V} (e : H a = some (.tup xs)) : TyOf K H (.ref a) (.type "tuple")
  | dK {a : Addr} {kvs : List (Key × V)} (e : H a = some (.dK kvs)) : TyOf K H (.ref a) (.type "dict")
  | dT {a : Addr} {kvs : List (List Key × V)} (e : H a = some (.dT kvs)) : TyOf K H (.ref a) (.type "dict")
  | ins {a C dx : Addr} {fs : List (Str × V)} (e : H a = some (.ins C dx fs)) (cl : Cls K C) (ha : PySem.W.findIn K (.ref C) "__class__" = some (some (.builtin "object.__class__")))
      (hn : PySem.W.specialIn K (.builtin "object.__class__") "__get__" = some (some (.builtin "getset_descriptor.__get__"))) (htk : PySem.W.takesIn K (.builtin "object.__class__") = some true)
      (hm : PySem.W.mroIn K C (.type "object") = some true) : TyOf K H (.ref a) (.ref C)
/-- isinstance(x, c) for one class c, a built-in or an own one: kitOne's answer -/
theorem isinst_ok {x : V} {u t : Value} (I : Inv X pins σ H s) (rx : RelV x u) (ty : TyOf X.K H x t) (e : PySem.W.kitOne X.K t c = some b) (h : ∀ tk, Q (.bool b) { s with toks := tk }) :
    wpAny (model X.prog X.w) A (call (.builtin "isinstance") [u, c]) Q E s := by
  cases ty with
  | non => cases (show u = Value.none from rx); exact PySem.W.kia_one PySem.W.kitx_none I.kIn True.intro e (fun z => nomatch z) h
  | bl y => cases (show u = Value.bool y from rx); exact PySem.W.kia_one PySem.W.kitx_bool I.kIn True.intro e (fun z => nomatch z) h
  | int i => obtain ⟨t, q⟩ := (show ∃ t, u = Value.int i t from rx); cases q; exact PySem.W.kia_one PySem.W.kitx_int I.kIn True.intro e (fun z => nomatch z) h
  | str y => obtain ⟨t, q⟩ := (show ∃ t, u = Value.str y t from rx); cases q; exact PySem.W.kia_one PySem.W.kitx_str I.kIn True.intro e (fun z => nomatch z) h
  | flt y => obtain ⟨t, q⟩ := (show ∃ t, u = Value.float y t from rx); cases q; exact PySem.W.kia_one PySem.W.kitx_float I.kIn True.intro e (fun z => nomatch z) h
  | @lst a xs ea =>
    cases (show u = Value.ref a from rx)
    obtain ⟨_, _, n, _, h1⟩ := (show ObjOk X.prog X.w H s.heap a (.lst xs) from I.hok a _ ea)
    exact PySem.W.kia_one PySem.W.kitx_list I.kIn ⟨_, h1, rfl⟩ e (fun z => nomatch z) h
  | @frz a ob xs ea =>
    cases (show u = Value.ref a from rx)
    obtain ⟨_, _, _, n, _, h1⟩ := (show ObjOk X.prog X.w H s.heap a (.frz ob (.lst xs)) from I.hok a _ ea)
    exact PySem.W.kia_one PySem.W.kitx_list I.kIn ⟨_, h1, rfl⟩ e (fun z => nomatch z) h
  | @tup a xs ea =>
    cases (show u = Value.ref a from rx)
    obtain ⟨_, _, _, p⟩ := (show ObjOk X.prog X.w H s.heap a (.tup xs) from I.hok a _ ea)
    obtain ⟨o, h1, h2, _⟩ := p
    exact PySem.W.kia_one PySem.W.kitx_tuple I.kIn ⟨o, h1, h2⟩ e (fun z => nomatch z) h
  | @dK a kvs ea =>
    cases (show u = Value.ref a from rx)
    obtain ⟨_, _, vs, _, p⟩ := (show ObjOk X.prog X.w H s.heap a (.dK kvs) from I.hok a _ ea)
    obtain ⟨o, es, ep, h1, h2, _⟩ := p
    exact PySem.W.kia_one PySem.W.kitx_dict I.kIn ⟨o, h1, h2.1⟩ e (fun z => nomatch z) h
  | @dT a kvs ea =>
    cases (show u = Value.ref a from rx)
    obtain ⟨_, _, xs, _, o, es, ep, h1, h2, _⟩ := (show ObjOk X.prog X.w H s.heap a (.dT kvs) from I.hok a _ ea)
    exact PySem.W.kia_one PySem.W.kitx_dict I.kIn ⟨o, h1, h2.1⟩ e (fun z => nomatch z) h
  | @ins a C dx fs ea cl ha hn htk hm =>
    cases (show u = Value.ref a from rx)
    obtain ⟨mA, O, _⟩ := ins_get I.hok ea
    obtain ⟨od, J, _⟩ := O.look
    exact PySem.W.kia_one (PySem.W.kitx_own (cl.get _) cl.hd ha hn htk hm) I.kIn J e (fun z => nomatch z) h
end
end L2

namespace L2
open PySem PySem.Spec PyProof.Rows

/-! ### room -/
structure Room (k : Nat) (A : Around) : Prop where
  hd : A.handled = none
  dp : A.depth + 3 * k + 5 < recursionLimit
  un : A.units + 16 * k + 200 < cLine
theorem Room.mono {j k : Nat} {A : Around} (r : Room k A) (h : j ≤ k) : Room j A := ⟨r.hd, by have := r.dp; omega, by have := r.un; omega⟩
theorem Room.deeper {k : Nat} {A : Around} (r : Room (k + 1) A) (env : Env) : Room k (A.deeper env) :=
  ⟨r.hd, by have := r.dp; show A.depth + 1 + 3 * k + 5 < _; omega, by have := r.un; show A.units + 3 + 16 * k + 200 < _; omega⟩
theorem Room.in1 {k : Nat} {A : Around} (r : Room (k + 1) A) : Room k A.in1 :=
  ⟨r.hd, by have := r.dp; show A.depth + 3 * k + 5 < _; omega, by have := r.un; show A.units + 1 + 16 * k + 200 < _; omega⟩
theorem make_depth {A : Around} {C : Addr} {us : List Value} {kw : List (Str × Value)} : (A.under (.builtin "type.__call__" ⟨.ref C :: us, kw⟩)).depth = A.depth + 1 := by
  first | rfl | simp [Around.under, Code.weight, Code.isCreation, Code.isGuard, Code.isCaller, Code.frames, Code.isFrame, guardIds]
theorem make_units {A : Around} {C : Addr} {us : List Value} {kw : List (Str × Value)} : (A.under (.builtin "type.__call__" ⟨.ref C :: us, kw⟩)).units = A.units + 1 := by
  first | rfl | simp [Around.under, Code.cUnits, Code.frames, Code.isFrame]
theorem Room.make {k : Nat} {A : Around} (r : Room (k + 1) A) (C : Addr) (us : List Value) (kw : List (Str × Value)) : Room k (A.under (.builtin "type.__call__" ⟨.ref C :: us, kw⟩)) :=
  ⟨r.hd, by have := r.dp; rw [make_depth]; omega, by have := r.un; rw [make_units]; omega⟩
theorem Room.depth {k : Nat} {A : Around} (r : Room k A) : A.depth < recursionLimit := by have := r.dp; omega
theorem Room.units {k : Nat} {A : Around} (r : Room k A) : A.units + 64 < cLine := by have := r.un; omega

/-! ### argument lists and displays -/
def tNil : TA := fun _ H Q => Q [] H
def tCons (ta : TE) (tr : TA) : TA := fun σ H Q => ta σ H fun x H1 => tr σ H1 fun xs H2 => Q (x :: xs) H2
section
variable {X : Cx} {e : Expr} {es : List Expr} {te : TE} {t : TA} {pos : Pos}
theorem pa_nil : PA X [] tNil := fun _ _ _ _ H Q I h => Calls.spliced_nil ⟨[], H, I, .nil, h⟩
theorem pa_cons (ha : PE X e te) (hr : PA X es t) (hs : starEach (e :: es) X.env = (false, eval e X.env) :: starEach es X.env := by rfl) : PA X (e :: es) (tCons te t) := by
  intro pos pins s σ H Q I h
  rw [hs]
  show wpAny _ _ (spliced ((false, eval e X.env) :: backTo pos (starEach es X.env))) _ _ s
  refine Calls.spliced_cons (thn (ha pins s σ H _ I h) fun u s1 ⟨x, H1, I1, r1, q1⟩ => ?_)
  exact thn (hr pos pins s1 σ H1 _ I1 q1) fun us s2 ⟨xs, H2, I2, r2, q2⟩ => ⟨x :: xs, H2, I2, .cons r1 r2, q2⟩

/-- a tuple, a list of written items -/
def tTup (t : TA) : TE := fun σ H Q => t σ H fun xs H1 => xs.length ≤ sizeLine ∧ ∀ p, H1 p = none → Q (.ref p) (upd H1 p (.tup xs))
def tLst (t : TA) : TE := fun σ H Q => t σ H fun xs H1 => xs.length ≤ sizeLine ∧ ∀ p, H1 p = none → Q (.ref p) (upd H1 p (.lst xs))
theorem pe_tup {x1} (h : PA X es t) : PE X (.Tuple es x1 pos) (tTup t) := by
  intro pins s σ H Q I hq
  refine wpAny_Tuple_spliced (thn (h pos pins s σ H _ I hq) fun us s1 ⟨xs, H1, I1, r, z, q⟩ => ⟨by rw [← r.length]; exact z, ?_⟩)
  have hf : H1 s1.heap.objs.size = none := I1.hok.fresh (Nat.le_refl _)
  refine ⟨.ref s1.heap.objs.size, upd H1 s1.heap.objs.size (.tup xs), I1.laid (t' := s1.toks) (fun b u e => Heap.get?_push_of_some _ e) (Nat.le_refl _) ?_, rfl, q _ hf⟩
  exact ⟨z, us, r, ⟨_, Heap.get?_push_size _ rfl, rfl, _, rfl⟩⟩
theorem pe_lst (h : PA X es t) : PE X (.List es pos) (tLst t) := by
  intro pins s σ H Q I hq
  refine wpAny_List_spliced (thn (h pos pins s σ H _ I hq) fun us s1 ⟨xs, H1, I1, r, z, q⟩ => ⟨by rw [← r.length]; exact z, ?_⟩)
  have hf : H1 s1.heap.objs.size = none := I1.hok.fresh (Nat.le_refl _)
  refine ⟨.ref s1.heap.objs.size, upd H1 s1.heap.objs.size (.lst xs), I1.laid (t' := s1.toks) (fun b u e => Heap.get?_push_of_some _ e) (Nat.le_refl _) ?_, rfl, q _ hf⟩
  exact ⟨z, us, 0, r, Heap.get?_push_size _ rfl⟩
end

/-! ### what a def promises -/
/-- a def's promise: the bound arguments in the parameters' order, the heap, the wanted end, the wanted exception -/
abbrev Sp := List V → Hp → VK → XK → Prop
/-- how an exception lies behind a call (file 08 gives it): the callers' frames, abstract heap and state ahead of the call, the wish, the exception, the state -/
abbrev CXT := List Env → Hp → Shared → XK → Value → Shared → Prop

/-- the state at a call -/
structure Env0 (P : Program) (w : World) (K : PySem.W.Frag) (mg : Str → Option Value) (base : Heap) (A : Around) (outer : List Env) (s : Shared) (H : Hp) : Prop where
  frames : A.frames = some outer
  mod : Mod K mg base
  bs : ∀ b o, base.get? b = some o → s.heap.get? b = some o ∧ H b = none
  bsz : base.objs.size ≤ s.heap.objs.size
  funs : s.heap.FunFrames base outer
  frf : ∀ b ∈ frs outer, H b = none
  hok : HOk P w H s.heap
  bare : AllBare s.gens
/-- a call's end -/
def CE (outer : List Env) (P : Program) (w : World) (H : Hp) (s : Shared) (Q : VK) (u : Value) (s' : Shared) : Prop :=
  ∃ v H', s'.os = s.os ∧ AllBare s'.gens ∧ Un (frs outer) [] H H' s.heap s'.heap ∧ HOk P w H' s'.heap ∧ RelV v u ∧ Q v H'
def CR (CX : CXT) (outer : List Env) (P : Program) (w : World) (H : Hp) (s : Shared) (Q : VK) (E : XK) (r : Result) (s' : Shared) : Prop :=
  match r with
  | .ok (.ret u) => CE outer P w H s Q u s'
  | .ok _ => False
  | .error e => CX outer H s E e s'
structure FnOk (P : Program) (w : World) (K : PySem.W.Frag) (mg : Str → Option Value) (base : Heap) (CX : CXT) (k : Nat) (f : Addr) (fd : FuncData) (ps : List Str) (sp : Sp) : Prop where
  len : ∀ vs H Q E, sp vs H Q E → vs.length = ps.length
  run : ∀ (A : Around) (outer : List Env) (s : Shared) (H : Hp) (args : Args) (us : List Value) (vs : List V) (Q : VK) (E : XK), Room k A → Env0 P w K mg base A outer s H → BindsTo s fd args (ps.zip us) → Vals vs us → sp vs H Q E →
    codeAny (model P w) A (.call (.ref f) args) (CR CX outer P w H s Q E) s
theorem FnOk.mono {P : Program} {w : World} {K : PySem.W.Frag} {mg : Str → Option Value} {base : Heap} {CX : CXT} {j k : Nat} {f : Addr} {fd : FuncData} {ps : List Str} {sp : Sp} (F : FnOk P w K mg base CX j f fd ps sp) (h : j ≤ k) :
    FnOk P w K mg base CX k f fd ps sp := ⟨F.len, fun A outer s H args us vs Q E hr => F.run A outer s H args us vs Q E (hr.mono h)⟩
/-- a weaker promise -/
theorem FnOk.imp {P : Program} {w : World} {K : PySem.W.Frag} {mg : Str → Option Value} {base : Heap} {CX : CXT} {k : Nat} {f : Addr} {fd : FuncData} {ps : List Str} {sp sp' : Sp} (F : FnOk P w K mg base CX k f fd ps sp)
    (h : ∀ vs H Q E, sp' vs H Q E → sp vs H Q E) : FnOk P w K mg base CX k f fd ps sp' :=
  ⟨fun vs H Q E q => F.len vs H Q E (h _ _ _ _ q), fun A outer s H args us vs Q E hr he hb hv hs => F.run A outer s H args us vs Q E hr he hb hv (h _ _ _ _ hs)⟩

theorem Env0.make {P : Program} {w : World} {K : PySem.W.Frag} {mg : Str → Option Value} {base : Heap} {A : Around} {outer : List Env} {s : Shared} {H : Hp} (e : Env0 P w K mg base A outer s H) (C : Addr) (us : List Value) (kw : List (Str × Value)) :
    Env0 P w K mg base (A.under (.builtin "type.__call__" ⟨.ref C :: us, kw⟩)) outer s H := ⟨by first | exact e.frames | (simpa [Around.under, Code.envs, Code.isFrame, pushEnvs] using e.frames), e.mod, e.bs, e.bsz, e.funs, e.frf, e.hok, e.bare⟩
theorem Env0.in1 {P : Program} {w : World} {K : PySem.W.Frag} {mg : Str → Option Value} {base : Heap} {A : Around} {outer : List Env} {s : Shared} {H : Hp} (e : Env0 P w K mg base A outer s H) :
    Env0 P w K mg base A.in1 outer s H := ⟨e.frames, e.mod, e.bs, e.bsz, e.funs, e.frf, e.hok, e.bare⟩

section
variable {X : Cx} {pins : List (Addr × Obj)} {σ : St} {H : Hp} {s s' : Shared}
/-- from a body: what a callee wants -/
theorem Inv.env0 (I : Inv X pins σ H s) : Env0 X.prog X.w X.K X.mg X.base X.A X.stack s H :=
  ⟨I.ok.frames, I.ok.mod, I.bs, Nat.le_trans I.ok.bsz I.sz, I.stack, I.stkFree, I.hok, I.bare⟩
/-- behind a call -/
theorem Inv.after {Q : VK} {u : Value} (I : Inv X pins σ H s) (h : CE X.stack X.prog X.w H s Q u s') : EP X pins σ Q u s' := by
  obtain ⟨v, H', os, bare, un, hok, r, q⟩ := h
  obtain ⟨hh, g, d, t, os'⟩ := s'
  obtain rfl : os' = s.os := os
  exact ⟨v, H', I.call (h' := hh) (g' := g) (d' := d) (t' := t) (ch := []) un hok bare (fun b z => absurd z (by simp)), r, q⟩
end

/-! ### calls -/
/-- f(..): the written arguments, then the defaults dvs; E: what is wanted of an exception -/
def tCall (sp : Sp) (dvs : List V) (E : XK) (t : TA) : TE := fun σ H Q => t σ H fun vs H1 => sp (vs ++ dvs) H1 Q E
/-- o.m(..) of an instance of the class at C -/
def tMeth (C : Addr) (m : Str) (sp : Sp) (dvs : List V) (E : XK) (ta : TE) (t : TA) : TE := fun σ H Q => ta σ H fun x H1 => ∃ a dx fs, x = .ref a ∧ H1 a = some (.ins C dx fs) ∧ fs.lookup m = none ∧
  t σ H1 fun vs H2 => sp (x :: (vs ++ dvs)) H2 Q E
/-- C(..): a new instance and its dict, then __init__ -/
def tMake (C : Addr) (sp : Sp) (dvs : List V) (E : XK) (t : TA) : TE := fun σ H Q => t σ H fun vs H1 => ∀ x dx, H1 x = none → H1 dx = none → dx ≠ x →
  sp (.ref x :: (vs ++ dvs)) (upd (upd H1 dx (.own x)) x (.ins C dx [])) (fun v H2 => v = .non ∧ Q (.ref x) H2) E

/-- how the parameters are bound: us the positional arguments, kw the keywords' values by name, ds the defaults that fill up -/
def Binds (K : PySem.W.Frag) (fd : FuncData) (ps : List Str) (ds : List Value) : Prop :=
  ∀ (s : Shared) (us : List Value), K.In s.heap → (us ++ ds).length = ps.length → BindsTo s fd ⟨us, []⟩ (ps.zip (us ++ ds))
/-- every parameter is given -/
theorem Binds.all {K : PySem.W.Frag} {fd : FuncData} {ps : List Str} (h : ∀ us : List Value, us.length = ps.length → bindArgs fd ⟨us, []⟩ = pure (ps.zip us)) : Binds K fd ps [] := fun s us _ hl => by
  rw [List.append_nil] at hl ⊢
  exact .of_eq (h us hl)

/-- an exception of a callee reaches what this body wants of exceptions -/
def Passes (CX : CXT) (X : Cx) (E : XK) : Prop := ∀ (pins : List (Addr × Obj)) (σ : St) (H : Hp) (s : Shared) (e : Value) (s' : Shared), Inv X pins σ H s → CX X.stack H s E e s' → X.xe e s'

section
variable {X : Cx} {CX : CXT} {k : Nat} {f C : Addr} {fd : FuncData} {ps : List Str} {sp : Sp} {dvs : List V} {ds : List Value} {E : XK} {x m : Str} {p pos apos : Pos} {e o : Expr} {es : List Expr} {ta : TE} {t : TA}

/-- the callee runs -/
theorem run_fn {pins : List (Addr × Obj)} {σ : St} {H : Hp} {s : Shared} {Q : VK} {us : List Value} {vs : List V} (F : FnOk X.prog X.w X.K X.mg X.base CX k f fd ps sp) (hr : Room k X.A) (hb : Binds X.K fd ps ds) (hd : Vals dvs ds) (hx : Passes CX X E)
    (I : Inv X pins σ H s) (r : Vals vs us) (h : sp (vs ++ dvs) H Q E) : wpAny (model X.prog X.w) X.A (call (.ref f) us) (EP X pins σ Q) X.xe s := by
  have r2 : Vals (vs ++ dvs) (us ++ ds) := r.append hd
  have hl : (us ++ ds).length = ps.length := by rw [← r2.length]; exact F.len _ _ _ _ h
  refine wpAny_call (codeAny_mono (F.run X.A X.stack s H ⟨us, []⟩ (us ++ ds) (vs ++ dvs) Q E hr I.env0 (hb s us I.kIn hl) r2 h) fun r s' hq => ?_)
  cases r with
  | error e => exact hx pins σ H s e s' I hq
  | ok fl =>
    cases fl with
    | ret u => exact I.after hq
    | next => exact False.elim hq
    | brk => exact False.elim hq
    | cont => exact False.elim hq

theorem pe_call (F : FnOk X.prog X.w X.K X.mg X.base CX k f fd ps sp) (hr : Room k X.A) (hg : Gl X x) (hm : X.mg x = some (.ref f)) (hk : PySem.W.keepIn X.K (.ref f) = true) (hb : Binds X.K fd ps ds) (hd : Vals dvs ds) (hx : Passes CX X E)
    (ha : PA X (e :: es) t) (hdb : (x == ("__debug__" : Str)) = false := by decide) (he : starEach (e :: es) X.env = (false, eval e X.env) :: starEach es X.env := by rfl) (hpl : (backTo pos (starEach es X.env)).any (·.1) = false := by rfl) :
    PE X (.Call (.Name x p) (e :: es) [] pos) (tCall sp dvs E t) := by
  intro pins s σ H Q I h
  refine wpAny_Call_Name_kw (ld_glob I hg hm ?_ hdb)
  refine PySem.W.callWith_K (h₀ := X.base) I.ok.mod.kin hk (thn (ha pos pins s σ H _ I h) fun us s1 ⟨vs, H1, I1, r, q⟩ => ⟨I1.kIn, ?_⟩) he hpl
  exact run_fn F hr hb hd hx I1 r q

/-- o.m() -/
theorem pe_meth0 {pl : Sem Bool} (he : PE X o ta) (c : Cls X.K C) (hm : Meth X.K C m f) (F : FnOk X.prog X.w X.K X.mg X.base CX k f fd ps sp) (hr : Room k X.A) (hb : Binds X.K fd ps ds) (hd : Vals dvs ds) (hx : Passes CX X E)
    (ht : eval (.Call (.Attribute o m apos) [] [] pos) X.env = (do
      let ov ← eval o X.env
      standAt apos.atName
      let (f, first) ← holding [ov] (getMethod ov m pl)
      callWith pos f first (backTo pos (starEach [] X.env)) (backToKw pos (keywordEach [] X.env))) := by rfl) :
    PE X (.Call (.Attribute o m apos) [] [] pos) (tMeth C m sp dvs E ta tNil) := by
  intro pins s σ H Q I h
  refine PySem.W.methodCall_KW (pl := pl) (thn (he pins s σ H _ I h) fun u s1 ⟨x, H1, I1, rx, a, dx, fs, ex, ea, l, q⟩ => ?_) ht
  subst ex
  obtain rfl : u = Value.ref a := rx
  refine getmeth_ok I1 ea c hm l ?_
  exact PySem.W.callWith_K0 (first := [.ref a]) I1.kIn hm.kp (run_fn (us := [.ref a]) (vs := [.ref a]) F hr hb hd hx I1 (.cons rfl .nil) q)

/-- what a class must have to be made -/
structure Mk (K : PySem.W.Frag) (C f : Addr) : Prop where
  makes : PySem.W.makesIn K C = true
  init : PySem.W.findIn K (.ref C) "__init__" = some (some (.ref f))
  fn : PySem.W.isFn K (.ref f) = true
  kp : PySem.W.keepIn K (.ref C) = true

theorem run_make {pins : List (Addr × Obj)} {σ : St} {H : Hp} {s : Shared} {Q : VK} {us : List Value} {vs : List V} (M : Mk X.K C f) (F : FnOk X.prog X.w X.K X.mg X.base CX k f fd ps sp) (hr : Room (k + 1) X.A) (hb : Binds X.K fd ps ds) (hd : Vals dvs ds)
    (hx : Passes CX X E) (I : Inv X pins σ H s) (r : Vals vs us)
    (h : ∀ x dx, H x = none → H dx = none → dx ≠ x → sp (.ref x :: (vs ++ dvs)) (upd (upd H dx (.own x)) x (.ins C dx [])) (fun v H2 => v = .non ∧ Q (.ref x) H2) E) :
    wpAny (model X.prog X.w) X.A (call (.ref C) us) (EP X pins σ Q) X.xe s := by
  have hq := h (s.heap.objs.size + 1) s.heap.objs.size (I.hok.fresh (Nat.le_succ _)) (I.hok.fresh (Nat.le_refl _)) (Nat.ne_of_lt (Nat.lt_succ_self _))
  have I2 := Inv.made (C := C) I
  have r2 : Vals (V.ref (s.heap.objs.size + 1) :: (vs ++ dvs)) (Value.ref (s.heap.objs.size + 1) :: (us ++ ds)) := .cons rfl (r.append hd)
  have hl : (Value.ref (s.heap.objs.size + 1) :: us ++ ds).length = ps.length := by
    have e := r2.length
    rw [F.len _ _ _ _ hq] at e
    exact e.symm
  refine wpAny_call (make_map (f := f) I.kIn M.makes M.init (beq_iff_eq.mp M.fn) (codeAny_mono (F.run _ X.stack _ _ ⟨Value.ref (s.heap.objs.size + 1) :: us, []⟩ (Value.ref (s.heap.objs.size + 1) :: (us ++ ds)) _ _ E (hr.make C us [])
    (I2.env0.make C us []) (hb _ (Value.ref (s.heap.objs.size + 1) :: us) I2.kIn hl) r2 hq) fun r s' hq' => ?_))
  cases r with
  | error e => exact hx pins σ _ _ e s' I2 hq'
  | ok fl =>
    cases fl with
    | ret u =>
      obtain ⟨v, H', I3, rv, ev, q3⟩ := I2.after hq'
      subst ev
      exact ⟨rv, ⟨V.ref (s.heap.objs.size + 1), H', I3, rfl, q3⟩⟩
    | next => exact False.elim hq'
    | brk => exact False.elim hq'
    | cont => exact False.elim hq'
theorem pe_make (M : Mk X.K C f) (F : FnOk X.prog X.w X.K X.mg X.base CX k f fd ps sp) (hr : Room (k + 1) X.A) (hg : Gl X x) (hm : X.mg x = some (.ref C)) (hb : Binds X.K fd ps ds) (hd : Vals dvs ds) (hx : Passes CX X E)
    (ha : PA X (e :: es) t) (hdb : (x == ("__debug__" : Str)) = false := by decide) (he : starEach (e :: es) X.env = (false, eval e X.env) :: starEach es X.env := by rfl) (hpl : (backTo pos (starEach es X.env)).any (·.1) = false := by rfl) :
    PE X (.Call (.Name x p) (e :: es) [] pos) (tMake C sp dvs E t) := by
  intro pins s σ H Q I h
  refine wpAny_Call_Name_kw (ld_glob I hg hm ?_ hdb)
  refine PySem.W.callWith_K (h₀ := X.base) I.ok.mod.kin M.kp (thn (ha pos pins s σ H _ I h) fun us s1 ⟨vs, H1, I1, r, q⟩ => ⟨I1.kIn, ?_⟩) he hpl
  exact run_make M F hr hb hd hx I1 r q
end

/-! ### keywords -/
section
variable {X : Cx} {CX : CXT} {k : Nat} {f C : Addr} {fd : FuncData} {ps ks : List Str} {sp : Sp} {E : XK} {x m : Str} {p pos apos kpos : Pos} {e o : Expr} {es : List Expr} {kws : List Keyword} {te ta : TE} {t tk : TA} {nm : Option Str}

variable {g : List Value → List Value → List Value} {gV : List V → List V → List V}
end

/-! ### a def's body keeps its promise -/
/-- names: the parameters first -/
structure FnScope (N P : List Str) (sc : Scope) : Prop where
  kind : sc.kind = .function
  co : sc.isCoroutine = false
  gen : sc.isGenerator = false
  nd : N.Nodup
  pre : N.take P.length = P
  par : ∀ x ∈ P, sc.names.lookup x = some .local ∨ sc.names.lookup x = some .cell
  nofree : ∀ y ∈ sc.names, y.2 ≠ .free

theorem bindL_out {kindOf : Str → Option NameKind} {x : Str} : ∀ {binds : List (Str × Value)} {m : Str → Option Value}, (∀ v, (x, v) ∉ binds) → bindL kindOf binds m x = m x
  | [], _, _ => rfl
  | (n, v) :: r, m, h => by
    unfold bindL
    rw [bindL_out fun w hw => h w (List.mem_cons_of_mem _ hw)]
    split
    · have : x ≠ n := by rintro rfl; exact h v List.mem_cons_self
      simp [this]
    · rfl
theorem bindC_out {kindOf : Str → Option NameKind} {x : Str} : ∀ {binds : List (Str × Value)} {m : Str → Option Value}, (∀ v, (x, v) ∉ binds) → bindC kindOf binds m x = m x
  | [], _, _ => rfl
  | (n, v) :: r, m, h => by
    unfold bindC
    rw [bindC_out fun w hw => h w (List.mem_cons_of_mem _ hw)]
    split
    · rfl
    · have : x ≠ n := by rintro rfl; exact h v List.mem_cons_self
      simp [this]
theorem bindL_get {kindOf : Str → Option NameKind} {x : Str} {v : Value} : ∀ {P : List Str} {vs : List Value} {i : Nat} {m : Str → Option Value}, P.Nodup → P[i]? = some x → vs[i]? = some v → kindOf x = some .local →
    bindL kindOf (P.zip vs) m x = some v
  | [], _, _, _, _, h, _, _ => by simp at h
  | _ :: _, [], _, _, _, _, h, _ => by simp at h
  | p :: P, w :: vs, 0, m, nd, h1, h2, hk => by
    simp at h1 h2; subst h1; subst h2
    show bindL kindOf ((p, w) :: P.zip vs) m p = _
    unfold bindL
    rw [bindL_out fun v hv => (List.nodup_cons.mp nd).1 (List.of_mem_zip hv).1, if_pos hk]
    simp
  | p :: P, w :: vs, i + 1, m, nd, h1, h2, hk => by
    show bindL kindOf ((p, w) :: P.zip vs) m x = _
    unfold bindL
    exact bindL_get (i := i) (List.nodup_cons.mp nd).2 (by simpa using h1) (by simpa using h2) hk
theorem bindC_get {kindOf : Str → Option NameKind} {x : Str} {v : Value} : ∀ {P : List Str} {vs : List Value} {i : Nat} {m : Str → Option Value}, P.Nodup → P[i]? = some x → vs[i]? = some v → kindOf x ≠ some .local →
    bindC kindOf (P.zip vs) m x = some v
  | [], _, _, _, _, h, _, _ => by simp at h
  | _ :: _, [], _, _, _, _, h, _ => by simp at h
  | p :: P, w :: vs, 0, m, nd, h1, h2, hk => by
    simp at h1 h2; subst h1; subst h2
    show bindC kindOf ((p, w) :: P.zip vs) m p = _
    unfold bindC
    rw [bindC_out fun v hv => (List.nodup_cons.mp nd).1 (List.of_mem_zip hv).1, if_neg hk]
    simp
  | p :: P, w :: vs, i + 1, m, nd, h1, h2, hk => by
    show bindC kindOf ((p, w) :: P.zip vs) m x = _
    unfold bindC
    exact bindC_get (i := i) (List.nodup_cons.mp nd).2 (by simpa using h1) (by simpa using h2) hk

/-- the names' values at the entry -/
def start (N : List Str) (vs : List V) : St := vs.map some ++ List.replicate (N.length - vs.length) none

/-- the context of a def's body, at its entry; an exception leaves the frame, then lies as CX says -/
def cxOf (CX : CXT) (P : Program) (w : World) (K : PySem.W.Frag) (mg : Str → Option Value) (base : Heap) (N : List Str) (qual : Str) (scope : Scope) (f : Addr) (cd : Value) (A : Around) (outer : List Env) (s : Shared) (H : Hp) (E : XK) : Cx where
  prog := P
  w := w
  K := K
  mg := mg
  base := base
  A := A.deeper (envOfC qual scope s.heap.objs.size f cd)
  N := N
  s₀ := s
  H₀ := H
  env := envOfC qual scope s.heap.objs.size f cd
  outer := outer
  stack := envOfC qual scope s.heap.objs.size f cd :: outer
  ex := []
  calm := true
  fn := fun _ => true
  pn := []
  xe := fun e s' => wpAny (model P w) (A.deeper (envOfC qual scope s.heap.objs.size f cd)) (leaving (envOfC qual scope s.heap.objs.size f cd) e) (fun _ s'' => CX outer H s E e s'') (fun e' s'' => CX outer H s E e' s'') s'

theorem cell_has {sc : Scope} {n : Nat} {x : Str} (h : sc.names.lookup x = some .cell) : ∃ c, (cellsFrom n sc.names []).lookup x = some c := by
  have q := PySem.W.cellsFrom_some sc.names n [] (.inl h)
  exact Option.isSome_iff_exists.mp q

theorem inv_start {CX : CXT} {P : Program} {w : World} {K : PySem.W.Frag} {mg : Str → Option Value} {base : Heap} {N ps : List Str} {qual : Str} {scope : Scope} {f : Addr} {cd : Value} {A : Around} {outer : List Env} {s s1 : Shared} {H : Hp} {E : XK} {us : List Value} {vs : List V}
    (S : FnScope N ps scope) (hd : A.handled = none) (e0 : Env0 P w K mg base A outer s H) (hl : vs.length = ps.length) (r : Vals vs us)
    (x : InCallC s s.heap.objs.size (bindL (envOfC qual scope s.heap.objs.size f cd).kindOf (ps.zip us) fun _ => none) (cellsFrom (s.heap.objs.size + 1) scope.names []) (bindC (envOfC qual scope s.heap.objs.size f cd).kindOf (ps.zip us) fun _ => none) s1) :
    Inv (cxOf CX P w K mg base N qual scope f cd A outer s H E) [] (start N vs) H s1 := by
  have hpl : ps.length ≤ N.length := by have := congrArg List.length S.pre; rw [List.length_take] at this; omega
  obtain ⟨h1, tk, rfl, hk⟩ := x.done
  have noA : ∀ b : Addr, b ∉ (cxOf CX P w K mg base N qual scope f cd A outer s H E).ex := fun b z => absurd (show b ∈ ([] : List Addr) from z) (by simp)
  refine ⟨⟨e0.mod, S.kind, rfl, rfl, Nat.le_refl _, fun y z c h1 h2 => ?_, fun y hy => ?_, fun y c _ h => ?_, fun _ => hd, Around.frames_deeper e0.frames, .inr ⟨rfl, rfl⟩, fun b z => absurd z (noA b), e0.bs, e0.bsz, fun b _ _ => noA b, fun b z => absurd z (noA b), e0.funs, e0.frf⟩,
    rfl, e0.bare, Un.kept hk, ⟨_, x.toInCall.ns, fun i y v h1 h2 h3 => ?_⟩, fun y c h => ⟨_, x.cell y c h⟩, e0.hok.fresh (Nat.le_refl _), fun y c h => ?_, fun p hp => absurd (show p ∈ ([] : List (Addr × Obj)) from hp) (by simp), e0.hok.kept hk, ?_⟩
  · exact name_of_addr x.apart (PySem.mem_of_lookup h1) (PySem.mem_of_lookup h2)
  · have hy : scope.names.lookup y = some .cell ∨ scope.names.lookup y = some .free := hy
    rcases hy with hy | hy
    · exact cell_has hy
    · exact absurd rfl (S.nofree _ (PySem.mem_of_lookup hy))
  · exact Nat.le_of_lt (x.above y c (PySem.mem_of_lookup h))
  · have hi : i < vs.length := by
      unfold start at h2
      by_cases hi : i < vs.length
      · exact hi
      · rw [List.getElem?_append_right (by simpa using hi)] at h2
        rw [List.getElem?_replicate] at h2
        split at h2 <;> cases h2
    have ha : vs[i]? = some v := by
      unfold start at h2
      rw [List.getElem?_append_left (by simpa using hi), List.getElem?_map] at h2
      cases e : vs[i]? with
      | none => rw [e] at h2; cases h2
      | some a => rw [e] at h2; cases h2; rfl
    obtain ⟨u, hu, rv⟩ := r.get ha
    have hp : ps[i]? = some y := by
      rw [← S.pre, List.getElem?_take_of_lt (by omega)]; exact h1
    have ndP : ps.Nodup := by rw [← S.pre]; exact S.nd.sublist (List.take_sublist _ _)
    refine ⟨u, rv, ?_⟩
    rcases S.par y (List.mem_of_getElem? hp) with k | k
    · exact .inl ⟨k, bindL_get ndP hp hu k⟩
    · obtain ⟨c, e⟩ := cell_has (n := s.heap.objs.size + 1) k
      refine .inr ⟨.inl k, c, e, ?_⟩
      have q := x.cell y c e
      rw [bindC_get ndP hp hu (by show scope.names.lookup y ≠ _; rw [k]; decide)] at q
      exact q
  · exact e0.hok.fresh (Nat.le_of_lt (x.above y c (PySem.mem_of_lookup h)))
  · unfold start
    show _ = N.length
    rw [List.length_append, List.length_map, List.length_replicate]
    omega

/-- THE RULE: a def (or a method) of the text, by its body. The body's reading t is chosen for each entry; it is run at the parameters' values -/
theorem fn_of {CX : CXT} {P : Program} {w : World} {K : PySem.W.Frag} {mg : Str → Option Value} {base : Heap} {k : Nat} {f : Addr} {name qual : Str} {params : Arguments} {body : List Stmt} {scope : Scope} {dV kV doc pm cdv ct oc : Value} {an od : Option Addr}
    {osl : Array (Option Value)} {N ps : List Str} {sp : Sp} (lk : K.lookup f = some ⟨oc, od, .func (PySem.W.fnOf name qual params body scope dV kV doc pm an cdv ct), osl⟩) (hcd : PySem.W.codeIn K cdv qual = true) (S : FnScope N ps scope)
    (len : ∀ vs H Q E, sp vs H Q E → vs.length = ps.length)
    (hbody : ∀ (A : Around) (outer : List Env) (s : Shared) (H : Hp) (vs : List V) (Q : VK) (E : XK), Room k (A.deeper (envOfC qual scope s.heap.objs.size f cdv)) → sp vs H Q E →
      ∃ t, PSs (cxOf CX P w K mg base N qual scope f cdv A outer s H E) body t ∧ t { nx := fun _ H' => Q .non H', rt := Q } (start N vs) H) :
    FnOk P w K mg base CX (k + 1) f (PySem.W.fnOf name qual params body scope dV kV doc pm an cdv ct) ps sp := by
  refine ⟨len, fun A outer s H args us vs Q E hr e0 hb r hsp => ?_⟩
  have hl := len _ _ _ _ hsp
  have KX : K.In s.heap := e0.mod.kin.keeps fun b o e => (e0.bs b o e).1
  have lim : s.heap.NoLimit := e0.mod.nolimit.keeps fun b o e => (e0.bs b o e).1
  have hkind : ∀ y ∈ ps.zip us, scope.names.lookup y.1 = some .local ∨ (scope.names.lookup y.1 = some .cell ∧ ((cellsFrom (s.heap.objs.size + 1) scope.names []).lookup y.1).isSome = true) := fun ⟨n, v⟩ hy => by
    rcases S.par n (List.of_mem_zip hy).1 with q | q
    · exact .inl q
    · exact .inr ⟨q, PySem.W.cellsFrom_some _ _ _ (.inl q)⟩
  refine codeAny_call_function hr.depth (KX _ _ lk) rfl S.co S.gen rfl (PySem.W.codeRec_of KX hcd) (hb _ _ _ _ ?_)
  refine wpAny_newFunctionEnv_cells S.kind hkind fun env he s1 x => ?_
  subst he
  refine ⟨lim.keeps x.toInCall.keep, codeAny_func ?_⟩
  obtain ⟨t, ht, hq⟩ := hbody A outer s H vs Q E (hr.deeper _) hsp
  have I : Inv (cxOf CX P w K mg base N qual scope f cdv A outer s H E) [] (start N vs) H s1 := inv_start S hr.hd e0 hl r x
  refine wpAny_mono (ht [] s1 (start N vs) H _ I hq) (fun fl s' hs => ?_) fun e s' hs => hs
  have fin : ∀ {σ' : St} {H' : Hp} {v : V} {u : Value}, Inv (cxOf CX P w K mg base N qual scope f cdv A outer s H E) [] σ' H' s' → RelV v u → Q v H' → CE outer P w H s Q u s' :=
    fun {σ' H' v u} J rv q => ⟨v, H', J.os, J.bare, J.base, J.hok, rv, q⟩
  cases fl with
  | ret u =>
    obtain ⟨v, σ', H', J, rv, q⟩ := hs
    exact fin J rv q
  | next =>
    obtain ⟨σ', H', J, q⟩ := hs
    exact fin (v := V.non) (u := Value.none) J rfl q
  | brk =>
    obtain ⟨_, _, _, q⟩ := hs
    exact False.elim q
  | cont =>
    obtain ⟨_, _, _, q⟩ := hs
    exact False.elim q
end L2

namespace L2
open PySem PySem.Spec PyProof.Rows
section
variable {X : Cx} {x : Str} {p pos : Pos} {e : Expr} {es : List Expr} {t : TA} {id T : String} {r : List V → Hp → VK → Prop}

def tCB (r : List V → Hp → VK → Prop) (t : TA) : TE := fun σ H Q => t σ H fun vs H1 => r vs H1 Q
/-- f(e, ..), f a built-in function -/
theorem pe_callB (hc : CallR X (.builtin id) r) (hg : Gl X x) (hm : X.mg x = none) (hv : bootBuiltins x = some (.builtin id)) (ha : PA X (e :: es) t) (hn : x ≠ "__name__" := by decide) (hdb : (x == ("__debug__" : Str)) = false := by decide)
    (he : starEach (e :: es) X.env = (false, eval e X.env) :: starEach es X.env := by rfl) (hpl : (backTo pos (starEach es X.env)).any (·.1) = false := by rfl) : PE X (.Call (.Name x p) (e :: es) [] pos) (tCB r t) := by
  intro pins s σ H Q I h
  refine wpAny_Call_Name_kw (ld_blt I hg hm hv ?_ hn hdb)
  exact PyProof.Rows.callWith_builtin1 (thn (ha pos pins s σ H _ I h) fun us s1 ⟨vs, H1, I1, r1, q1⟩ => hc pins s1 σ H1 vs us Q I1 r1 q1) he hpl
/-- T(e, ..), T a built-in type -/
theorem pe_callTy (hc : CallR X (.type T) r) (hg : Gl X x) (hm : X.mg x = none) (hv : bootBuiltins x = some (.type T)) (ha : PA X (e :: es) t) (hn : x ≠ "__name__" := by decide) (hdb : (x == ("__debug__" : Str)) = false := by decide)
    (he : starEach (e :: es) X.env = (false, eval e X.env) :: starEach es X.env := by rfl) (hpl : (backTo pos (starEach es X.env)).any (·.1) = false := by rfl) : PE X (.Call (.Name x p) (e :: es) [] pos) (tCB r t) := by
  intro pins s σ H Q I h
  refine wpAny_Call_Name_kw (ld_blt I hg hm hv ?_ hn hdb)
  exact PyProof.Rows.callWith_type1 (thn (ha pos pins s σ H _ I h) fun us s1 ⟨vs, H1, I1, r1, q1⟩ => hc pins s1 σ H1 vs us Q I1 r1 q1) he hpl
end
end L2

namespace HT
open PySem PyProof.Rows



section
open PySem.SeqAt
open PySem.AutoSeq1 (wpAny_loadPart')
open PySem.MeetsSeq PySem.MeetsSeq2 PySem.MeetsSeq3

end

section
variable {prog : Program} {w : World} {A : Around} {E : Value → Shared → Prop} {s : Shared}



/-! ### t[a:b], not the whole -/
/-- a slice's bound as a place among n (d where it is left out) -/
def sIx (n d : Nat) : Option Int → Nat
  | none => d
  | some v => if v < 0 then (v + (n : Int)).toNat else min v.toNat n
theorem sIx_none (n d : Nat) : sIx n d none = d := rfl
theorem sIx_nat (n d k : Nat) : sIx n d (some (k : Int)) = min k n := by
  show (if (k : Int) < 0 then ((k : Int) + (n : Int)).toNat else min (k : Int).toNat n) = min k n
  rw [if_neg (by omega), Int.toNat_natCast]

end
end HT

namespace L2
open PySem PySem.Spec PyProof.Rows

/-! ### the parts of a slice -/
abbrev TO := St → Hp → (Option Int → Hp → Prop) → Prop
/-- a slice's part (left out, or an int) -/
def PO (X : Cx) (e : Option Expr) (t : TO) : Prop :=
  ∀ (pins : List (Addr × Obj)) (s : Shared) (σ : St) (H : Hp) (Q : Option Int → Hp → Prop), Inv X pins σ H s → t σ H Q →
    wpAny (model X.prog X.w) X.A (evalPart e X.env) (fun u s' => ∃ o H', Inv X pins σ H' s' ∧ IsPart u o ∧ Q o H') X.xe s
def tNoPart : TO := fun _ H Q => Q none H
def tPart (t : TE) : TO := fun σ H Q => t σ H fun x H1 => ∃ i, x = .int i ∧ Q (some i) H1


section
variable {X : Cx} {e : Expr} {te : TE} {lo hi : Option Expr} {tl th : TO} {pos p2 : Pos}

theorem po_none : PO X none tNoPart := by
  intro pins s σ H Q I h
  rw [evalPart_none]
  exact wpAny_pure ⟨none, H, I, .none, h⟩
theorem po_some (h : PE X e te) : PO X (some e) (tPart te) := by
  intro pins s σ H Q I hw
  rw [evalPart_some]
  refine thn (h pins s σ H _ I hw) fun u s1 ⟨x, H1, I1, r1, q1⟩ => ?_
  obtain ⟨i, rfl, q⟩ := q1
  obtain ⟨t, rfl⟩ := r1
  exact ⟨some i, H1, I1, .int i t, q⟩

/-- what a slice of a value is, by values: the slice object stands at sl -/
def SlR (X : Cx) (r : V → Option Int → Option Int → Hp → VK → Prop) : Prop :=
  ∀ (pins : List (Addr × Obj)) (s : Shared) (σ : St) (H : Hp) (x : V) (v vl vu : Value) (lo hi : Option Int) (sl : Addr) (Q : VK), Inv X pins σ H s → RelV x v → s.heap.IsSliceOf sl vl vu .none → IsPart vl lo → IsPart vu hi → r x lo hi H Q →
    ∃ T id, typeLookup (.type T) "__getitem__" = pure (some (.builtin id)) ∧ s.TypeIs v T ∧ wpAny (model X.prog X.w) X.A (getItem v (.ref sl)) (EP X pins σ Q) X.xe s
theorem SlR.or {r r' : V → Option Int → Option Int → Hp → VK → Prop} (h : SlR X r) (h' : SlR X r') : SlR X (fun x lo hi H Q => r x lo hi H Q ∨ r' x lo hi H Q) := by
  intro pins s σ H x v vl vu lo hi sl Q I rx hs pl pu q
  rcases q with q | q
  · exact h pins s σ H x v vl vu lo hi sl Q I rx hs pl pu q
  · exact h' pins s σ H x v vl vu lo hi sl Q I rx hs pl pu q
def tSl (r : V → Option Int → Option Int → Hp → VK → Prop) (te : TE) (tl th : TO) : TE := fun σ H Q => te σ H fun x H1 => tl σ H1 fun l H2 => th σ H2 fun u H3 => r x l u H3 Q
/-- a[lo:hi], any a -/
theorem pe_slice {r : V → Option Int → Option Int → Hp → VK → Prop} (hr : SlR X r) (he : PE X e te) (hl : PO X lo tl) (hu : PO X hi th) : PE X (.Subscript e (.Slice lo hi none p2) pos) (tSl r te tl th) := by
  intro pins s σ H Q I h
  refine Subscript_ (thn (he pins s σ H _ I h) fun v s1 ⟨x, H1, I1, r1, q1⟩ => ?_)
  refine wpAny_Slice (thn (hl pins s1 σ H1 _ I1 q1) fun vl s2 ⟨l, H2, I2, pl, q2⟩ => thn (hu pins s2 σ H2 _ I2 q2) fun vu s3 ⟨u, H3, I3, pu, q3⟩ => ?_)
  rw [evalPart_none]
  refine wpAny_pure ?_
  have I4 : Inv X pins σ H3 { s3 with heap := s3.heap.push { cls := .type "slice", data := .fields #[vl, vu, .none] } } := I3.kept (t' := s3.toks) fun b ob q => Heap.get?_push_of_some _ q
  obtain ⟨T, id, hT, ht, hg⟩ := hr pins { s3 with heap := s3.heap.push { cls := .type "slice", data := .fields #[vl, vu, .none] } } σ H3 x v vl vu l u s3.heap.objs.size Q I4 r1 (Heap.IsSliceOf.new ..) pl pu q3
  show wpAny (model X.prog X.w) X.A (subscriptTail e (.Slice lo hi none p2) v (.ref s3.heap.objs.size)) (EP X pins σ Q) X.xe { s3 with heap := s3.heap.push { cls := .type "slice", data := .fields #[vl, vu, .none] } }
  exact tail_any (ops := [.ref s3.heap.objs.size, v]) ht hT hg (by with_unfolding_all rfl)

/-- the items of xs[lo:hi] -/
def cutV (xs : List V) (lo hi : Option Int) : List V := (xs.drop (HT.sIx xs.length 0 lo)).take (HT.sIx xs.length xs.length hi - HT.sIx xs.length 0 lo)
theorem cutV_length (xs : List V) (lo hi : Option Int) : (cutV xs lo hi).length ≤ xs.length := by
  unfold cutV
  rw [List.length_take, List.length_drop]
  omega

/-! ### t < u, t + u -/
end
end L2

namespace L2
open PySem PySem.Spec PyProof.Rows

/-! ### places -/
/-- the place that an index of any sign means -/
def ixN (n : Nat) (i : Int) : Option Nat := if 0 ≤ i then (if i < n then some i.toNat else none) else if -(n : Int) ≤ i then some (i + n).toNat else none
def atI {α : Type} (xs : List α) (i : Int) : Option α := (ixN xs.length i).bind fun j => xs[j]?
theorem ixN_seq {n : Nat} {i : Int} {j : Nat} (h : ixN n i = some j) : seqIndex? i n = some j ∧ j < n ∧ -(n : Int) ≤ i ∧ i < n := by
  unfold ixN at h
  by_cases h0 : 0 ≤ i
  · rw [if_pos h0] at h
    by_cases h1 : i < n
    · rw [if_pos h1] at h
      have e : i.toNat = j := Option.some.inj h
      exact ⟨by rw [seqIndex_of h0 h1, e], by omega, by omega, h1⟩
    · rw [if_neg h1] at h; cases h
  · rw [if_neg h0] at h
    by_cases h1 : -(n : Int) ≤ i
    · rw [if_pos h1] at h
      have e : (i + n).toNat = j := Option.some.inj h
      exact ⟨by rw [seqIndex_neg (by omega) h1, e], by omega, h1, by omega⟩
    · rw [if_neg h1] at h; cases h
theorem atI_get {α : Type} {xs : List α} {i : Int} {v : α} (h : atI xs i = some v) : ∃ j, seqIndex? i xs.length = some j ∧ xs[j]? = some v ∧ j < xs.length ∧ -(xs.length : Int) ≤ i ∧ i < xs.length := by
  unfold atI at h
  cases e : ixN xs.length i with
  | none => rw [e] at h; cases h
  | some j =>
    rw [e] at h
    obtain ⟨h1, h2, h3, h4⟩ := ixN_seq e
    exact ⟨j, h1, h, h2, h3, h4⟩
theorem atI_nat {α : Type} {xs : List α} {j : Nat} {v : α} (h : xs[j]? = some v) : atI xs (j : Int) = some v := by
  have hj : j < xs.length := (List.getElem?_eq_some_iff.mp h).1
  have e : ixN xs.length (j : Int) = some j := by
    unfold ixN
    rw [if_pos (by omega), if_pos (by omega)]; simp
  unfold atI; rw [e]; exact h

/-! ### what may be subscripted -/
/-- what stands as an index of a plain subscript -/
def PlainIx (b : Expr) : Prop := ∀ o i, subscripted b false o i = operate [o, i] (getItem o i)
/-- a subscript by values -/
def IxR (X : Cx) (r : R2) : Prop :=
  ∀ (value slice : Expr) (pins : List (Addr × Obj)) (s : Shared) (σ : St) (H : Hp) (x y : V) (v u : Value) (Q : VK), Inv X pins σ H s → RelV x v → RelV y u → r x y H Q →
    subscripted slice false v u = operate [v, u] (getItem v u) → wpAny (model X.prog X.w) X.A (subscriptTail value slice v u) (EP X pins σ Q) X.xe s
/-- a call of a builtin's method by values: the receiver, the arguments -/
def MtR (X : Cx) (id : String) (r : V → List V → Hp → VK → Prop) : Prop :=
  ∀ (pins : List (Addr × Obj)) (s : Shared) (σ : St) (H : Hp) (x : V) (xs : List V) (v : Value) (us : List Value) (Q : VK), Inv X pins σ H s → RelV x v → Vals xs us → r x xs H Q →
    wpAny (model X.prog X.w) X.A (call (.builtin id) (v :: us)) (EP X pins σ Q) X.xe s
section
variable {X : Cx} {a b : Expr} {ta tb : TE} {pos : Pos}
theorem IxR.or {r r' : R2} (h : IxR X r) (h' : IxR X r') : IxR X (fun x y H Q => r x y H Q ∨ r' x y H Q) := by
  intro value slice pins s σ H x y v u Q I rx ry q hs
  rcases q with q | q
  · exact h value slice pins s σ H x y v u Q I rx ry q hs
  · exact h' value slice pins s σ H x y v u Q I rx ry q hs
theorem MtR.or {id : String} {r r' : V → List V → Hp → VK → Prop} (h : MtR X id r) (h' : MtR X id r') : MtR X id (fun x xs H Q => r x xs H Q ∨ r' x xs H Q) := by
  intro pins s σ H x xs v us Q I rx rs q
  rcases q with q | q
  · exact h pins s σ H x xs v us Q I rx rs q
  · exact h' pins s σ H x xs v us Q I rx rs q
/-- a[b] -/
theorem pe_ix {r : R2} (hr : IxR X r) (ha : PE X a ta) (hb : PE X b tb) (hs : PlainIx b) : PE X (.Subscript a b pos) (tOp r ta tb) := by
  intro pins s σ H Q I h
  exact Subscript_ (binT ha hb I h fun v u s2 x y H2 I2 rx ry q => hr a b pins s2 σ H2 x y v u Q I2 rx ry q (hs _ _))

def rIxL (K : PySem.W.Frag) : R2 := fun x y H Q => ∃ p xs i v, x = .ref p ∧ y = .int i ∧ SqL K H p xs ∧ atI xs i = some v ∧ Q v H
def rIxT (K : PySem.W.Frag) : R2 := fun x y H Q => ∃ p xs i v, x = .ref p ∧ y = .int i ∧ SqT K H p xs ∧ atI xs i = some v ∧ Q v H
theorem ix_list : IxR X (rIxL X.K) := by
  intro value slice pins s σ H x y v u Q I rx ry h hs
  obtain ⟨p, xs, i, z, rfl, rfl, hq, he, q⟩ := h
  cases rx
  obtain ⟨t, rfl⟩ := ry
  obtain ⟨its, r, pl, hz⟩ := I.list hq
  obtain ⟨j, h1, h2, h3, h4, h5⟩ := atI_get he
  obtain ⟨w, ew, rw'⟩ := r.get h2
  have hl := r.length
  have hn := line63
  have fin : EP X pins σ Q w s := ⟨z, H, I, rw', q⟩
  by_cases h0 : 0 ≤ i
  · have hj : i.toNat = j := by
      rw [seqIndex_of h0 h5] at h1
      exact Option.some.inj h1
    exact item_listR pl.isList h0 (by omega) (by rw [hj]; simpa using ew) fin hs
  · have hj : (i + (its.toArray.size : Int)).toNat = j := by
      rw [seqIndex_neg (by omega) h4] at h1
      rw [List.size_toArray, ← hl]
      exact Option.some.inj h1
    exact subscriptTail_builtinR (x := w) pl.isList.typeIs slot_list_getitem.lookup
      (wpAny_getItem_list_neg (Q := fun r s' => r = w ∧ EP X pins σ Q r s') pl.isList (by omega) (by rw [List.size_toArray] <;> omega) (by omega) (by rw [hj]; simpa using ew) ⟨rfl, fin⟩) hs
theorem ix_tup : IxR X (rIxT X.K) := by
  intro value slice pins s σ H x y v u Q I rx ry h hs
  obtain ⟨p, xs, i, z, rfl, rfl, hq, he, q⟩ := h
  cases rx
  obtain ⟨t, rfl⟩ := ry
  obtain ⟨its, r, pl, hz⟩ := I.tuple hq
  obtain ⟨j, h1, h2, h3, h4, h5⟩ := atI_get he
  obtain ⟨w, ew, rw'⟩ := r.get h2
  have hl := r.length
  have hn := line63
  have fin : EP X pins σ Q w s := ⟨z, H, I, rw', q⟩
  exact subscriptTail_builtinR (x := w) pl.typeIs slot_tuple_getitem.lookup
    (getItem_tuple (j := j) (Q := fun r s' => r = w ∧ EP X pins σ Q r s') pl (by omega) (by omega) (by rw [List.size_toArray, ← hl]; exact h1) (by simpa using ew) ⟨rfl, fin⟩) hs

/-! ### xs[i] = v, any sign -/
theorem Inv.lst {pins : List (Addr × Obj)} {σ : St} {H : Hp} {s : Shared} {p : Addr} {xs : List V} (I : Inv X pins σ H s) (h : H p = some (.lst xs)) :
    ∃ (its : List Value) (n : Nat), Vals xs its ∧ s.heap.get? p = some { cls := .type "list", data := .seq its.toArray n } ∧ xs.length ≤ sizeLine := by
  obtain ⟨z, its, n, r, e⟩ := I.hok p _ h
  exact ⟨its, n, r, e, z⟩

/-! ### slices -/
theorem slice_bounds (lo hi : Option Int) (n : Nat) : (sliceBounds lo hi none n).1 = ((HT.sIx n 0 lo : Nat) : Int) ∧ (sliceBounds lo hi none n).2.1 = ((HT.sIx n n hi : Nat) : Int) ∧ (sliceBounds lo hi none n).2.2 = 1 := by
  refine ⟨?_, ?_, rfl⟩
  · cases lo with
    | none => simp [sliceBounds, HT.sIx]
    | some i =>
      simp only [sliceBounds, HT.sIx, Option.getD_none, show (1 : Int) > 0 by decide, if_true]
      by_cases h : i < 0
      · simp only [h, if_true] <;> omega
      · simp only [h, if_false] <;> omega
  · cases hi with
    | none => simp [sliceBounds, HT.sIx]
    | some i =>
      simp only [sliceBounds, HT.sIx, Option.getD_none, show (1 : Int) > 0 by decide, if_true]
      by_cases h : i < 0
      · simp only [h, if_true] <;> omega
      · simp only [h, if_false] <;> omega
theorem slicePick_cut (its : List Value) (lo hi : Option Int) : slicePick its.toArray lo hi none = ((its.drop (HT.sIx its.length 0 lo)).take (HT.sIx its.length its.length hi - HT.sIx its.length 0 lo)).toArray := by
  obtain ⟨h1, h2, h3⟩ := slice_bounds lo hi its.toArray.size
  unfold slicePick
  rw [h1, h2, h3]
  simp only [sliceRange_one, pick_run, List.size_toArray] <;> rfl
/-- xs[lo:hi] of a list: a new list -/
def rSlL (K : PySem.W.Frag) : V → Option Int → Option Int → Hp → VK → Prop := fun x lo hi H Q => ∃ a xs, x = .ref a ∧ SqL K H a xs ∧ ∀ p, H p = none → Q (.ref p) (upd H p (.lst (cutV xs lo hi)))
theorem sl_list : SlR X (rSlL X.K) := by
  intro pins s σ H x v vl vu lo hi sl Q I rx hs pl pu h
  obtain ⟨a, xs, rfl, hx, q⟩ := h
  cases rx
  obtain ⟨its, r, ht, hz⟩ := I.list hx
  have hlen := r.length
  refine ⟨"list", _, slot_list_getitem.lookup, ht.isList.typeIs, ?_⟩
  refine wpAny_getItem_list_slice ht.isList hs pl pu .none (by simp) ?_ (by rw [List.size_toArray] <;> omega)
  rw [slicePick_cut, ← hlen]
  refine ⟨.ref s.heap.objs.size, _, I.laid (t' := s.toks) (o := .lst (cutV xs lo hi)) (fun b ob q => Heap.get?_push_of_some _ q) (Nat.le_refl _) ?_, rfl, q _ (I.hok.fresh (Nat.le_refl _))⟩
  exact ⟨Nat.le_trans (cutV_length xs lo hi) hz, _, 0, (r.drop (HT.sIx xs.length 0 lo)).take (HT.sIx xs.length xs.length hi - HT.sIx xs.length 0 lo), Heap.get?_push_size _ rfl⟩

/-! ### in, not in: flat items -/
def flatV : V → Bool
  | .non => true
  | .bl _ => true
  | .int _ => true
  | .str _ => true
  | _ => false
/-- == of flat values -/
def eqV : V → V → Bool
  | .non, .non => true
  | .bl a, .bl b => a == b
  | .bl a, .int b => (if a then 1 else 0) == b
  | .int a, .bl b => a == (if b then 1 else 0)
  | .int a, .int b => a == b
  | .str a, .str b => a == b
  | _, _ => false
theorem eqAt_V {A : Around} {s : Shared} {y x : V} {u v : Value} (ry : RelV y u) (rx : RelV x v) (fy : flatV y = true) (fx : flatV x = true) : SeqAt.EqAt A s u v (eqV y x) := by
  cases y with
  | non =>
    cases ry
    cases x with
    | non => cases rx; exact SeqAt.EqAt.same _
    | bl b => cases rx; exact SeqAt.EqAt.none_bool b
    | int b => obtain ⟨t, rfl⟩ := rx; exact SeqAt.EqAt.none_int b t
    | str b => obtain ⟨t, rfl⟩ := rx; exact SeqAt.EqAt.none_str b t
    | _ => exact absurd (show false = true from fx) Bool.false_ne_true
  | bl a =>
    cases ry
    cases x with
    | non => cases rx; exact SeqAt.EqAt.bool_none a
    | bl b => cases rx; exact SeqAt.EqAt.bool_bool a b
    | int b => obtain ⟨t, rfl⟩ := rx; exact SeqAt.EqAt.bool_int a b t
    | str b => obtain ⟨t, rfl⟩ := rx; exact SeqAt.EqAt.bool_str a b t
    | _ => exact absurd (show false = true from fx) Bool.false_ne_true
  | int a =>
    obtain ⟨t', rfl⟩ := ry
    cases x with
    | non => cases rx; exact SeqAt.EqAt.int_none a t'
    | bl b => cases rx; exact SeqAt.EqAt.int_bool a t' b
    | int b => obtain ⟨t, rfl⟩ := rx; exact SeqAt.EqAt.int_int a t' b t
    | str b => obtain ⟨t, rfl⟩ := rx; exact SeqAt.EqAt.int_str a t' b t
    | _ => exact absurd (show false = true from fx) Bool.false_ne_true
  | str a =>
    obtain ⟨t', rfl⟩ := ry
    cases x with
    | non => cases rx; exact SeqAt.EqAt.str_none a t'
    | bl b => cases rx; exact SeqAt.EqAt.str_bool a t' b
    | int b => obtain ⟨t, rfl⟩ := rx; exact SeqAt.EqAt.str_int a t' b t
    | str b => obtain ⟨t, rfl⟩ := rx; exact SeqAt.EqAt.str_str a t' b t
    | _ => exact absurd (show false = true from fx) Bool.false_ne_true
  | _ => exact absurd (show false = true from fy) Bool.false_ne_true
/-- the items' answers, read off the values (a value's own answer does not lean on its token) -/
def eqU (x : V) (u : Value) : Bool := match u with
  | .none => eqV .non x
  | .bool b => eqV (.bl b) x
  | .int i _ => eqV (.int i) x
  | .str z _ => eqV (.str z) x
  | _ => false
theorem eqU_of {x y : V} {u : Value} (r : RelV y u) (f : flatV y = true) : eqU x u = eqV y x := by
  cases y with
  | non => cases r; rfl
  | bl b => cases r; rfl
  | int i => obtain ⟨t, rfl⟩ := r; rfl
  | str z => obtain ⟨t, rfl⟩ := r; rfl
  | _ => exact absurd (show false = true from f) Bool.false_ne_true
theorem any_eqU {x : V} : ∀ {xs : List V} {us : List Value}, Vals xs us → xs.all flatV = true → us.any (eqU x) = xs.any fun y => eqV y x
  | _, _, .nil, _ => rfl
  | y :: xs, u :: us, .cons r t, f => by
    rw [List.all_cons, Bool.and_eq_true] at f
    rw [List.any_cons, List.any_cons, eqU_of r f.1, any_eqU t f.2]
theorem mem_eqAt {A : Around} {s : Shared} {x : V} {v : Value} (rx : RelV x v) (fx : flatV x = true) : ∀ {xs : List V} {us : List Value}, Vals xs us → xs.all flatV = true → ∀ u ∈ us, SeqAt.EqAt A s u v (eqU x u)
  | _, _, .nil, _ => fun u hu => by cases hu
  | y :: xs, u :: us, .cons r t, f => fun u' hu => by
    rw [List.all_cons, Bool.and_eq_true] at f
    rcases List.mem_cons.mp hu with rfl | hu
    · rw [eqU_of r f.1]; exact eqAt_V r rx f.1 fx
    · exact mem_eqAt rx fx t f.2 u' hu
def inV (x : V) (xs : List V) : Bool := xs.any fun y => eqV y x
/-- x in a list or tuple of flat items -/
def rIn (K : PySem.W.Frag) (neg : Bool) : R2 := fun x y H Q => ∃ p xs, y = .ref p ∧ (SqL K H p xs ∨ SqT K H p xs) ∧ flatV x = true ∧ xs.all flatV = true ∧ Q (.bl (if neg then !inV x xs else inV x xs)) H
theorem op_notIn_seq : OpR X (compareOp .NotIn) (rIn X.K true) := by
  intro pins s σ H x y v u Q I rx ry h
  obtain ⟨p, xs, rfl, hq, fx, fs, q⟩ := h
  cases ry
  rcases hq with hq | hq
  · obtain ⟨its, r, pl, hz⟩ := I.list hq
    refine SeqAt.notIn_listAt (eqU x) pl.isList (fun w hw => mem_eqAt rx fx r fs w (by simpa using hw)) ⟨.bl _, H, I, rfl, ?_⟩
    rw [show its.toArray.any (eqU x) = its.any (eqU x) by simp, any_eqU r fs]
    exact q
  · obtain ⟨its, r, pl, hz⟩ := I.tuple hq
    refine SeqAt.notIn_tupleAt (eqU x) pl (fun w hw => mem_eqAt rx fx r fs w (by simpa using hw)) ⟨.bl _, H, I, rfl, ?_⟩
    rw [show its.toArray.any (eqU x) = its.any (eqU x) by simp, any_eqU r fs]
    exact q

/-! ### len, list(x), tuple(x) of any list or tuple that is read -/
theorem call_len_seq : CallR X (.builtin "len") (fun xs H Q => ∃ p ys, xs = [.ref p] ∧ (SqL X.K H p ys ∨ SqT X.K H p ys) ∧ Q (.int ys.length) H) := by
  intro pins s σ H xs us Q I r h
  obtain ⟨p, ys, rfl, hq, q⟩ := h
  obtain ⟨u, rfl, rx⟩ := vals1 r
  cases rx
  have hn := line63
  rcases hq with hq | hq
  · obtain ⟨its, r', pl, hz⟩ := I.list hq
    have hlen := r'.length
    exact Calls.call_len_list pl.isList (by simp only [List.size_toArray] <;> omega) ⟨.int ys.length, H, I.tok _, ⟨s.toks + 1, by rw [List.size_toArray, hlen]⟩, q⟩
  · obtain ⟨its, r', pl, hz⟩ := I.tuple hq
    have hlen := r'.length
    exact len_tuple pl (by simp only [List.size_toArray] <;> omega) ⟨.int ys.length, H, I.tok _, ⟨s.toks + 1, by rw [List.size_toArray, hlen]⟩, q⟩
theorem call_len_str : CallR X (.builtin "len") (fun xs H Q => ∃ z, xs = [.str z] ∧ z.length ≤ sizeLine ∧ Q (.int z.length) H) := by
  intro pins s σ H xs us Q I r h
  obtain ⟨z, rfl, hz, q⟩ := h
  obtain ⟨u, rfl, t, rfl⟩ := vals1 r
  have hn := line63
  exact len_str (by omega) ⟨.int z.length, H, I.tok _, ⟨_, rfl⟩, q⟩
theorem CallR.or {f : Value} {r r' : List V → Hp → VK → Prop} (h : CallR X f r) (h' : CallR X f r') : CallR X f (fun xs H Q => r xs H Q ∨ r' xs H Q) := by
  intro pins s σ H xs us Q I rs q
  rcases q with q | q
  · exact h pins s σ H xs us Q I rs q
  · exact h' pins s σ H xs us Q I rs q
theorem call_list_of : CallR X (.type "list") (fun xs H Q => ∃ p ys, xs = [.ref p] ∧ (SqL X.K H p ys ∨ SqT X.K H p ys) ∧ ∀ l, H l = none → Q (.ref l) (upd H l (.lst ys))) := by
  intro pins s σ H xs us Q I r h
  obtain ⟨p, ys, rfl, hq, q⟩ := h
  obtain ⟨u, rfl, rx⟩ := vals1 r
  cases rx
  have fin : ∀ (its : List Value), Vals ys its → ys.length ≤ sizeLine → ∀ (h' : Heap) (c' : Nat), (∀ b o', s.heap.get? b = some o' → h'.get? b = some o') →
      h'.get? s.heap.objs.size = some { cls := .type "list", dict := none, data := .seq its.toArray c', slots := #[] } → EP X pins σ Q (.ref s.heap.objs.size) { s with heap := h' } := fun its r' hz h' c' kp e =>
    ⟨.ref s.heap.objs.size, _, I.laid (t' := s.toks) kp (Nat.le_refl _) (show ObjOk X.prog X.w _ h' _ (.lst ys) from ⟨hz, its, c', r', e⟩), rfl, q _ (I.hok.fresh (Nat.le_refl _))⟩
  rcases hq with hq | hq
  · obtain ⟨its, r', pl, hz⟩ := I.list hq
    have hlen := r'.length
    obtain ⟨o, ho, hc, n, hd⟩ := pl.isList
    exact call_list_seq p (.inl rfl) ho hc hd (fun h' c' kp e => fin its r' hz h' c' kp e) (by simp only [List.size_toArray] <;> omega)
  · obtain ⟨its, r', pl, hz⟩ := I.tuple hq
    have hlen := r'.length
    obtain ⟨o, ho, hc, n, hd⟩ := pl
    exact call_list_seq p (.inr rfl) ho hc hd (fun h' c' kp e => fin its r' hz h' c' kp e) (by simp only [List.size_toArray] <;> omega)

/-! ### the call of a builtin's method: o.m(..) -/
/-- the value is of that builtin type -/
def tyV (K : PySem.W.Frag) (T : String) (x : V) (H : Hp) : Prop := match x with
  | .str _ => T = "str"
  | .int _ => T = "int"
  | .ref p => (T = "list" ∧ ∃ xs, SqL K H p xs) ∨ (T = "tuple" ∧ ∃ o, K.lookup p = some o ∧ o.cls = .type "tuple" ∧ o.dict = none) ∨
      (T = "dict" ∧ ((∃ kvs, H p = some (.dK kvs)) ∨ ∃ kvs, H p = some (.dT kvs))) ∨ (T = "set" ∧ ∃ S n, H p = some (.set S n))
  | _ => False
theorem tyV_is {pins : List (Addr × Obj)} {σ : St} {H : Hp} {s : Shared} {T : String} {x : V} {v : Value} (I : Inv X pins σ H s) (r : RelV x v) (ty : tyV X.K T x H) :
    s.TypeIs v T ∧ ∀ a, v = .ref a → ∃ ob, s.heap.get? a = some ob ∧ ob.dict = none := by
  cases x with
  | str z =>
    obtain ⟨t, rfl⟩ := r
    cases (show T = "str" from ty)
    exact ⟨typeIs_str s z t, fun _ e => nomatch e⟩
  | int i =>
    obtain ⟨t, rfl⟩ := r
    cases (show T = "int" from ty)
    exact ⟨typeIs_int s i t, fun _ e => nomatch e⟩
  | ref p =>
    cases r
    rcases ty with ⟨rfl, xs, hq⟩ | ⟨rfl, o, hk, hc, hd⟩ | ⟨rfl, hk⟩ | ⟨rfl, S, n, hk⟩
    · obtain ⟨its, _, pl, _⟩ := I.list hq
      refine ⟨pl.isList.typeIs, fun a e => ?_⟩
      cases e
      obtain ⟨o, n, e, c, hd, _⟩ := pl
      exact ⟨o, e, hd⟩
    · refine ⟨⟨o, I.kIn p o hk, hc⟩, fun a e => ?_⟩
      cases e
      exact ⟨o, I.kIn _ o hk, hd⟩
    · have z : ∃ o, s.heap.get? p = some o ∧ o.ExactDict := by
        rcases hk with ⟨kvs, hk⟩ | ⟨kvs, hk⟩
        · obtain ⟨_, _, _, _, o, _, _, e, ex, _⟩ := I.hok p _ hk
          exact ⟨o, e, ex⟩
        · obtain ⟨_, _, _, _, o, _, _, e, ex, _⟩ := I.hok p _ hk
          exact ⟨o, e, ex⟩
      obtain ⟨o, e, ex⟩ := z
      refine ⟨⟨o, e, ex.1⟩, fun a e2 => ?_⟩
      cases e2
      exact ⟨o, e, ex.2.1⟩
    · obtain ⟨o, _, _, _, e, ex, _⟩ := I.hok p _ hk
      refine ⟨⟨o, e, ex.1⟩, fun a e2 => ?_⟩
      cases e2
      exact ⟨o, e, ex.2.1⟩
  | _ => exact False.elim ty
def tBM0 (K : PySem.W.Frag) (T : String) (r : V → List V → Hp → VK → Prop) (to : TE) : TE := fun σ H Q => to σ H fun x H1 => tyV K T x H1 ∧ r x [] H1 Q
def tBM (K : PySem.W.Frag) (T : String) (r : V → List V → Hp → VK → Prop) (to : TE) (t : TA) : TE := fun σ H Q => to σ H fun x H1 => tyV K T x H1 ∧ t σ H1 fun xs H2 => r x xs H2 Q
variable {o e : Expr} {es : List Expr} {to : TE} {t : TA} {name : Str} {apos cpos : Pos} {T id : String} {r : V → List V → Hp → VK → Prop}
theorem pe_bm0 (pa : PlainAttrs T) (slot : Slot T name id) (hty : typeOf (.builtin id) = pure (.type "method_descriptor")) (hm : MtR X id r) (ho : PE X o to)
    (hbase : attributeBase o name X.env (eval o X.env) = eval o X.env := by rfl) (hline : (apos.endLine == cpos.line) = true := by rfl) : PE X (.Call (.Attribute o name apos) [] [] cpos) (tBM0 X.K T r to) := by
  intro pins s σ H Q I h
  refine wpAny_Call_method0_late hbase hline (thn (ho pins s σ H _ I h) fun v s1 ⟨x, H1, I1, r1, ty, q1⟩ => ?_)
  obtain ⟨h1, h2⟩ := tyV_is I1 r1 ty
  exact ⟨T, id, pa, slot, hty, h1, h2, Calls.callWith_builtin rfl (PySem.evalArgs_none (hm pins s1 σ H1 x [] v [] Q I1 r1 .nil q1))⟩
theorem pe_bm (pa : PlainAttrs T) (slot : Slot T name id) (hty : typeOf (.builtin id) = pure (.type "method_descriptor")) (hm : MtR X id r) (ho : PE X o to) (ha : PA X (e :: es) t)
    (hbase : attributeBase o name X.env (eval o X.env) = eval o X.env := by rfl)
    (hfew : ((backTo cpos (starEach (e :: es) X.env)).all (fun x => !x.1) && (backToKw cpos (keywordEach [] X.env)).all (fun x => x.1.isSome)
      && decide ((e :: es).length + ([] : List Keyword).length + (if ([] : List Keyword).isEmpty then 0 else 1) < 30)) = true := by rfl)
    (hline : (apos.endLine == cpos.line) = true := by rfl) (hs : starEach (e :: es) X.env = (false, eval e X.env) :: starEach es X.env := by rfl) (hplain : (backTo cpos (starEach es X.env)).any (·.1) = false := by rfl) :
    PE X (.Call (.Attribute o name apos) (e :: es) [] cpos) (tBM X.K T r to t) := by
  intro pins s σ H Q I h
  refine wpAny_Call_method_late hbase hfew hline rfl (thn (ho pins s σ H _ I h) fun v s1 ⟨x, H1, I1, r1, ty, q1⟩ => ?_)
  obtain ⟨h1, h2⟩ := tyV_is I1 r1 ty
  refine ⟨T, id, pa, slot, hty, h1, h2, ?_⟩
  have hA := ha cpos pins s1 σ H1 _ I1 q1
  rw [hs] at hA ⊢
  refine Calls.callWith_builtin (by show (false || (backTo cpos (starEach es X.env)).any (·.1)) = false; rw [hplain] <;> rfl) (Calls.evalArgs_plain ?_)
  exact thn hA fun us s2 ⟨vs, H2, I2, r2, q2⟩ => hm pins s2 σ H2 x vs v us Q I2 r1 r2 q2
/- xs.append(e), list.index on a module's tuple .. are MtR facts of 06m -/
end
end L2

namespace L2
open PySem PySem.Spec PyProof.Rows

def MtM (X : Cx) (id : String) (r : V → List V → Hp → VK → Prop) : Prop :=
  ∀ (pins : List (Addr × Obj)) (s : Shared) (σ : St) (H : Hp) (x : V) (xs : List V) (v : Value) (us : List Value) (Q : VK), Inv X pins σ H s → RelV x v → Vals xs us → r x xs H Q →
    wpAny (model X.prog X.w) X.A (call (.builtin id) (v :: us)) (EP X pins σ Q) X.xe s

/-! ### lists of values -/
theorem Vals.one : ∀ {x : V} {us : List Value}, Vals [x] us → ∃ u, us = [u] ∧ RelV x u
  | _, _, .cons r .nil => ⟨_, rfl, r⟩
theorem Vals.two : ∀ {x y : V} {us : List Value}, Vals [x, y] us → ∃ u v, us = [u, v] ∧ RelV x u ∧ RelV y v
  | _, _, _, .cons r (.cons q .nil) => ⟨_, _, rfl, r, q⟩
theorem Vals.zero : ∀ {us : List Value}, Vals [] us → us = []
  | _, .nil => rfl
theorem Vals.rep {xs : List V} {us : List Value} (h : Vals xs us) : ∀ k : Nat, Vals (List.replicate k xs).flatten (List.replicate k us).flatten
  | 0 => .nil
  | k + 1 => by
    rw [List.replicate_succ, List.replicate_succ, List.flatten_cons, List.flatten_cons]
    exact Vals.append h (Vals.rep h k)
theorem foldl_rep (its : List Value) : ∀ (k : Nat) (acc : List Value),
    List.foldl (fun x1 x2 => x1 ++ x2) acc.toArray (List.replicate k its.toArray) = (acc ++ (List.replicate k its).flatten).toArray
  | 0, acc => by simp
  | k + 1, acc => by
    have e : acc.toArray ++ its.toArray = (acc ++ its).toArray := by simp
    have e2 : (acc ++ its) ++ (List.replicate k its).flatten = acc ++ (List.replicate (k + 1) its).flatten := by
      rw [List.replicate_succ, List.flatten_cons, List.append_assoc]
    rw [← e2, ← foldl_rep its k (acc ++ its), ← e, List.replicate_succ, List.foldl_cons]

section
variable {X : Cx} {pins : List (Addr × Obj)} {σ : St} {H : Hp} {s : Shared} {l b : Addr} {xs ys zs : List V}

/-! ### the two steps: a tracked list is rewritten, a new list is laid -/
theorem Inv.lset {its its' : List Value} {n : Nat} {f : Array Value → Array Value} {t' : Nat} (I : Inv X pins σ H s) (hH : H l = some (.lst xs))
    (e : s.heap.get? l = some { cls := .type "list", data := .seq its.toArray n }) (hf : f its.toArray = its'.toArray) (hv : Vals ys its') (hz : ys.length ≤ sizeLine) :
    Inv X pins σ (upd H l (.lst ys)) { s with heap := s.heap.update l (Obj.mapSeq f), toks := t' } := by
  have q := PySem.IsL.update e f
  rw [hf] at q
  refine I.write (x := l) (e := l) (by rw [hH]; exact trivial) (.inl rfl) (fun b' u hb hu => (Heap.get?_update_other s.heap (Obj.mapSeq f) (Ne.symm hb)).trans hu) ⟨_, q⟩ ?_
  exact ⟨hz, its', _, hv, q⟩
theorem Inv.lnew {its : List Value} {t' : Nat} (I : Inv X pins σ H s) (hv : Vals ys its) (hz : ys.length ≤ sizeLine) :
    Inv X pins σ (upd H s.heap.objs.size (.lst ys)) { s with heap := s.heap.push { cls := .type "list", data := .seq its.toArray }, toks := t' } :=
  I.laid (fun _ _ q => Heap.get?_push_of_some _ q) (Nat.le_refl _) ⟨hz, its, 0, hv, Heap.get?_push_size _ rfl⟩
theorem Inv.fresh (I : Inv X pins σ H s) : H s.heap.objs.size = none := I.hok.fresh (Nat.le_refl _)
theorem Inv.lstM (I : Inv X pins σ H s) (hH : H l = some (.lst xs)) : xs.length ≤ sizeLine ∧ ∃ (its : List Value) (n : Nat), Vals xs its ∧ xs.length = its.length ∧ s.heap.get? l = some { cls := .type "list", data := .seq its.toArray n } := by
  obtain ⟨z, its, n, r, e⟩ := I.hok l _ hH
  exact ⟨z, its, n, r, r.length, e⟩

theorem notLongL {n : Nat} (h : n ≤ sizeLine) : Builtin.List.listTooLong n = false := by
  unfold Builtin.List.listTooLong
  exact decide_eq_false (by omega)
end

section
variable {X : Cx}

/-! ### methods -/
def rAppend : V → List V → Hp → VK → Prop := fun x vs H Q => ∃ l xs y, x = .ref l ∧ vs = [y] ∧ H l = some (.lst xs) ∧ xs.length < sizeLine ∧ Q .non (upd H l (.lst (xs ++ [y])))
theorem mt_append : MtM X "list.append" rAppend := by
  intro pins s σ H x vs v us Q I rx rv h
  obtain ⟨l, xs, y, rfl, rfl, hH, hz, q⟩ := h
  cases rx
  obtain ⟨u, rfl, ru⟩ := rv.one
  obtain ⟨z, its, n, r, hl, e⟩ := I.lstM hH
  refine call_meets F.slot_list_append ⟨_, e, rfl⟩ F.entry_list_append (F.args_list_append_2 _ _) (PySem.list_append l its.toArray n u (by rw [List.size_toArray]; omega)) ⟨e, ?_⟩
  refine ⟨.non, _, I.lset (its' := its ++ [u]) hH e (by simp) (r.append (.cons ru .nil)) ?_, rfl, q⟩
  rw [List.length_append, List.length_singleton]
  omega






/-! ### list + list, list += list, list * int -/
def rCat : R2 := fun x y H Q => ∃ l b xs zs, x = .ref l ∧ y = .ref b ∧ H l = some (.lst xs) ∧ H b = some (.lst zs) ∧ xs.length + zs.length ≤ sizeLine ∧ ∀ p, H p = none → Q (.ref p) (upd H p (.lst (xs ++ zs)))
theorem op_cat : OpR X (binaryOp .Add) rCat := by
  intro pins s σ H x y v u Q I rx ry h
  obtain ⟨l, b, xs, zs, rfl, rfl, hH, hB, hz, q⟩ := h
  cases rx
  cases ry
  obtain ⟨z, its, n, r, hl, e⟩ := I.lstM hH
  obtain ⟨z2, its2, n2, r2, hl2, e2⟩ := I.lstM hB
  refine PySem.P.add_list e e2 ?_ (by rw [List.size_toArray, List.size_toArray]; omega)
  have ea : its.toArray ++ its2.toArray = (its ++ its2).toArray := by simp
  rw [ea]
  exact ⟨.ref _, _, I.lnew (t' := s.toks) (r.append r2) (by rw [List.length_append]; omega), rfl, q _ I.fresh⟩
/-- a list times an int (a negative one is nothing) -/
def rRep : R2 := fun x y H Q => ∃ l k xs, x = .ref l ∧ y = .int k ∧ H l = some (.lst xs) ∧ -(2 ^ 63) ≤ k ∧ k < 2 ^ 63 ∧ xs.length * k.toNat ≤ sizeLine ∧
  ∀ p, H p = none → Q (.ref p) (upd H p (.lst (List.replicate k.toNat xs).flatten))
theorem len_rep {α : Type} (xs : List α) (k : Nat) : (List.replicate k xs).flatten.length = k * xs.length := by
  induction k with
  | zero => simp
  | succ k ih => rw [List.replicate_succ, List.flatten_cons, List.length_append, ih, Nat.succ_mul, Nat.add_comm]
theorem op_rep : OpR X (binaryOp .Mult) rRep := by
  intro pins s σ H x y v u Q I rx ry h
  obtain ⟨l, k, xs, rfl, rfl, hH, h1, h2, hz, q⟩ := h
  cases rx
  obtain ⟨t, rfl⟩ := ry
  obtain ⟨z, its, n, r, hl, e⟩ := I.lstM hH
  have hlen : its.toArray.size * k.toNat ≤ sizeLine := by rw [List.size_toArray, ← hl]; exact hz
  have hcap : ¬ its.toArray.size * k.toNat > (2 ^ 63 - 1) / 8 := by
    have : (sizeLine : Nat) ≤ (2 ^ 63 - 1) / 8 := by decide
    omega
  have hfit : ¬ (!Builtin.List.listFitsIndex k) = true := by
    rw [fitsIndex_both h1 h2]
    exact Bool.false_ne_true
  have hlong : ¬ Builtin.List.listTooLong (its.toArray.size * k.toNat) = true := by
    rw [notLongL hlen]
    exact Bool.false_ne_true
  have hnew : List.foldl (fun x1 x2 => x1 ++ x2) #[] (List.replicate (if its.toArray.isEmpty = true then 0 else k.toNat) its.toArray) = (List.replicate k.toNat its).flatten.toArray := by
    have f0 : ∀ m : Nat, List.foldl (fun x1 x2 => x1 ++ x2) #[] (List.replicate m its.toArray) = (List.replicate m its).flatten.toArray := fun m => by
      have := foldl_rep its m []
      rw [List.nil_append] at this
      exact this
    rw [f0]
    cases its with
    | nil => simp
    | cons a r' => rw [if_neg (by simp)]
  refine wpAny_binaryOp_repeat_ref (T := "list") (U := "int") (by decide) ⟨_, e, rfl⟩ (fun s' => typeIs_int s' k t) noFill_list_mul F.fills_int_mul F.slot_int_rmul repeat_list F.slot_int_index.lookup
    (call_meets F.slot_int_rmul (typeIs_int s k t) F.entry_int_rmul (F.args_int_rmul_2 _ _) (int___rmul___int_list k t l its.toArray n)
      ⟨e, rfl, ⟨_, e, rfl⟩, call_meets F.slot_list_mul ⟨_, e, rfl⟩ F.entry_list_mul (F.args_list_mul_2 _ _) (AutoListH.list___mul___list_int_3 l its.toArray n k t hfit hcap hlong) ⟨e, ?_⟩⟩)
  rw [hnew]
  exact ⟨.ref _, _, I.lnew (t' := s.toks) (r.rep k.toNat) (by rw [len_rep, Nat.mul_comm]; exact hz), rfl, q _ I.fresh⟩

/-! ### del xs[i] -/
end

/-! ### xs[a:b] = ys -/
section
variable {prog : Program} {w : World} {A : Around} {E : Value → Shared → Prop} {s : Shared}
end

section
variable {X : Cx}
end
end L2

namespace Att
open PySem PySem.W PySem.Calls PyProof.Rows

/-! ### the script -/
theorem ints_of_wellAll {P : Params} {h : Heap} : ∀ (ns : List Int) (vs : List Value), WellAll P h vs (ns.map WData.int) → IntsAre vs ns := by
  intro ns
  induction ns with
  | nil =>
    intro vs w
    rw [List.map_nil] at w
    cases w
    exact .nil
  | cons n ns ih =>
    intro vs w
    rw [List.map_cons] at w
    cases w with
    | cons a b =>
      cases a
      exact .cons _ _ (ih _ b)

theorem script_of {l : OpenLaw} {n : Nat} (hn : l.most = some n) {P : Params} {h : Heap} {args : List WData} {vals : List Value}
    (hpre : l.row.toRowW.claim.pre args = true) (hwl : WellAll P h vals args) :
    ∃ a vs ns, vals = [Value.ref a] ∧ args = [WData.list (ns.map WData.int)] ∧ h.get? a = some { cls := .type "list", data := .seq vs.toArray } ∧ IntsAre vs ns ∧ ns.length ≤ n := by
  have hsh : WShape.hasAll [] args [.list .int] = true := (pre_splitW hpre).1
  have hc : l.pre.holds [] { args := args } = true := (pre_splitW hpre).2
  obtain ⟨d, r, rfl, h1, h2⟩ := hasAllW_cons hsh
  obtain rfl := hasAllW_nil h2
  obtain ⟨xs, rfl, h3⟩ := hasW_list h1
  obtain ⟨ns, rfl⟩ := items_int h3
  have hlen : ns.length ≤ n := by
    unfold OpenLaw.pre at hc
    have h4 : (WTm.not (.lt (.lit (.int (n : Int))) (.len (.arg 0)))).holds [] { args := [.list (ns.map .int)] } = true := by
      have h4 := (holds_andW hc).1
      rw [hn] at h4
      exact h4
    have h5 := condW_of h4 (w_not (w_lt w_lit (w_len_list (w_arg rfl))))
    rw [List.length_map] at h5
    refine Nat.le_of_not_lt fun q => ?_
    have q' : (n : Int) < ((ns.length : Nat) : Int) := by omega
    first
      | (rw [decide_eq_true q'] at h5; exact absurd h5 (by decide))
      | (simp at h5; omega)
  cases hwl with
  | cons w1 w2 =>
    cases w2
    cases w1 with
    | list ho hall => exact ⟨_, _, ns, rfl, rfl, ho, ints_of_wellAll ns _ hall, hlen⟩

theorem post_true (l : OpenLaw) (args : List WData) : l.row.toRowW.claim.post args (.bool true) args = true :=
  postW_of (r := l.row.toRowW) (X := (true == true))
    (show WShape.has [] (.bool true) .bool = true by first | rfl | decide | simp [WShape.has, WShape.arms, WShape.armsAll])
    (show (WTm.eq .res (.lit (.bool true))).value [] { args := args, res := some (.bool true), after := args } = some (.bool (true == true)) from w_eq_bool (w_res rfl) w_lit) rfl

/-! ### the attachment: holds_open's last premise (the goal 'hc' behind k_head) from a wpAny of the law's body -/

/-- the same from a codeAny of the CALL (for a layer whose function contracts speak of calls) -/
theorem attach_call {l : OpenLaw} {n : Nat} {q : Program} {loose : List Str} {XP : (Str → Option Value) → Heap → Prop} {YP : World → Heap → Prop} {d : DefRec}
    (hn : l.most = some n) (hdf : d.params.defaults = [])
    (call : ∀ (w : World) (s₀ s₁ : Shared) (mg mb : Str → Option Value) (fa : Addr) (o : Obj) (pm cd doc : Value) (a : Addr) (vs : List Value) (ns : List Int),
      Ground q loose [] XP w s₀ mg mb s₁.heap → YP w s₁.heap →
      s₁.heap.get? fa = some o → o.data = .func (docDef d.name d.params d.body d.scope pm cd doc) → s₁.heap.CodeRec cd d.name → mg d.name = some (.ref fa) →
      s₁.heap.get? a = some { cls := .type "list", data := .seq vs.toArray } → IntsAre vs ns → ns.length ≤ n → s₁.gens = #[] →
      codeAny (model l.prog w) callerA (.call (.ref fa) ⟨[.ref a], []⟩) (fun r s' => r = .ok (.ret (.bool true)) ∧ OldK s₁.heap s'.heap ∧ s'.os = s₁.os ∧ AllBare s'.gens) s₁) :
    WalkO q loose XP YP l.row.toRowW d [] (fun f vs => PySem.call f vs) := by
  intro w s₀ s₁ mg mb G Y fa o pm cd doc dV kV ho hd hcd hD hmg hg args vals as hpre hlay hrd hwl hlo
  obtain rfl : dV = .none := Dflts.none hD hdf
  obtain rfl : kV = .none := Dflts.noKw hD
  obtain ⟨a, vs, ns, rfl, rfl, hobj, hints, hlen⟩ := script_of hn hpre hwl
  refine enter_call (codeAny_mono (call w s₀ s₁ mg mb fa o pm cd doc a vs ns G Y ho (fd_plain hd) hcd hmg hobj hints hlen hg) fun r s' hq => ?_)
  obtain ⟨rfl, h2, h3, h4⟩ := hq
  exact ⟨.inl ⟨.bool true, .bool true, [], rfl, fun _ => rfl, .bool true, post_true l _, fun _ => ⟨List.Pairwise.nil, fun _ hm => (nomatch hm)⟩⟩, h2, h3, h4⟩


/-! ### rules over ANY heap (no ledger) from facts about the written part K: the library's own take a ledger (News) for what they write -/
section
variable {prog : Program} {w : World} {A : Around} {E : Value → Shared → Prop} {s : Shared} {K : Frag}





/-! the whole heap as the ledger: makes every rule that writes through a ledger a rule over any heap -/
def ledger (h : Heap) (L d : Addr) : List (Addr × Obj) := (List.range h.objs.size).filterMap fun a => if a = L ∨ a = d then none else (h.get? a).map fun o => (a, o)

end
end Att

namespace L2
open PySem PySem.Spec PyProof.Rows

theorem vals_ints : ∀ {vs : List Value} {ns : List Int}, IntsAre vs ns → Vals (ns.map V.int) vs
  | _, _, .nil => .nil
  | _, _, .cons n t h => .cons ⟨t, rfl⟩ (vals_ints h)

/-- nothing is tracked but the script, known to the object (or it is an object of the module) -/
def Only (H : Hp) : Prop := ∀ b, H b = none ∨ ∃ o xs, H b = some (.frz o (.lst xs))

/-- THE HEAD: the law's promise, at the heap behind the top. F, the promise of the law's def, may use that base is part of the heap (so K.In base, base.Ns mainGlobals mg stand in Mod) -/
theorem law_call {P : Program} {w : World} {K : PySem.W.Frag} {mg mb : Str → Option Value} {CX : CXT} {k : Nat} {fa a : Addr} {fd : FuncData} {x : Str} {sp : Sp} {s₁ : Shared} {vs : List Value} {ns : List Int}
    (KX : K.In s₁.heap) (hns : s₁.heap.Ns mainGlobals mg) (hb : s₁.heap.Ns builtinsNs mb) (hbb : ∀ x : Str, x ≠ "__name__" → mb x = bootBuiltins x) (hlim : s₁.heap.NoLimit) (hg : s₁.gens = #[])
    (ha : s₁.heap.get? a = some { cls := .type "list", data := .seq vs.toArray }) (hi : IntsAre vs ns) (hl : ns.length ≤ sizeLine) (hr : Room k callerA)
    (F : ∀ base : Heap, K.In base → base.Ns mainGlobals mg → FnOk P w K mg base CX k fa fd [x] sp) (hbind : ∀ (s : Shared) (u : Value), BindsTo s fd ⟨[u], []⟩ [(x, u)])
    (hsp : ∀ H : Hp, Only H → SqL K H a (ns.map V.int) → sp [.ref a] H (fun v _ => v = .bl true) fun _ _ _ => False)
    (hCX : ∀ H e s', CX [] H s₁ (fun _ _ _ => False) e s' → False) :
    codeAny (model P w) callerA (.call (.ref fa) ⟨[.ref a], []⟩) (fun r s' => r = .ok (.ret (.bool true)) ∧ OldK s₁.heap s'.heap ∧ s'.os = s₁.os ∧ AllBare s'.gens) s₁ := by
  have rv := vals_ints hi
  have lenV := hi.length
  -- from an abstract heap in which nothing but the script may be tracked
  have core : ∀ H : Hp, Only H → SqL K H a (ns.map V.int) → HOk P w H s₁.heap → (∀ b, H b ≠ none → b = a) → (H a ≠ none → K.lookup a = none) →
      codeAny (model P w) callerA (.call (.ref fa) ⟨[.ref a], []⟩) (fun r s' => r = .ok (.ret (.bool true)) ∧ OldK s₁.heap s'.heap ∧ s'.os = s₁.os ∧ AllBare s'.gens) s₁ := by
    intro H hO hS hok hA hK
    have base_of : ∀ {b : Addr} {o : Obj}, s₁.heap.get? b = some o → H b = none → (hidT s₁.heap H).get? b = some o := fun e n => hidT_get e n
    have noA : ∀ {b : Addr} {o : Obj} {es : Array DictEntry} {ep : Nat}, s₁.heap.get? b = some o → o.data = .dict es ep → H b = none := fun {b o es ep} e d => by
      cases q : H b with
      | none => rfl
      | some u =>
        have e' : b = a := hA b (by rw [q]; simp)
        subst e'
        rw [ha] at e; cases e
        have d' : Data.seq vs.toArray _ = Data.dict es ep := d
        cases d'
    have nsK : ∀ {b : Addr} {m : Str → Option Value}, s₁.heap.Ns b m → (hidT s₁.heap H).Ns b m := fun {b m} ⟨o, es, ep, e, d, r⟩ => ⟨o, es, ep, base_of e (noA e d), d, r⟩
    have hKb : K.In (hidT s₁.heap H) := fun b o e => base_of (KX b o e) (by
      cases q : H b with
      | none => rfl
      | some u =>
        have e' : b = a := hA b (by rw [q]; simp)
        subst e'
        rw [hK (by rw [q]; simp)] at e; cases e)
    have hM : Mod K mg (hidT s₁.heap H) := ⟨hKb, nsK hns, ⟨mb, nsK hb, hbb⟩, let ⟨mc, h1, h2⟩ := hlim; ⟨mc, nsK h1, h2⟩⟩
    have e0 : Env0 P w K mg (hidT s₁.heap H) callerA [] s₁ H := ⟨rfl, hM, fun b o e => of_hidT e, Nat.le_of_eq (hidT_size _ _), trivial, fun b hb => absurd (show b ∈ ([] : List Addr) from hb) (by simp), hok, .of_eq hg⟩
    refine codeAny_mono ((F _ hKb (nsK hns)).run callerA [] s₁ H ⟨[.ref a], []⟩ [.ref a] [.ref a] _ _ hr e0 (hbind s₁ (.ref a)) (.cons rfl .nil) (hsp H hO hS)) fun r s' h => ?_
    cases r with
    | error e => exact (hCX H e s' h).elim
    | ok fl =>
      cases fl with
      | next => exact False.elim h
      | brk => exact False.elim h
      | cont => exact False.elim h
      | ret u =>
        obtain ⟨v, H', os, bare, un, hok', r', q⟩ := h
        have q' : v = .bl true := q
        subst q'
        obtain rfl : u = Value.bool true := r'
        refine ⟨rfl, OldK.of_keep fun b o e => ?_, os, bare⟩
        cases q : H b with
        | none => exact un.keep b o e q (by intro z; exact absurd (show b ∈ ([] : List Addr) from z) (by simp)) (by simp)
        | some u =>
          rcases hO b with z | ⟨ob, xs, z⟩
          · rw [q] at z; cases z
          · have z2 := un.frzs b ob _ z
            obtain ⟨e1, _⟩ := hok b _ z
            obtain ⟨e2, _⟩ := hok' b _ z2
            rw [e] at e1; cases e1
            exact e2
  cases hk : K.lookup a with
  | some o =>
    -- the script is one of the module's own objects
    have e := KX a o hk
    rw [ha] at e
    cases e
    refine core (fun _ => none) (fun _ => .inl rfl) (.inr ⟨_, vs.toArray, _, hk, rfl, rfl, rfl, by rw [List.size_toArray, lenV]; exact hl, by simpa using rv⟩) (fun b u z => by have z' : (none : Option HO) = some u := z; cases z') (fun b z => absurd rfl z) fun z => absurd rfl z
  | none =>
    refine core (fun b => if b = a then some (.frz { cls := .type "list", data := .seq vs.toArray } (.lst (ns.map V.int))) else none) (fun b => ?_) (.inl (.inr ⟨{ cls := .type "list", data := .seq vs.toArray }, if_pos rfl⟩)) (fun b u z => ?_) (fun b z => ?_) fun _ => hk
    · by_cases hb : b = a
      · exact .inr ⟨_, _, if_pos hb⟩
      · exact .inl (if_neg hb)
    · by_cases hb : b = a
      · have z' := (if_pos hb).symm.trans z
        cases z'
        subst hb
        exact ⟨ha, by rw [List.length_map]; exact hl, vs, _, rv, ha⟩
      · have z' := (if_neg hb).symm.trans z
        cases z'
    · by_cases hb : b = a
      · exact hb
      · exact absurd (if_neg hb) z
end L2

namespace L2
open PySem PySem.Spec PyProof.Rows

abbrev KOf {K : PySem.W.Frag} {h : Heap} (_ : K.In h) : PySem.W.Frag := K

/-- the goal that k_head leaves (case hc), from the law's promise. F gives the function object fd (K's own) once, then the promise over every base -/
theorem walk_of {l : PySem.W.OpenLaw} {n k : Nat} {q : Program} {loose : List Str} {XP : (Str → Option Value) → Heap → Prop} {YP : World → Heap → Prop} {d : DefRec} {K : Params → PySem.W.Frag} {CX : World → CXT} {sp : World → Sp} {x : Str}
    (hn : l.most = some n) (hn2 : n ≤ sizeLine) (hdf : d.params.defaults = []) (hr : Room k callerA)
    (hY : ∀ (w : World) (h : Heap), YP w h → (K w.params).In h)
    (F : ∀ (w : World) (mg : Str → Option Value) (fa : Addr) (h : Heap), (K w.params).In h → h.Ns mainGlobals mg → mg d.name = some (.ref fa) →
      ∃ fd : FuncData, (∀ (s : Shared) (u : Value), BindsTo s fd ⟨[u], []⟩ [(x, u)]) ∧
        ∀ base : Heap, (K w.params).In base → base.Ns mainGlobals mg → FnOk l.prog w (K w.params) mg base (CX w) k fa fd [x] (sp w))
    (hsp : ∀ (w : World) (H : Hp) (a : Addr) (ns : List Int), ns.length ≤ n → Only H → SqL (K w.params) H a (ns.map V.int) → sp w [.ref a] H (fun v _ => v = .bl true) fun _ _ _ => False)
    (hCX : ∀ (w : World) (H : Hp) (s : Shared) (e : Value) (s' : Shared), CX w [] H s (fun _ _ _ => False) e s' → False) :
    PySem.W.WalkO q loose XP YP l.row.toRowW d [] (fun f vs => PySem.call f vs) := by
  refine Att.attach_call hn hdf fun w s₀ s₁ mg mb fa o pm cd doc a vs ns G Y ho hd hcd hmg hobj hints hlen hg => ?_
  have KX := hY w _ Y
  obtain ⟨fd, hb, hF⟩ := F w mg fa _ KX G.T.g hmg
  exact law_call KX G.T.g G.T.b G.T.builtins G.T.nolimit hg hobj hints (Nat.le_trans hlen hn2) hr hF hb (fun H hO hS => hsp w H a ns hlen hO hS) fun H e s' => hCX w H s₁ e s'
end L2

/- THE LAST THEOREM (shape; LID, My.* are yours):
   My.Adr: a structure of the addresses that your layer names (classes, functions); My.Txt K t: a structure (Prop) of the equations over K;
   My.txt_mk : {K} {implicit addresses ..} (e1 : nsIn K mainGlobals "law" = some (some (.ref f))) (e2 : K.lookup f = some ⟨oc, od, .func (fnOf "law" "law" params body scope dV kV doc pm an cdv ct), sl⟩) (e3 : codeIn K cdv "law" = true) .. : ∃ t, My.Txt K t

set_option maxRecDepth 100000 in
set_option maxHeartbeats 0 in
theorem PySem.Challenge.cw_LID_holds : PySem.Challenge.rw_LID.Holds := by
  w_on; o_law; k_head; (case hw => w_witness2)
  k_fill
  refine L2.walk_of (l := PySem.Challenge.rw_LID) (n := 63) (k := 40) (x := "script") (CX := fun w => ..) (sp := fun _ => My.sp_law) rfl (by decide) rfl ⟨rfl, by decide, by decide⟩ (fun w h Y => PySem.W.kIn_of Y) ?F ?S ?C
  case F =>
    intro w mg fa h KX G hmg
    have T : ∃ t, My.Txt (L2.KOf KX) t := by
      dsimp only [L2.KOf]                          -- K must stand as «<heap const> w.params» for k_is
      refine' My.txt_mk ?e1 ?e2 ?e3 ..
      (case e1 => PySem.W.k_is)                    -- in the order: a name -> its address -> its object -> its parts
      (case e2 => PySem.W.k_is)
      ..
    obtain ⟨t, T⟩ := T
    have e0 := hmg.symm.trans (PySem.W.mg_of KX G T.law)
    cases e0                                       -- fa is the law's own address
    exact ⟨_, fun s u => .of_eq rfl, fun base kb nb => My.law_fn T kb nb⟩     -- if «.of_eq rfl» comes too early: refine' ⟨_, ?b, fun base kb nb => My.law_fn T kb nb⟩; exact fun s u => .of_eq rfl
  case S => exact fun w H a ns hl hO hS => ..
  case C => exact ..
(the tactic k_is has no namespace: write k_is) -/

/-! SHORT WORDS over the layer: a def of the text, its body, what a loop and a test want. -/
namespace L2
open PySem PySem.Spec PyProof.Rows

/-! ### the text by places -/
/-- the j-th statement of a class's body -/
def inClass (s : Stmt) (j : Nat) : Stmt := match s with
  | .ClassDef _ _ _ body _ _ _ _ _ _ _ => body.getD j (.Pass ⟨0, 0, 0, 0⟩)
  | _ => .Pass ⟨0, 0, 0, 0⟩
def defArgs (s : Stmt) : Arguments := match s with
  | .FunctionDef _ a _ _ _ _ _ _ _ _ => a
  | _ => { posonlyargs := [], args := [], vararg := none, kwonlyargs := [], kw_defaults := [], kwarg := none, defaults := [] }
def defBody (s : Stmt) : List Stmt := match s with
  | .FunctionDef _ _ b _ _ _ _ _ _ _ => b
  | _ => []
def defScope (s : Stmt) : Scope := match s with
  | .FunctionDef _ _ _ _ _ _ sc _ _ _ => sc
  | _ => { kind := .function, names := [], isGenerator := false, isCoroutine := false }

/-! ### no exception leaves a def -/
abbrev CX0 : CXT := fun _ _ _ _ _ _ => False
abbrev E0 : XK := fun _ _ _ => False
theorem pass0 {X : Cx} : Passes CX0 X E0 := fun _ _ _ _ _ _ _ h => h.elim

/-! ### a def (or method) of the text as it stands behind the top -/
structure Fun (K : PySem.W.Frag) (x qual : Str) (st : Stmt) (f : Addr) (fd : FuncData) : Prop where
  ex : ∃ (oc : Value) (od : Option Addr) (kV doc pm : Value) (an : Option Addr) (cdv ct : Value) (osl : Array (Option Value)),
    fd = PySem.W.fnOf x qual (defArgs st) (defBody st) (defScope st) .none kV doc pm an cdv ct ∧ K.lookup f = some ⟨oc, od, .func fd, osl⟩ ∧ PySem.W.codeIn K cdv qual = true
  kp : PySem.W.keepIn K (.ref f) = true
section
variable {P : Program} {w : World} {K : PySem.W.Frag} {mg : Str → Option Value} {base : Heap}
/-- THE RULE for a def: its body as a term of rules, and the reading of that term -/
theorem Fun.ok {x qual : Str} {st : Stmt} {f : Addr} {fd : FuncData} {N ps : List Str} {k : Nat} {sp : Sp} (F : Fun K x qual st f fd) (S : FnScope N ps (defScope st)) (len : ∀ vs H Q E, sp vs H Q E → vs.length = ps.length)
    (hbody : ∀ (cdv : Value) (A : Around) (outer : List Env) (s : Shared) (H : Hp) (vs : List V) (Q : VK) (E : XK), Room k (A.deeper (envOfC qual (defScope st) s.heap.objs.size f cdv)) → sp vs H Q E →
      ∃ t, PSs (cxOf CX0 P w K mg base N qual (defScope st) f cdv A outer s H E).nox (defBody st) t ∧ t { nx := fun _ H' => Q .non H', rt := Q } (start N vs) H) : FnOk P w K mg base CX0 (k + 1) f fd ps sp := by
  obtain ⟨oc, od, kV, doc, pm, an, cdv, ct, osl, rfl, lk, hcd⟩ := F.ex
  refine fn_of lk hcd S len fun A outer s H vs Q E hr hsp => ?_
  obtain ⟨t, h, q⟩ := hbody cdv A outer s H vs Q E hr hsp
  exact ⟨t, h.nox, q⟩
/-- how its arguments bind (no defaults): h is «fun _ _ _ _ _ _ us hl => match us, hl with | [_, _], _ => rfl», one _ a parameter -/
theorem Fun.binds {x qual : Str} {st : Stmt} {f : Addr} {fd : FuncData} {ps : List Str} (F : Fun K x qual st f fd)
    (h : ∀ (kV doc pm : Value) (an : Option Addr) (cdv ct : Value) (us : List Value), us.length = ps.length → bindArgs (PySem.W.fnOf x qual (defArgs st) (defBody st) (defScope st) .none kV doc pm an cdv ct) ⟨us, []⟩ = pure (ps.zip us)) : Binds K fd ps [] := by
  obtain ⟨oc, od, kV, doc, pm, an, cdv, ct, osl, rfl, lk, hcd⟩ := F.ex
  exact .all (h kV doc pm an cdv ct)
theorem fun_mk {x qual : Str} {st : Stmt} {f : Addr} {oc : Value} {od an : Option Addr} {osl : Array (Option Value)} {kV doc pm cdv ct : Value} (l : K.lookup f = some ⟨oc, od, .func (PySem.W.fnOf x qual (defArgs st) (defBody st) (defScope st) .none kV doc pm an cdv ct), osl⟩)
    (c : PySem.W.codeIn K cdv qual = true) (k : PySem.W.keepIn K (.ref f) = true) : Fun K x qual st f (PySem.W.fnOf x qual (defArgs st) (defBody st) (defScope st) .none kV doc pm an cdv ct) := ⟨⟨oc, od, kV, doc, pm, an, cdv, ct, osl, rfl, l, c⟩, k⟩
end
theorem hu_of {A : Around} {k : Nat} (hr : Room k A) : A.units + 1 < cLine := Nat.lt_of_le_of_lt (Nat.add_le_add_left (by decide : 1 ≤ 64) _) hr.units
theorem small1000 {n : Nat} (h : n ≤ 1000) : n < sizeLine := Nat.lt_of_le_of_lt h (by decide)

/-! ### expressions in short: the name that stands in the i-th slot -/
section
variable {X : Cx}
theorem pv (i : Nat) {x : Str} {pos : Pos} (hN : X.N[i]? = some x := by rfl) (hv : Vis X.env.scope x := by first | exact Or.inl rfl | exact Or.inr (Or.inl rfl) | exact Or.inr (Or.inr rfl)) (hd : (x == ("__debug__" : Str)) = false := by decide)
    (hcd : (x == ("__classdict__" : Str)) = false := by decide) : PE X (.Name x pos) (tVar i) := pe_var hN hv hd hcd
end

/-! ### tests -/
theorem iteF {A B : Prop} (h : B) : if false = true then A else B := by
  rw [if_neg Bool.false_ne_true]
  exact h
theorem iteT {A B : Prop} (h : A) : if true = true then A else B := by
  rw [if_pos rfl]
  exact h
theorem ite2 {c A B : Prop} [Decidable c] (h1 : c → A) (h2 : ¬ c → B) : if c then A else B := by
  by_cases h : c
  · rw [if_pos h]
    exact h1 h
  · rw [if_neg h]
    exact h2 h

/-! ### heaps -/
/-- all that was tracked is as it was -/
def Same (H H' : Hp) : Prop := ∀ b o, H b = some o → H' b = some o
theorem Same.refl (H : Hp) : Same H H := fun _ _ h => h
theorem Same.trans {H H1 H2 : Hp} (a : Same H H1) (b : Same H1 H2) : Same H H2 := fun c o h => b c o (a c o h)
theorem Same.free {H H' : Hp} (e : Same H H') {l : Addr} (h : H' l = Option.none) : H l = Option.none := by
  cases q : H l with
  | none => rfl
  | some o =>
    rw [e l o q] at h
    cases h
theorem Same.seq {K : PySem.W.Frag} {H H' : Hp} {a : Addr} {xs : List V} (e : Same H H') (h : SqL K H a xs) : SqL K H' a xs := by
  rcases h with (h | ⟨o, h⟩) | h
  · exact .inl (.inl (e _ _ h))
  · exact .inl (.inr ⟨o, e _ _ h⟩)
  · exact .inr h

end L2

set_option maxHeartbeats 4000000
/-! ### raise C(..), C an own class of errors -/
namespace L2
open PySem PySem.Spec PyProof.Rows
/-- what a fragment tells of an own class of errors -/
theorem exc_obj {K : PySem.W.Frag} {h : Heap} {C : Addr} {bmB : List Value} {newId : String} (X : K.In h) (q : PySem.W.excIn K C bmB newId = true) :
    ∃ (bm : List Value) (N : Addr) (nm qn : Str) (bs : List Value) (hd : Bool) (sn : List Str) (sub : List Value) (ab : Bool) (col : Option Bool) (dd : Option Addr) (k0 k1 k2 k3 k5 : Option Value) (mN : Str → Option Value),
      h.get? C = some (excClassObj nm qn C N bs bm hd sn sub ab col dd k0 k1 k2 k3 k5 newId) ∧ h.Ns N mN ∧ mN "__init__" = none ∧ OwnTail h bmB bm := by
  unfold PySem.W.excIn at q
  split at q
  · rename_i dd cd sl lk
    split at q
    · rename_i D bm k0 k1 k2 k3 n k5 em es
      simp only [Bool.and_eq_true, beq_iff_eq, Bool.not_eq_true'] at q
      obtain ⟨⟨⟨⟨⟨e1, e2⟩, e3⟩, e4⟩, e5⟩, e6⟩ := q
      subst e1 e2
      obtain ⟨nm, bs, mro, ns, qn, hd, sn, sub, ab, col, del⟩ := cd
      dsimp only at em e3 e5 e6
      subst em e3
      have e7 : sl = #[k0, k1, k2, k3, some (.builtin n), k5] := by
        cases sl with
        | mk l => exact congrArg Array.mk es
      subst e7
      exact ⟨bm, ns, nm, qn, bs, hd, sn, sub, ab, col, dd, k0, k1, k2, k3, k5, h.nsMap ns, X _ _ lk, .of_isNs (PySem.W.isNs_of_in X e5), PySem.W.nsMap_none_of_in X e5 e6, PySem.W.tail_of_in X e4⟩
    · cases q
  · cases q
/-- an error raised here reaches what this body wants of exceptions -/
def RaisesX (X : Cx) (C : Addr) (Wi : Hp → Prop) : Prop :=
  ∀ (pins : List (Addr × Obj)) (σ : St) (H : Hp) (s : Shared) (e : Addr) (h' : Heap) (vs : List Value), Inv X pins σ H s → Wi H → Heap.MadeExcOf s.heap h' e (.ref C) vs → X.xe (.ref e) { s with heap := h' }
def tRaise (Wi : Hp → Prop) (t : TA) : TS := fun _ σ H => t σ H fun vs H1 => vs.length ≤ sizeLine ∧ Wi H1
section
variable {X : Cx} {C : Addr} {Wi : Hp → Prop} {B Bn newId nid initId inN : String} {bmB bmN : List Value}
theorem ps_raise {x : Str} {e : Expr} {es : List Expr} {t : TA} {np cpos pos : Pos} (hc : X.calm = true) (hg : Gl X x) (hm : X.mg x = some (.ref C)) (q : PySem.W.excIn X.K C bmB newId = true)
    (Fn : ExcBaseFacts Bn newId inN bmN) (hBn : bmB.contains (.type Bn) = true) (FB : ExcBaseFacts B nid initId bmB) (hx : RaisesX X C Wi) (ha : PA X (e :: es) t) (hdb : (x == ("__debug__" : Str)) = false := by decide)
    (he : starEach (e :: es) X.env = (false, eval e X.env) :: starEach es X.env := by rfl) (hpl : (backTo cpos (starEach es X.env)).any (·.1) = false := by rfl) :
    PS X (.Raise (some (.Call (.Name x np) (e :: es) [] cpos)) none pos) (tRaise Wi t) := by
  intro pins s σ H D I h
  obtain ⟨bm, N, nm, qn, bs, hd, sn, sub, ab, col, dd, k0, k1, k2, k3, k5, mN, hC, hN, hni, T⟩ := exc_obj I.mod.kin q
  have hp : (backTo cpos (starEach (e :: es) X.env)).any (·.1) = false := by
    rw [he]
    show (false || (backTo cpos (starEach es X.env)).any (·.1)) = false
    rw [hpl]; rfl
  refine wpAny_Raise_call_subU (C := C) (nm := nm) (q := qn) (N := N) (bs := bs) (bm := bm) (hdct := hd) (sn := sn) (sub := sub) (ab := ab) (col := col) (dd := dd) (k0 := k0) (k1 := k1) (k2 := k2) (k3 := k3) (k5 := k5)
    Fn hBn FB (mN := mN) (T.hasType FB.hasBase) (I.ok.hd hc) hp hni (ld_glob I hg hm ⟨rfl, ?_⟩ hdb)
  have ha' := ha cpos pins s σ H _ I h
  rw [he] at ha' ⊢
  refine Calls.evalArgs_plain (wpAny_mono ha' (fun us s2 z => ?_) fun _ _ y => y)
  obtain ⟨vs, H1, I1, r1, hl, hw⟩ := z
  exact ⟨rfl, by rw [← r1.length]; exact hl, I1.bk _ _ hC, hN.keeps I1.bk, T.keeps I1.bk, fun h' e' hm' => hx pins σ H1 s2 e' h' us I1 hw hm'⟩
end
end L2

/-! ### the stations of an error whose context is none: the context stays none -/
namespace L2
open PySem
/-- the error's record, with no context -/
def NoCtx (e : Addr) (h : Heap) : Prop := ∃ oe vs, h.get? e = some oe ∧ oe.dict = none ∧ oe.data = .fields vs ∧ vs[2]? = some Value.none
theorem dict_map (f : Array Value → Array Value) (o : Obj) : (Obj.mapFields f o).dict = o.dict := by
  unfold Obj.mapFields
  split <;> rfl
/-- what stays on the way -/
structure Trk (base : Heap) (l : List Env) (e : Addr) (cls a0 : Value) (h0 h : Heap) : Prop where
  st : base.StaysIn h
  fr : h.FunFrames base l
  up : h0.UpToSlots h
  nw : base.get? e = none
  rc : ∃ oe vs, h.get? e = some oe ∧ oe.cls = cls ∧ oe.dict = none ∧ oe.data = .fields vs ∧ vs[0]? = some a0 ∧ vs[2]? = some Value.none
/-- the newest entry of its trace -/
def Tb (base : Heap) (e : Addr) (fl : Value) (h : Heap) : Prop :=
  ∃ oe vs T oT ts, h.get? e = some oe ∧ oe.data = .fields vs ∧ vs[1]? = some (Value.ref T) ∧ base.get? T = none ∧ T ≠ e ∧ h.get? T = some oT ∧ oT.data = .fields ts ∧ ts[3]? = some fl
section
variable {base : Heap} {l : List Env} {e : Addr} {cls a0 : Value} {h0 h h' : Heap}
theorem Trk.step (T : Trk base l e cls a0 h0 h) (hb : ∀ b o, base.get? b = some o → h.get? b = some o → h'.get? b = some o) (up : h.UpToSlots h')
    (re : ∃ oe vs, h'.get? e = some oe ∧ oe.cls = cls ∧ oe.dict = none ∧ oe.data = .fields vs ∧ vs[0]? = some a0 ∧ vs[2]? = some Value.none) : Trk base l e cls a0 h0 h' :=
  ⟨fun b o q => hb b o q (T.st b o q), T.fr.of_keeps fun b o q n => let ⟨_, z⟩ := up b o q n; ⟨_, z, rfl⟩, T.up.trans up, T.nw, re⟩
theorem Trk.slots (T : Trk base l e cls a0 h0 h) (hs : Heap.SlotsOnly (l.filterMap (·.frame)) h h') : Trk base l e cls a0 h0 h' := by
  obtain ⟨oe, vs, r1, r2, r0, r3, r4⟩ := T.rc
  refine T.step (fun b o q z => ?_) (fun b o q _ => hs.2.2 b o q) ⟨oe, vs, ?_, r2, r0, r3, r4⟩
  · rw [hs.2.1 b fun m => by rw [(T.fr.mem m).1] at q; cases q]; exact z
  · rw [hs.2.1 e fun m => ?_]; exact r1
    obtain ⟨_, o, z, nd⟩ := T.fr.mem m
    rw [r1] at z; cases z; exact nd vs r3
theorem Trk.push (T : Trk base l e cls a0 h0 h) (o : Obj) : Trk base l e cls a0 h0 (h.push o) := by
  obtain ⟨oe, vs, r1, r2⟩ := T.rc
  exact T.step (fun b o q z => Heap.get?_push_of_some _ z) (.of_keeps fun b o q => Heap.get?_push_of_some _ q) ⟨oe, vs, Heap.get?_push_of_some _ r1, r2⟩
theorem Trk.setE (T : Trk base l e cls a0 h0 h) (x : Value) : Trk base l e cls a0 h0 (h.update e (Obj.mapFields (·.setIfInBounds 1 x))) := by
  obtain ⟨oe, vs, r1, r2, r0, r3, r4, r5⟩ := T.rc
  have ot : ∀ b, b ≠ e → (h.update e (Obj.mapFields (·.setIfInBounds 1 x))).get? b = h.get? b := fun b n => Heap.get?_update_other _ _ (Ne.symm n)
  have d := Obj.data_mapFields r3 (·.setIfInBounds 1 x)
  refine T.step (fun b o q z => (ot b fun n => by rw [n, T.nw] at q; cases q).trans z) (fun b o q n => ⟨o.slots, (ot b fun z => ?_).trans q⟩) ⟨_, _, Heap.get?_update_self _ r1 (Obj.isFreed_of_fields d), (Obj.cls_mapFields _ _).trans r2, (dict_map _ _).trans r0, d, ?_, ?_⟩
  · rw [z, r1] at q; cases q; exact n vs r3
  · rw [Array.getElem?_setIfInBounds_ne (by decide)]; exact r4
  · rw [Array.getElem?_setIfInBounds_ne (by decide)]; exact r5
theorem Trk.setT {b : Addr} {ob : Obj} {ts : Array Value} (T : Trk base l e cls a0 h0 h) (hb : h.get? b = some ob) (hd : ob.data = .fields ts) (hn : base.get? b = none) (hne : b ≠ e) (x : Value) : Trk base l e cls a0 h0 (h.update b (Obj.mapFields (·.setIfInBounds 3 x))) := by
  obtain ⟨oe, vs, r1, r2⟩ := T.rc
  have ot : ∀ c, c ≠ b → (h.update b (Obj.mapFields (·.setIfInBounds 3 x))).get? c = h.get? c := fun c n => Heap.get?_update_other _ _ (Ne.symm n)
  refine T.step (fun c o q z => (ot c fun n => by rw [n, hn] at q; cases q).trans z) (fun c o q n => ⟨o.slots, (ot c fun z => ?_).trans q⟩) ⟨oe, vs, (ot e (Ne.symm hne)).trans r1, r2⟩
  rw [z, hb] at q; cases q; exact n ts hd
end
section
variable {M : Model} {A : Around} {E : Value → Shared → Prop} {s : Shared} {base : Heap} {env : Env} {outer : List Env} {L e : Addr} {cls a0 : Value} {h0 : Heap} {Q : Unit → Shared → Prop}
theorem entry_trk {head : Value} {had : Bool} (hfr : A.frames = some (env :: outer)) (hf : env.frame = some L) (T : Trk base (env :: outer) e cls a0 h0 s.heap)
    (k : ∀ h', Trk base (env :: outer) e cls a0 h0 h' → Tb base e (rawInt L) h' → Q () { s with heap := h' }) :
    wpAny M A (frameOf env >>= fun a => entryPlaceOf L had >>= fun pl => EntryCells.newEntry head a .none (rawInt L) .none pl >>= fun b => setField (.ref e) 1 b) Q E s := by
  refine wpAny_bind (wpAny_frameOf_fun hfr T.fr hf fun h1 s1 => ?_)
  have T1 := T.slots s1
  refine wpAny_bind (wpAny_entryPlaceOf fun pl hpl => wpAny_bind ?_)
  unfold EntryCells.newEntry newFields
  refine wpAny_newObj_type ?_ (hpl.sizeOk5 _ _ _ _ _)
  have T2 := T1.push { cls := .type "traceback", dict := none, data := .fields ([head, .ref L, .none, rawInt L, .none] ++ (if pl.isEmpty then List.replicate 6 Value.none else pl)).toArray }
  obtain ⟨oe, vs, r1, r2, r0, r3, r4, r5⟩ := T2.rc
  have z1 : 1 < vs.size := Nat.lt_trans (by decide) (Array.getElem?_eq_some_iff.mp r5).1
  refine wpAny_setField r1 r3 z1 (k _ (T2.setE _) ?_)
  have d := Obj.data_mapFields r3 (·.setIfInBounds 1 (Value.ref h1.objs.size))
  obtain ⟨oe', vs', r1', _⟩ := T1.rc
  have ne : h1.objs.size ≠ e := Nat.ne_of_gt (Heap.lt_size r1')
  refine ⟨_, _, h1.objs.size, _, _, Heap.get?_update_self _ r1 (Obj.isFreed_of_fields d), d, by simp [z1], T1.st.fresh, ne, (Heap.get?_update_other _ _ (Ne.symm ne)).trans (Heap.get?_push_size h1 rfl), rfl, ?_⟩
  first | (simp; done) | (rcases hpl with rfl | ⟨_, _, _, _, _, _, _, rfl⟩ <;> simp)
theorem note_first {oe : Obj} {vs : Array Value} (hfr : A.frames = some (env :: outer)) (hf : env.frame = some L) (T : Trk base (env :: outer) e cls a0 h0 s.heap) (h1 : s.heap.get? e = some oe) (h2 : oe.data = .fields vs) (h3 : vs[1]? = some Value.none)
    (k : ∀ h', Trk base (env :: outer) e cls a0 h0 h' → Tb base e (rawInt L) h' → Q () { s with heap := h' }) : wpAny M A (noteFrame (.ref e) env) Q E s := by
  unfold noteFrame
  simp only [hf]
  refine wpAny_bind (wpAny_field h1 h2 h3 ?_)
  rw [if_neg (by decide)]
  exact entry_trk hfr hf T k
theorem note_next (hfr : A.frames = some (env :: outer)) (hf : env.frame = some L) (T : Trk base (env :: outer) e cls a0 h0 s.heap) (B : Tb base e .none s.heap)
    (k : ∀ h', Trk base (env :: outer) e cls a0 h0 h' → Tb base e (rawInt L) h' → Q () { s with heap := h' }) : wpAny M A (noteFrame (.ref e) env) Q E s := by
  obtain ⟨oe, vs, t, ot, ts, h1, h2, h3, h4, h5, h6, h7, h8⟩ := B
  unfold noteFrame
  simp only [hf]
  refine wpAny_bind (wpAny_field h1 h2 h3 ?_)
  rw [if_pos (show (Value.ref t != Value.none) = true from by simp)]
  refine wpAny_bind (wpAny_field h6 h7 h8 ?_)
  rw [if_neg (show ¬ ((Value.none == rawInt L) = true) from by simp [rawInt])]
  refine wpAny_bind (wpAny_setField h6 h7 (Array.getElem?_eq_some_iff.mp h8).1 ?_)
  exact entry_trk (s := { s with heap := _ }) hfr hf (T.setT h6 h7 h4 h5 _) k
theorem flight_trk {l : List Env} {fl : Value} (T : Trk base l e cls a0 h0 s.heap) (B : Tb base e fl s.heap) (k : ∀ h', Trk base l e cls a0 h0 h' → Tb base e .none h' → Q () { s with heap := h' }) : wpAny M A (setFlight (.ref e) none) Q E s := by
  obtain ⟨oe, vs, t, ot, ts, h1, h2, h3, h4, h5, h6, h7, h8⟩ := B
  have z : 3 < ts.size := (Array.getElem?_eq_some_iff.mp h8).1
  have d := Obj.data_mapFields h7 (·.setIfInBounds 3 (Value.none))
  unfold setFlight
  refine wpAny_bind (wpAny_field h1 h2 h3 ?_)
  rw [if_pos (show (Value.ref t != Value.none) = true from by simp)]
  exact wpAny_setField h6 h7 z (k _ (T.setT h6 h7 h4 h5 _) ⟨oe, vs, t, _, _, (Heap.get?_update_other _ _ h5).trans h1, h2, h3, h4, h5, Heap.get?_update_self _ h6 (Obj.isFreed_of_fields d), d, by simp [z]⟩)
end
/-- an error on its way, with no context -/
def FlyX (base : Heap) (l : List Env) (e : Addr) (cls a0 : Value) (h : Heap) : Prop := Heap.FlyingW base l e cls a0 h ∧ NoCtx e h
section
variable {base h h0 : Heap} {l : List Env} {e : Addr} {cls a0 : Value}
theorem Trk.fly (T : Trk base l e cls a0 h0 h) (B : Tb base e .none h) : FlyX base l e cls a0 h := by
  obtain ⟨oe, vs, r1, r2, r0, r3, r4, r5⟩ := T.rc
  obtain ⟨oe', vs', t, ot, ts, h1, h2, h3, h4, h5, h6, h7, h8⟩ := B
  rw [r1] at h1; cases h1
  rw [r3] at h2; cases h2
  exact ⟨⟨T.st, T.nw, T.fr, oe, vs, t, ot, ts, r1, ⟨r2, r4⟩, r3, h3, h4, h5, h6, h7, h8⟩, oe, vs, r1, r0, r3, r5⟩
theorem FlyX.trk (F : FlyX base l e cls a0 h) : Trk base l e cls a0 h h ∧ Tb base e .none h := by
  obtain ⟨⟨f1, f2, f3, oe, vs, t, ot, ts, r1, ⟨r2, r4⟩, r3, h3, h4, h5, h6, h7, h8⟩, oe', vs', q1, q0, q2, q3⟩ := F
  rw [r1] at q1; cases q1
  rw [r3] at q2; cases q2
  exact ⟨⟨f1, f3, .refl _, f2, oe, vs, r1, r2, q0, r3, r4, q3⟩, oe, vs, t, ot, ts, r1, r3, h3, h4, h5, h6, h7, h8⟩
theorem Trk.out {env : Env} (T : Trk base (env :: l) e cls a0 h0 h) : Trk base l e cls a0 h0 h := ⟨T.st, T.fr.2.2, T.up, T.nw, T.rc⟩
end
section
variable {M : Model} {A : Around} {E : Value → Shared → Prop} {s : Shared} {base : Heap} {env : Env} {outer : List Env} {L e : Addr} {cls a0 : Value} {Q : Unit → Shared → Prop}
/-- it leaves the frame where it was made -/
theorem leaves_madeX {h : Heap} {args : List Value} (hfr : A.frames = some (env :: outer)) (hf : env.frame = some L) (hkb : base.StaysIn h) (hl : h.FunFrames base (env :: outer)) (hx : Heap.MadeExcOf h s.heap e cls args)
    (k : ∀ h' t, FlyX base outer e cls (.ref t) h' → s.heap.UpToSlots h' → Q () { s with heap := h' }) : wpAny M A (leaving env (.ref e)) Q E s := by
  obtain ⟨t, he, htn, ht⟩ := hx.there
  have fresh : base.get? e = none := by
    cases q : base.get? e with
    | none => rfl
    | some o => have z := hkb e o q; rw [hx.new] at z; cases z
  have T : Trk base (env :: outer) e cls (.ref t) s.heap s.heap := ⟨fun b o q => hx.keeps b o (hkb b o q), hl.of_keeps fun b o q _ => ⟨o, hx.keeps b o q, rfl⟩, .refl _, fresh, _, _, he, rfl, rfl, rfl, rfl, rfl⟩
  unfold leaving
  exact wpAny_bind (note_first hfr hf T he rfl rfl fun h1 T1 B1 => flight_trk (s := { s with heap := h1 }) T1 B1 fun h2 T2 B2 => k h2 t (T2.out.fly B2) T2.up)
/-- it is looked at where it is caught -/
theorem looks_onX (hfr : A.frames = some (env :: outer)) (hf : env.frame = some L) (F : FlyX base (env :: outer) e cls a0 s.heap) (k : ∀ h', FlyX base (env :: outer) e cls a0 h' → s.heap.UpToSlots h' → Q () { s with heap := h' }) :
    wpAny M A (noteFrame (.ref e) env) (fun _ s2 => wpAny M A (setFlight (.ref e) none) Q E s2) E s := by
  obtain ⟨T, B⟩ := F.trk
  exact note_next hfr hf T B fun h1 T1 B1 => flight_trk (s := { s with heap := h1 }) T1 B1 fun h2 T2 B2 => k h2 (T2.fly B2) T2.up
theorem lands_onX {l : List Env} (F : FlyX base l e cls a0 s.heap) (k : ∀ h', FlyX base l e cls a0 h' → s.heap.UpToSlots h' → Q () { s with heap := h' }) : wpAny M A (setFlight (.ref e) none) Q E s := by
  obtain ⟨T, B⟩ := F.trk
  exact flight_trk T B fun h2 T2 B2 => k h2 (T2.fly B2) T2.up
end
end L2

/-! ### an error that leaves a def -/
namespace L2
open PySem PySem.Spec PyProof.Rows
/-- an error of the class at C, at a, is on its way through the frames of outer; H, s: ahead of the call; H', s': now. All but the frames and the error's own records lies in B, and stays -/
structure Fly (P : Program) (w : World) (outer : List Env) (H : Hp) (s : Shared) (a C : Addr) (H' : Hp) (s' : Shared) : Prop where
  os : s'.os = s.os
  bare : AllBare s'.gens
  way : ∃ (B : Heap) (t : Addr), (∀ b o, s.heap.get? b = some o → H b = none → b ∉ frs outer → B.get? b = some o) ∧ (∀ b o, s.heap.get? b = some o → b ∉ frs outer → ∃ o', B.get? b = some o') ∧ HOk P w H' B ∧ FlyX B outer a (.ref C) (.ref t) s'.heap
  slot : ∀ b o, s.heap.get? b = some o → b ∈ frs outer → ∃ sl, s'.heap.get? b = some { o with slots := sl }
  free : ∀ b o, s.heap.get? b = some o → H b = none → H' b = none
  tups : ∀ b xs, H b = some (.tup xs) → H' b = some (.tup xs)
  frzs : ∀ b o u, H b = some (.frz o u) → H' b = some (.frz o u)
  tbls : ∀ b ps, H b = some (.tbl ps) → ∃ more, H' b = some (.tbl (ps ++ more))
/-- how an own error lies behind a call: the wish is asked of its class and of the abstract heap -/
def CXE (P : Program) (w : World) : CXT := fun outer H s E e s' => ∃ (a C : Addr) (H' : Hp), e = .ref a ∧ Fly P w outer H s a C H' s' ∧ E e (some C) H'
section
variable {P : Program} {w : World} {K : PySem.W.Frag} {mg : Str → Option Value} {base : Heap} {N : List Str} {qual : Str} {scope : Scope} {f : Addr} {cd : Value} {A : Around} {outer : List Env} {s : Shared} {H : Hp} {E : XK} {C : Addr}
theorem raises_cx : RaisesX (cxOf (CXE P w) P w K mg base N qual scope f cd A outer s H E) C (fun H' => ∀ e, E e (some C) H') := by
  intro pins σ H' s2 e h' vs I hw hm
  have hfs : (cxOf (CXE P w) P w K mg base N qual scope f cd A outer s H E).fs = frs outer := rfl
  have hst : frs (cxOf (CXE P w) P w K mg base N qual scope f cd A outer s H E).stack = s.heap.objs.size :: frs outer := rfl
  have hbase : Un (frs outer) [] H H' s.heap s2.heap := I.base
  have hfr := I.stkFree
  have hfl := I.stack
  -- all but the frames
  have notin : ∀ b o, s.heap.get? b = some o → b ∉ frs outer → b ∉ frs (cxOf (CXE P w) P w K mg base N qual scope f cd A outer s H E).stack := fun b o q n z => by
    rw [hst] at z
    rcases List.mem_cons.mp z with z | z
    · exact absurd (Heap.lt_size q) (by rw [z]; exact Nat.lt_irrefl _)
    · exact n z
  have hok : HOk P w H' (PySem.W.hideAll s2.heap (frs (cxOf (CXE P w) P w K mg base N qual scope f cd A outer s H E).stack)) := fun b o q =>
    (I.hok b o q).stay (fun d u hd' r => PySem.W.hideAll_get _ r fun z => by
      have z' := hfr d z
      rcases hd' with e1 | e1
      · rw [e1, q] at z'; cases z'
      · rw [e1] at z'; cases z') (fun _ q => q) fun _ _ q => q
  have hin : ∀ env ∈ (cxOf (CXE P w) P w K mg base N qual scope f cd A outer s H E).stack, ∀ b, env.frame = some b → b ∈ frs (cxOf (CXE P w) P w K mg base N qual scope f cd A outer s H E).stack := fun env he b hb => List.mem_filterMap.mpr ⟨env, he, hb⟩
  refine leaves_madeX (base := PySem.W.hideAll s2.heap (frs (cxOf (CXE P w) P w K mg base N qual scope f cd A outer s H E).stack)) (h := s2.heap) I.ok.frames rfl (fun b o q => PySem.W.of_hideAll _ q) (PySem.W.funFrames_hide hfl hin) hm fun h2 t x1 x4 => ?_
  refine ⟨e, C, H', rfl, ⟨I.os, I.bare, ⟨_, t, fun b o q n z => PySem.W.hideAll_get _ (hbase.keep b o q n z (by simp)) (notin b o q z), fun b o q z => ?_, hok, x1⟩, fun b o q z => ?_, fun b o q n => hbase.free b o q n (by simp), hbase.tups, hbase.frzs, hbase.tbls⟩, hw _⟩
  · obtain ⟨o', r⟩ := hbase.there b o q (by simp)
    exact ⟨o', PySem.W.hideAll_get _ r (notin b o q z)⟩
  · have n0 : H b = none := I.ok.frf b z
    obtain ⟨sl, r⟩ := hbase.slot b o q n0 z (by simp)
    obtain ⟨_, o2, r2, nd⟩ := hfl.mem (show b ∈ List.filterMap _ _ by rw [show List.filterMap (fun e : Env => e.frame) (cxOf (CXE P w) P w K mg base N qual scope f cd A outer s H E).stack = s.heap.objs.size :: frs outer from hst]; exact List.mem_cons_of_mem _ z)
    rw [r] at r2
    cases r2
    obtain ⟨sl2, r3⟩ := x4 b _ (hm.keeps _ _ r) nd
    exact ⟨sl2, r3⟩
end
end L2
namespace L2
open PySem PySem.Spec PyProof.Rows
section
variable {P : Program} {w : World} {K : PySem.W.Frag} {mg : Str → Option Value} {base : Heap}
/-- THE RULE for a def that may raise an own error -/
theorem Fun.okE {x qual : Str} {st : Stmt} {f : Addr} {fd : FuncData} {N ps : List Str} {k : Nat} {sp : Sp} (F : Fun K x qual st f fd) (S : FnScope N ps (defScope st)) (len : ∀ vs H Q E, sp vs H Q E → vs.length = ps.length)
    (hbody : ∀ (cdv : Value) (A : Around) (outer : List Env) (s : Shared) (H : Hp) (vs : List V) (Q : VK) (E : XK), Room k (A.deeper (envOfC qual (defScope st) s.heap.objs.size f cdv)) → sp vs H Q E →
      ∃ t, PSs (cxOf (CXE P w) P w K mg base N qual (defScope st) f cdv A outer s H E) (defBody st) t ∧ t { nx := fun _ H' => Q .non H', rt := Q } (start N vs) H) : FnOk P w K mg base (CXE P w) (k + 1) f fd ps sp := by
  obtain ⟨oc, od, kV, doc, pm, an, cdv, ct, osl, rfl, lk, hcd⟩ := F.ex
  exact fn_of lk hcd S len fun A outer s H vs Q E hr hsp => hbody cdv A outer s H vs Q E hr hsp
end
end L2

/-! ### an error is caught by the name of an own class that it comes of -/
namespace L2
open PySem PySem.Spec PyProof.Rows
theorem excMatches_up {M : Model} {A : Around} {E : Value → Shared → Prop} {nm nm2 q q2 : Str} {C D N N2 : Addr} {bs bs2 bm bm2 : List Value} {hdct hdct2 : Bool} {sn sn2 : List Str} {sub sub2 : List Value} {ab ab2 : Bool} {col col2 : Option Bool} {dd dd2 : Option Addr} {k0 k1 k2 k3 k5 j0 j1 j2 j3 j5 : Option Value} {newId newId2 : String}
    {h : Heap} {g : Array GenState} {d : Drawn} {t : Nat} {os : OsState} {e : Addr} {oe : Obj} {Q : Bool → Shared → Prop}
    (hC : h.get? C = some (excClassObj nm q C N bs bm hdct sn sub ab col dd k0 k1 k2 k3 k5 newId)) (hD : h.get? D = some (excClassObj nm2 q2 D N2 bs2 bm2 hdct2 sn2 sub2 ab2 col2 dd2 j0 j1 j2 j3 j5 newId2)) (he : h.get? e = some oe) (hcls : oe.cls = .ref C)
    (hbase : bm2.contains (.type "BaseException") = true) (hup : (Value.ref C :: bm).contains (.ref D) = true) (hq : Q true ⟨h, g, d, t, os⟩) : wpAny M A (excMatches (.ref e) (.ref D)) Q E ⟨h, g, d, t, os⟩ := by
  have hB : (Value.ref D :: bm2).contains (.type "BaseException") = true := by rw [List.contains_cons, hbase, Bool.or_true]
  have f := tc_notTuple
  unfold excMatches
  repeat (first | (with_reducible refine wpAny_loadPart_at he ?_; rw [hcls]) | with_reducible refine wpAny_loadPart_at hD ?_ | (with_reducible refine wpAny_isSubtype_exc hD ?_; rw [hB]) | (with_reducible refine wpAny_isSubtype_exc hC ?_; rw [hup]) | wp_step)
  exact hq
end L2
namespace L2
open PySem PySem.Spec PyProof.Rows
section
variable {P : Program} {w : World} {outer : List Env} {H H' : Hp} {s s' : Shared} {a C : Addr}
theorem Fly.un (F : Fly P w outer H s a C H' s') : Un (frs outer) [] H H' s.heap s'.heap := by
  obtain ⟨B, t, w1, w2, hok, fly⟩ := F.way
  have st := fly.1.1
  refine ⟨fun b o q n z _ => st b o (w1 b o q n z), fun b o q n z _ => F.slot b o q z, fun b o q n _ => F.free b o q n, fun b o q _ => ?_, F.tups, F.frzs, F.tbls⟩
  by_cases z : b ∈ frs outer
  · obtain ⟨sl, r⟩ := F.slot b o q z
    exact ⟨_, r⟩
  · obtain ⟨o', r⟩ := w2 b o q z
    exact ⟨o', st b o' r⟩
theorem Fly.hok (F : Fly P w outer H s a C H' s') : HOk P w H' s'.heap := by
  obtain ⟨B, t, w1, w2, hok, fly⟩ := F.way
  exact hok.kept fly.1.1
/-- the body's state, at an error that came out of a call -/
theorem Fly.inv {X : Cx} {pins : List (Addr × Obj)} {σ : St} (I : Inv X pins σ H s) (F : Fly X.prog X.w X.stack H s a C H' s') : Inv X pins σ H' s' := by
  have un := F.un
  have hok := F.hok
  have bare := F.bare
  have os := F.os
  obtain ⟨hh, g, d, t, os'⟩ := s'
  obtain rfl : os' = s.os := os
  exact I.call (h' := hh) (g' := g) (d' := d) (t' := t) (ch := []) un hok bare (fun b z => absurd z (by simp))
theorem ObjOk.there {H : Hp} {h : Heap} {a : Addr} {o : HO} (x : ObjOk P w H h a o) : ∃ ob, h.get? a = some ob := by
  cases o with
  | lst xs => obtain ⟨_, _, _, _, e⟩ := x; exact ⟨_, e⟩
  | tup xs => obtain ⟨_, _, _, ob, e, _⟩ := x; exact ⟨_, e⟩
  | dK kvs => obtain ⟨_, _, _, _, ob, _, _, e, _⟩ := x; exact ⟨_, e⟩
  | dT kvs => obtain ⟨_, _, _, _, ob, _, _, e, _⟩ := x; exact ⟨_, e⟩
  | set S n => obtain ⟨ob, _, _, _, e, _⟩ := x; exact ⟨_, e⟩
  | ins C dx fs => obtain ⟨_, _, _, e, _⟩ := x; exact ⟨_, e⟩
  | own y => obtain ⟨_, e⟩ := x; exact ⟨_, e⟩
  | xd fs => obtain ⟨_, ⟨_, _, _, e, _⟩, _⟩ := x; exact ⟨_, e⟩
  | rng lo hi => obtain ⟨_, _, _, e⟩ := x; exact ⟨_, e⟩
  | frz ob u => obtain ⟨e, _⟩ := x; exact ⟨_, e⟩
  | tbl ps => exact ⟨_, (show h.get? a = some _ from x)⟩
  | met f y => exact ⟨_, (show h.get? a = some _ from x)⟩
  | ext φ => obtain ⟨_, ⟨_, e⟩, _⟩ := x; exact ⟨_, e⟩
/-- the error itself is none of the things that are told of -/
theorem Fly.new (F : Fly P w outer H s a C H' s') : H' a = none := by
  obtain ⟨B, t, w1, w2, hok, fly⟩ := F.way
  cases q : H' a with
  | none => rfl
  | some o =>
    obtain ⟨ob, e⟩ := ObjOk.there (hok a o q)
    rw [fly.1.2.1] at e
    cases e
/-- its heap changes, as it does where the error is looked at on its way -/
theorem Fly.on {h2 : Heap} (F : Fly P w outer H s a C H' s') (hw : ∀ B t, FlyX B outer a (.ref C) (.ref t) s'.heap → FlyX B outer a (.ref C) (.ref t) h2) (sm : s'.heap.UpToSlots h2) : Fly P w outer H s a C H' { s' with heap := h2 } := by
  obtain ⟨B, t, w1, w2, hok, fly⟩ := F.way
  refine ⟨F.os, F.bare, ⟨B, t, w1, w2, hok, hw B t fly⟩, fun b o q z => ?_, F.free, F.tups, F.frzs, F.tbls⟩
  obtain ⟨sl, r⟩ := F.slot b o q z
  obtain ⟨_, o2, r2, nd⟩ := fly.1.2.2.1.mem z
  rw [r] at r2
  cases r2
  obtain ⟨sl2, r3⟩ := sm b _ r nd
  exact ⟨sl2, r3⟩
end
end L2

/-! ### a def lets an error through -/
namespace L2
open PySem PySem.Spec PyProof.Rows
section
variable {P : Program} {w : World} {K : PySem.W.Frag} {mg : Str → Option Value} {base : Heap} {N : List Str} {qual : Str} {scope : Scope} {f : Addr} {cd : Value} {A : Around} {outer : List Env} {s : Shared} {H : Hp} {E E' : XK}
end
end L2

namespace L2
open PySem
theorem clos_go (env : Env) : ∀ (names : List (Str × NameKind)) (acc : List (Str × Addr)),
    (∀ y ∈ names, y.2 = NameKind.free → ∃ c, env.cells.lookup y.1 = some c) →
    (∀ x c, acc.lookup x = some c → env.cells.lookup x = some c) →
    ∃ cl : List (Str × Addr), (forIn names acc (fun (x : Str × NameKind) (r : List (Str × Addr)) => (match x with
      | (name, kind) => if (kind == NameKind.free) = true then do let a ← cellOf env name; pure (ForInStep.yield ((name, a) :: r)) else pure (ForInStep.yield r) : Sem (ForInStep (List (Str × Addr))))) : Sem (List (Str × Addr))) = pure cl ∧
      (∀ x c, cl.lookup x = some c → env.cells.lookup x = some c) ∧ (∀ x, (acc.lookup x).isSome = true → (cl.lookup x).isSome = true) ∧ (∀ y ∈ names, y.2 = NameKind.free → (cl.lookup y.1).isSome = true)
  | [], acc, _, ha => ⟨acc, rfl, ha, fun _ h => h, fun _ h => nomatch h⟩
  | (n, k) :: r, acc, h, ha => by
    by_cases hk : k = NameKind.free
    · subst hk
      obtain ⟨c, hc⟩ := h (n, NameKind.free) List.mem_cons_self rfl
      obtain ⟨cl, e, h1, h2, h3⟩ := clos_go env r ((n, c) :: acc) (fun y hy => h y (List.mem_cons_of_mem _ hy)) (fun x d hd => by
        rw [List.lookup_cons] at hd
        cases hx : x == n with
        | true =>
          rw [hx] at hd
          cases hd
          rw [eq_of_beq hx]; exact hc
        | false => rw [hx] at hd; exact ha x d hd)
      refine ⟨cl, ?_, h1, fun x hx => h2 x ?_, fun y hy hf => ?_⟩
      · rw [List.forIn_cons]
        have ec : cellOf env n = pure c := by unfold cellOf; rw [hc]
        simp only [ec]
        exact e
      · rw [List.lookup_cons]
        cases hx : x == n with
        | true => rfl
        | false => assumption
      · rcases List.mem_cons.mp hy with rfl | hy
        · refine h2 n ?_
          rw [List.lookup_cons, beq_self_eq_true]; rfl
        · exact h3 y hy hf
    · obtain ⟨cl, e, h1, h2, h3⟩ := clos_go env r acc (fun y hy => h y (List.mem_cons_of_mem _ hy)) ha
      refine ⟨cl, ?_, h1, h2, fun y hy hf => ?_⟩
      · rw [List.forIn_cons]
        have ek : (k == NameKind.free) = false := by simpa using hk
        simp only [ek, Bool.false_eq_true, if_false]
        exact e
      · rcases List.mem_cons.mp hy with rfl | hy
        · exact absurd hf hk
        · exact h3 y hy hf
theorem clos_of {scope : Scope} {env : Env} (h : ∀ y ∈ scope.names, y.2 = NameKind.free → ∃ c, env.cells.lookup y.1 = some c) :
    ∃ cl : List (Str × Addr), closureFor scope env = pure cl ∧ (∀ x c, cl.lookup x = some c → env.cells.lookup x = some c) ∧ (∀ y ∈ scope.names, y.2 = NameKind.free → (cl.lookup y.1).isSome = true) := by
  obtain ⟨cl, e, h1, h2, h3⟩ := clos_go env scope.names [] h (fun x c h => by cases h)
  refine ⟨cl, ?_, h1, h3⟩
  unfold closureFor
  show (forIn scope.names [] _ >>= fun r => pure r) = pure cl
  rw [e]
  rfl
end L2

namespace L2
open PySem
section
variable {prog : Program} {w : World} {A : Around} {R : Result → Shared → Prop} {s : Shared}
theorem compLoop_go {elt target iter : Expr} {ifs : List Expr} {scope : Scope} {pos : Pos} {it acc : Value} {env : Env} (I : Nat → Shared → Prop)
    (turn : ∀ n s, I n s → wpAny (model prog w) A (pyNext it) (fun r s₁ => match r with
      | none => R (.ok .next) s₁
      | some v => wpAny (model prog w) A (letOwnedTupleGo target it v) (fun _ s₁' => wpAny (model prog w) A (assign target env v) (fun _ s₂ =>
          wpAny (model prog w) A (forIn ifs true fun c r => if r = true then do let ok ← isTrue c env (eval c env); pure (ForInStep.yield ok) else pure (ForInStep.yield r)) (fun ok s₃ =>
            if ok = true then wpAny (model prog w) A (eval elt env) (fun x s₄ =>
              wpAny (model prog w) A (call (.builtin "list.append") [acc, x]) (fun _ s₅ => ∃ m, m < n ∧ I m s₅) (fun _ _ => False) s₄) (fun _ _ => False) s₃
            else ∃ m, m < n ∧ I m s₃) (fun _ _ => False) s₂) (fun _ _ => False) s₁') (fun _ _ => False) s₁) (fun _ _ => False) s)
    (n : Nat) (h : I n s) :
    codeAny (model prog w) A (.compLoop (.ListComp elt [⟨target, iter, ifs, 0⟩] scope pos) 0 it acc env) R s := by
  refine codeAny_loop rfl I (fun n s hI => ?_) n h
  show wpAny _ A ((compTurn (.ListComp elt [⟨target, iter, ifs, 0⟩] scope pos) 0 it acc env).onRaise (fun x => do noteFrame x env; theTreesLotGoes x)) _ _ s
  refine wpAny_noted ?_
  rw [compTurn_list]
  refine wpAny_bind (wpAny_standAt (wpAny_bind (wpAny_mono (turn n s hI) (fun r s₁ h₁ => ?_) fun _ _ h' => h'.elim)))
  cases r with
  | none => exact wpAny_pure h₁
  | some v =>
    refine wpAny_bind (wpAny_mono h₁ (fun _ s₁' h₁' => ?_) fun _ _ h' => h'.elim)
    refine wpAny_bind (wpAny_mono h₁' (fun _ s₂ h₂ => wpAny_bind (wpAny_mono h₂ (fun ok s₃ h₃ => ?_) fun _ _ h' => h'.elim)) fun _ _ h' => h'.elim)
    cases ok with
    | false => exact wpAny_pure ⟨rfl, h₃⟩
    | true =>
      exact wpAny_bind (wpAny_bind (wpAny_mono h₃ (fun x s₄ h₄ => wpAny_bind (wpAny_mono h₄ (fun _ s₅ h₅ => wpAny_pure (wpAny_pure ⟨rfl, h₅⟩)) fun _ _ h' => h'.elim)) fun _ _ h' => h'.elim))
end
end L2

/-! ### a comprehension: its names, its context -/
namespace L2
open PySem PySem.Spec PyProof.Rows

theorem lookup_relabel {env : Env} : ∀ {names : List (Str × NameKind)} {x : Str} {k' : NameKind},
    (names.map fun (n, k) => if (k == NameKind.free && env.scope.kind == .function && env.kindOf n == some .cell) then (n, NameKind.cell) else (n, k)).lookup x = some k' →
    ∃ k, names.lookup x = some k ∧ (k' = k ∨ (k = .free ∧ k' = .cell))
  | [], _, _, h => by simp at h
  | (n, k) :: r, x, k', h => by
    have h' : List.lookup x ((if (k == NameKind.free && env.scope.kind == .function && env.kindOf n == some .cell) = true then (n, NameKind.cell) else (n, k)) :: _) = some k' := h
    cases hx : x == n with
    | true =>
      by_cases hc : (k == NameKind.free && env.scope.kind == .function && env.kindOf n == some .cell) = true
      · rw [if_pos hc, List.lookup_cons, hx] at h'
        have hk : k = .free := by
          rw [Bool.and_eq_true, Bool.and_eq_true] at hc
          exact eq_of_beq hc.1.1
        exact ⟨k, by rw [List.lookup_cons, hx], .inr ⟨hk, (Option.some.inj h').symm⟩⟩
      · rw [if_neg hc, List.lookup_cons, hx] at h'
        exact ⟨k, by rw [List.lookup_cons, hx], .inl (Option.some.inj h').symm⟩
    | false =>
      have h2 : (r.map fun (n, k) => if (k == NameKind.free && env.scope.kind == .function && env.kindOf n == some .cell) then (n, NameKind.cell) else (n, k)).lookup x = some k' := by
        by_cases hc : (k == NameKind.free && env.scope.kind == .function && env.kindOf n == some .cell) = true
        · rw [if_pos hc, List.lookup_cons, hx] at h'; exact h'
        · rw [if_neg hc, List.lookup_cons, hx] at h'; exact h'
      obtain ⟨k1, e, z⟩ := lookup_relabel h2
      exact ⟨k1, by rw [List.lookup_cons, hx]; exact e, z⟩
theorem lookup_relabel_free {env : Env} : ∀ {names : List (Str × NameKind)} {x : Str}, names.lookup x = some .free →
    (names.map fun (n, k) => if (k == NameKind.free && env.scope.kind == .function && env.kindOf n == some .cell) then (n, NameKind.cell) else (n, k)).lookup x = some .cell ∨
    (names.map fun (n, k) => if (k == NameKind.free && env.scope.kind == .function && env.kindOf n == some .cell) then (n, NameKind.cell) else (n, k)).lookup x = some .free
  | [], _, h => by simp at h
  | (n, k) :: r, x, h => by
    have ih := @lookup_relabel_free env r x
    show List.lookup x ((if (k == NameKind.free && env.scope.kind == .function && env.kindOf n == some .cell) = true then (n, NameKind.cell) else (n, k)) :: _) = _ ∨ List.lookup x ((if (k == NameKind.free && env.scope.kind == .function && env.kindOf n == some .cell) = true then (n, NameKind.cell) else (n, k)) :: _) = _
    cases hx : x == n with
    | true =>
      rw [List.lookup_cons, hx] at h
      have hk : k = .free := Option.some.inj h
      by_cases hc : (k == NameKind.free && env.scope.kind == .function && env.kindOf n == some .cell) = true
      · left; rw [if_pos hc, List.lookup_cons, hx]
      · right; rw [if_neg hc, List.lookup_cons, hx]; simp only; rw [hk]
    | false =>
      rw [List.lookup_cons, hx] at h
      by_cases hc : (k == NameKind.free && env.scope.kind == .function && env.kindOf n == some .cell) = true
      · rw [if_pos hc, List.lookup_cons, hx]; exact ih h
      · rw [if_neg hc, List.lookup_cons, hx]; exact ih h
theorem mem_lookup {names : List (Str × NameKind)} {x : Str} {k : NameKind} (h : names.lookup x = some k) : (x, k) ∈ names := PySem.mem_of_lookup h

/-- the slots of a block's names, out of the def's -/
def csel (fm : List (Option Nat)) (σ : St) : St := fm.map fun o => match o with | some j => (σ[j]?).getD none | none => none
theorem csel_get {fm : List (Option Nat)} {σ : St} {i : Nat} {v : V} (h : (csel fm σ)[i]? = some (some v)) : ∃ j, fm[i]? = some (some j) ∧ σ[j]? = some (some v) := by
  unfold csel at h
  rw [List.getElem?_map] at h
  cases e : fm[i]? with
  | none => rw [e] at h; cases h
  | some o =>
    rw [e] at h
    cases o with
    | none => cases h
    | some j =>
      have h' : some ((σ[j]?).getD none) = some (some v) := h
      have h2 := Option.some.inj h'
      cases e2 : σ[j]? with
      | none => rw [e2] at h2; cases h2
      | some z => rw [e2] at h2; have h3 : z = some v := h2; subst h3; exact ⟨j, rfl, e2⟩

/-- what the block's names are, checked over the text -/
def selOk (XN : List Str) (names : List (Str × NameKind)) : List Str → List (Option Nat) → Bool
  | [], [] => true
  | _ :: N, none :: fm => selOk XN names N fm
  | x :: N, some j :: fm => (XN[j]? == some x) && (names.lookup x == some .free) && selOk XN names N fm
  | _, _ => false
theorem selOk_len {XN : List Str} {names : List (Str × NameKind)} : ∀ {N : List Str} {fm : List (Option Nat)}, selOk XN names N fm = true → fm.length = N.length
  | [], [], _ => rfl
  | _ :: N, none :: fm, h => by rw [List.length_cons, List.length_cons, selOk_len (show selOk XN names N fm = true from h)]
  | x :: N, some j :: fm, h => by
    have h' : ((XN[j]? == some x) && (names.lookup x == some .free) && selOk XN names N fm) = true := h
    rw [Bool.and_eq_true] at h'
    rw [List.length_cons, List.length_cons, selOk_len h'.2]
  | [], _ :: _, h => nomatch h
  | _ :: _, [], h => nomatch h
theorem selOk_at {XN : List Str} {names : List (Str × NameKind)} : ∀ {N : List Str} {fm : List (Option Nat)} {i j : Nat} {x : Str}, selOk XN names N fm = true → N[i]? = some x → fm[i]? = some (some j) → XN[j]? = some x ∧ names.lookup x = some .free
  | [], [], i, j, x, _, h, _ => by simp at h
  | _ :: N, none :: fm, 0, j, x, h, h1, h2 => by simp at h2
  | _ :: N, none :: fm, i + 1, j, x, h, h1, h2 => selOk_at (show selOk XN names N fm = true from h) (by simpa using h1) (by simpa using h2)
  | y :: N, some k :: fm, 0, j, x, h, h1, h2 => by
    have h' : ((XN[k]? == some y) && (names.lookup y == some .free) && selOk XN names N fm) = true := h
    rw [Bool.and_eq_true, Bool.and_eq_true] at h'
    have e1 : y = x := by simpa using h1
    have e2 : k = j := by simpa using h2
    subst e1; subst e2
    exact ⟨eq_of_beq h'.1.1, eq_of_beq h'.1.2⟩
  | y :: N, some k :: fm, i + 1, j, x, h, h1, h2 => by
    have h' : ((XN[k]? == some y) && (names.lookup y == some .free) && selOk XN names N fm) = true := h
    rw [Bool.and_eq_true] at h'
    exact selOk_at h'.2 (by simpa using h1) (by simpa using h2)
  | [], _ :: _, _, _, _, h, _, _ => nomatch h
  | _ :: _, [], _, _, _, h, _, _ => nomatch h
structure CompScope (XN : List Str) (xsc : Scope) (N : List Str) (fm : List (Option Nat)) (scope : Scope) : Prop where
  kind : scope.kind = .function
  cel : ∀ y ∈ scope.names, y.2 = .cell → scope.names.lookup y.1 = some .cell
  loc : ∀ y ∈ scope.names, y.2 = .local → scope.names.lookup y.1 = some .local
  free : ∀ y ∈ scope.names, y.2 = .free → xsc.names.lookup y.1 = some .cell ∨ xsc.names.lookup y.1 = some .free
  sel : selOk XN scope.names N fm = true
  nd : N.Nodup

def cxC (X : Cx) (N : List Str) (scope : Scope) (cl : List (Str × Addr)) (C : Addr) (s : Shared) (H : Hp) (fp : List Addr) : Cx where
  prog := X.prog
  w := X.w
  K := X.K
  mg := X.mg
  base := X.base
  A := X.A
  N := N
  s₀ := s
  H₀ := H
  env := compEnvC scope cl C X.env
  outer := X.stack
  stack := X.stack
  ex := fp
  fn := fun x => scope.names.lookup x == some .cell
  calm := true
  pn := []
  xe := fun _ _ => False

/-! ### the block's cells: new ones ahead of the captured ones -/
theorem cellsFrom_app : ∀ (names : List (Str × NameKind)) (n : Nat) (acc : List (Str × Addr)), cellsFrom n names acc = cellsFrom n names [] ++ acc
  | [], _, _ => rfl
  | (x, k) :: r, n, acc => by
    unfold cellsFrom
    split
    · rw [cellsFrom_app r (n + 1) ((x, n) :: acc), cellsFrom_app r (n + 1) [(x, n)], List.append_assoc]; rfl
    · exact cellsFrom_app r n acc
theorem cellsFrom_mem : ∀ (names : List (Str × NameKind)) (n : Nat) {x : Str} {c : Addr}, (x, c) ∈ cellsFrom n names [] → (x, NameKind.cell) ∈ names
  | [], _, _, _, h => nomatch h
  | (y, k) :: r, n, x, c, h => by
    unfold cellsFrom at h
    split at h
    · rename_i hk
      rw [cellsFrom_app] at h
      rcases List.mem_append.mp h with z | z
      · exact List.mem_cons_of_mem _ (cellsFrom_mem r _ z)
      · have z' : (x, c) = (y, n) := by simpa using z
        cases z'
        rw [eq_of_beq hk]; exact List.mem_cons_self
    · exact List.mem_cons_of_mem _ (cellsFrom_mem r _ h)
theorem lookup_app {l₁ l₂ : List (Str × Addr)} {x : Str} : (l₁ ++ l₂).lookup x = (match l₁.lookup x with | some c => some c | none => l₂.lookup x) := by
  induction l₁ with
  | nil => rfl
  | cons y r ih =>
    obtain ⟨k, v⟩ := y
    rw [List.cons_append, List.lookup_cons, List.lookup_cons]
    cases x == k with
    | true => rfl
    | false => exact ih
structure CellsFor (X : Cx) (scope : Scope) (s : Shared) (h₁ : Heap) (cells : List (Str × Addr)) : Prop where
  src : ∀ x c, cells.lookup x = some c → (s.heap.objs.size < c ∧ h₁.IsCell c none) ∨ X.env.cells.lookup x = some c
  inj : ∀ x y c, cells.lookup x = some c → cells.lookup y = some c → x = y
  has : ∀ x, (scope.names.lookup x = some .cell ∨ scope.names.lookup x = some .free) → ∃ c, cells.lookup x = some c
  cab : ∀ x c, scope.names.lookup x = some .cell → cells.lookup x = some c → s.heap.objs.size ≤ c
  fr : ∀ x c, scope.names.lookup x = some .free → cells.lookup x = some c → X.env.cells.lookup x = some c
theorem newEnvB {M : Model} {A : Around} {E : Value → Shared → Prop} {s : Shared} {scope : Scope} {globals : Addr} {cl : List (Str × Addr)} {qual : Str} {env : Env} {Q : Env → Shared → Prop}
    (h : Q { scope := scope, locals := s.heap.objs.size, globals := globals, cells := cellsFrom (s.heap.objs.size + 1) scope.names cl, qual := qual, func := none, code := env.code, frame := env.frame, builtins := env.builtins }
      { s with heap := pushCells (s.heap.push { cls := .type "dict", data := .dict #[] }) scope.names }) :
    wpAny M A (newFunctionEnv scope globals cl [] qual none .none (some env)) Q E s := by
  simp only [newFunctionEnv, Option.isSome_some, if_true]
  refine wpAny_bind (wpAny_alloc ?_)
  refine wpAny_bind (wpAny_layCells _ (fun name kind cells => by cases hkc : kind == NameKind.cell <;> simp [hkc]) _ _ _ _ ?_)
  rw [show ({ s with heap := s.heap.push { cls := .type "dict", data := .dict #[] } } : Shared).heap.objs.size = s.heap.objs.size + 1 from Heap.size_push ..]
  rw [List.forIn_nil]
  exact wpAny_bind (wpAny_pure (wpAny_pure h))
theorem cells_for {X : Cx} {XN N : List Str} {fm : List (Option Nat)} {xsc scope : Scope} {cl : List (Str × Addr)} {s : Shared} (S : CompScope XN xsc N fm scope)
    (hin : ∀ x y c, X.env.cells.lookup x = some c → X.env.cells.lookup y = some c → x = y) (hlt : ∀ x c, X.env.cells.lookup x = some c → c < s.heap.objs.size)
    (hcl1 : ∀ x c, cl.lookup x = some c → X.env.cells.lookup x = some c) (hcl2 : ∀ y ∈ scope.names, y.2 = NameKind.free → (cl.lookup y.1).isSome = true) :
    CellsFor X scope s (pushCells (s.heap.push { cls := .type "dict", data := .dict #[] }) scope.names) (cellsFrom (s.heap.objs.size + 1) scope.names cl) := by
  have ok := cellsFrom_ok scope.names (s.heap.push { cls := .type "dict", data := .dict #[] }) (s.heap.objs.size + 1) [] ⟨fun _ _ hm => (nomatch hm), List.Pairwise.nil⟩ (by rw [Heap.size_push]; exact Nat.le_refl _)
  rw [Heap.size_push] at ok
  rw [cellsFrom_app]
  have new : ∀ x c, (cellsFrom (s.heap.objs.size + 1) scope.names []).lookup x = some c → s.heap.objs.size < c ∧ (pushCells (s.heap.push { cls := .type "dict", data := .dict #[] }) scope.names).IsCell c none ∧ scope.names.lookup x = some .cell := fun x c e => by
    have m := PySem.mem_of_lookup e
    exact ⟨(ok.empty x c m).2, (ok.empty x c m).1, S.cel (x, .cell) (cellsFrom_mem _ _ m) rfl⟩
  have two : ∀ x c, ((cellsFrom (s.heap.objs.size + 1) scope.names []) ++ cl).lookup x = some c → (cellsFrom (s.heap.objs.size + 1) scope.names []).lookup x = some c ∨ ((cellsFrom (s.heap.objs.size + 1) scope.names []).lookup x = none ∧ cl.lookup x = some c) := fun x c e => by
    rw [lookup_app] at e
    cases q : (cellsFrom (s.heap.objs.size + 1) scope.names []).lookup x with
    | some d => rw [q] at e; exact .inl e
    | none => rw [q] at e; exact .inr ⟨rfl, e⟩
  refine ⟨fun x c e => ?_, fun x y c e1 e2 => ?_, fun x hx => ?_, fun x c hx e => ?_, fun x c hx e => ?_⟩
  · rcases two x c e with z | ⟨_, z⟩
    · exact .inl ⟨(new x c z).1, (new x c z).2.1⟩
    · exact .inr (hcl1 x c z)
  · rcases two x c e1 with z | ⟨_, z⟩
    · rcases two y c e2 with z' | ⟨_, z'⟩
      · exact name_of_addr ok.apart (PySem.mem_of_lookup z) (PySem.mem_of_lookup z')
      · exact absurd (Nat.lt_trans (hlt y c (hcl1 y c z')) (new x c z).1) (Nat.lt_irrefl _)
    · rcases two y c e2 with z' | ⟨_, z'⟩
      · exact absurd (Nat.lt_trans (hlt x c (hcl1 x c z)) (new y c z').1) (Nat.lt_irrefl _)
      · exact hin x y c (hcl1 x c z) (hcl1 y c z')
  · rcases hx with hx | hx
    · have q := PySem.W.cellsFrom_some scope.names (s.heap.objs.size + 1) [] (x := x) (.inl hx)
      obtain ⟨c, e⟩ := Option.isSome_iff_exists.mp q
      exact ⟨c, by rw [lookup_app, e]⟩
    · obtain ⟨c, e⟩ := Option.isSome_iff_exists.mp (hcl2 (x, .free) (mem_lookup hx) rfl)
      rw [lookup_app]
      cases q : (cellsFrom (s.heap.objs.size + 1) scope.names []).lookup x with
      | some d => exact ⟨d, rfl⟩
      | none => exact ⟨c, e⟩
  · rcases two x c e with z | ⟨z, _⟩
    · exact Nat.le_of_lt (new x c z).1
    · have q := PySem.W.cellsFrom_some scope.names (s.heap.objs.size + 1) [] (x := x) (.inl hx)
      rw [z] at q; cases q
  · rcases two x c e with z | ⟨_, z⟩
    · have := (new x c z).2.2
      rw [hx] at this; cases this
    · exact hcl1 x c z

section
variable {X : Cx}
/-- the context is well made -/
theorem cxC_ok {N : List Str} {fm : List (Option Nat)} {scope : Scope} {cells : List (Str × Addr)} {pins : List (Addr × Obj)} {σ : St} {H : Hp} {s : Shared} {fp : List Addr} {h₁ : Heap} (S : CompScope X.N X.env.scope N fm scope) (hc : X.calm = true)
    (I : Inv X pins σ H s) (L : CellsFor X scope s h₁ cells)
    (hfp : ∀ b ∈ fp, FpOk X pins H b) (hfl : ∀ b ∈ fp, b < s.heap.objs.size) : (cxC X N scope cells s.heap.objs.size s H fp).Ok := by
  refine ⟨I.ok.mod, S.kind, I.ok.glob, I.ok.blt, Nat.le_refl _, L.inj, fun x hx => ?_, fun x c h e => L.cab x c (eq_of_beq h) e, fun _ => I.ok.hd hc, I.ok.frames, .inl rfl, fun b hb => ?_, I.bs, Nat.le_trans I.ok.bsz I.sz, fun b o e hb => ?_, fun b hb hf => ?_, I.stack, fun b hb => I.stkFree b hb⟩
  · have hx' : (∃ k', (relabel scope X.env).names.lookup x = some k' ∧ (k' = .cell ∨ k' = .free)) := by
      rcases hx with z | z
      · exact ⟨_, z, .inl rfl⟩
      · exact ⟨_, z, .inr rfl⟩
    obtain ⟨k', e, hk⟩ := hx'
    obtain ⟨k, e1, z⟩ := lookup_relabel e
    refine L.has x ?_
    rcases z with z | ⟨z, _⟩
    · subst z
      rcases hk with hk | hk
      · subst hk; exact .inl e1
      · subst hk; exact .inr e1
    · subst z; exact .inr e1
  · refine ⟨Nat.ne_of_lt (hfl b hb), fun x c e z => ?_⟩
    rcases L.src x c e with ⟨q, _⟩ | q
    · exact absurd (Nat.lt_trans (Nat.lt_of_lt_of_eq q z) (hfl b hb)) (Nat.lt_irrefl _)
    · exact (hfp b hb).2.2.2.2.1 x c q z
  · obtain ⟨_, _, _, h, _⟩ := hfp b hb
    rcases h with h | h
    · exact I.ok.noex b o e h
    · exact absurd (Nat.lt_of_lt_of_le (Heap.lt_size e) (Nat.le_trans I.ok.bsz h)) (Nat.lt_irrefl _)
  · obtain ⟨_, h1, h2, _⟩ := hfp b hb
    rcases List.mem_cons.mp (I.stkSub b hf) with z | z
    · exact h1 z
    · exact h2 z

theorem cxC_inv {N : List Str} {fm : List (Option Nat)} {scope : Scope} {cells : List (Str × Addr)} {pins : List (Addr × Obj)} {σ : St} {H : Hp} {s : Shared} {fp : List Addr} {h₁ : Heap} {tk : Nat} {m : Str → Option Value} (S : CompScope X.N X.env.scope N fm scope) (hc : X.calm = true)
    (I : Inv X pins σ H s) (L : CellsFor X scope s h₁ cells)
    (hfp : ∀ b ∈ fp, FpOk X pins H b) (hfl : ∀ b ∈ fp, b < s.heap.objs.size) (hn : h₁.Ns s.heap.objs.size m) (hk : ∀ b o, s.heap.get? b = some o → h₁.get? b = some o) :
    Inv (cxC X N scope cells s.heap.objs.size s H fp) [] (csel fm σ) H { s with heap := h₁, toks := tk } := by
  have len := selOk_len S.sel
  refine ⟨cxC_ok S hc I L hfp hfl, rfl, I.bare, Un.kept hk, ⟨m, hn, fun i x v e1 e2 e3 => ?_⟩, fun x c e => ?_, I.hok.fresh (Nat.le_refl _), fun x c e => ?_, fun p hp => absurd (show p ∈ ([] : List (Addr × Obj)) from hp) (by simp), I.hok.kept hk, ?_⟩
  · obtain ⟨j, f1, f2⟩ := csel_get e2
    obtain ⟨g1, g2⟩ := selOk_at S.sel e1 f1
    have hxf := S.free (x, .free) (mem_lookup g2) rfl
    obtain ⟨m0, _, hl⟩ := I.loc
    have hvis : Vis X.env.scope x := by
      rcases hxf with z | z
      · exact .inr (.inl z)
      · exact .inr (.inr z)
    obtain ⟨u, r, l⟩ := hl j x v g1 f2 hvis
    refine ⟨u, r, .inr ⟨lookup_relabel_free g2, ?_⟩⟩
    obtain ⟨c, ec⟩ := L.has x (.inr g2)
    refine ⟨c, ec, ?_⟩
    rcases l with ⟨k, _⟩ | ⟨_, c', e', z⟩
    · have k' : X.env.scope.names.lookup x = some .local := k
      rcases hxf with q | q <;> (have q' : X.env.scope.names.lookup x = _ := q; rw [k'] at q'; cases q')
    · have e3 := L.fr x c g2 ec
      rw [e'] at e3
      have e4 : c' = c := Option.some.inj e3
      subst e4
      obtain ⟨o, ho, hd⟩ := z
      exact ⟨o, hk _ _ ho, hd⟩
  · rcases L.src x c e with ⟨_, q⟩ | q
    · exact ⟨_, q⟩
    · obtain ⟨v, o, ho, hd⟩ := I.cell x c q
      exact ⟨v, o, hk _ _ ho, hd⟩
  · rcases L.src x c e with ⟨q, _⟩ | q
    · exact I.hok.fresh (Nat.le_of_lt q)
    · exact I.freeC x c q
  · show (csel fm σ).length = N.length
    unfold csel
    rw [List.length_map]; exact len

/-- the reading of a comprehension -/
def CompRun (J : It) (g : TG) (tt : TT) (te : TE) (Q : VK) (σ0 : St) (H1 : Hp) (D : Addr) : Prop :=
  ∃ W : Nat → Nat → St → Hp → Prop, (∃ m, W 0 m σ0 (upd H1 D (.lst []))) ∧ ∀ i m σ' H', W i m σ' H' →
    (J.stop i H' ∧ Q (.ref D) H') ∨ (J.go i H' ∧ ∃ N : St → Hp → Prop, (∀ σ2 H2, N σ2 H2 → ∃ m', m' < m ∧ W (i + 1) m' σ2 H2) ∧
      ∀ x H2, J.yld i H' x H2 → g x σ' H2 fun σ3 H3 => tt σ3 H3 fun b H4 => if b = true then te σ3 H4 fun y H5 => ∃ ys, H5 D = some (.lst ys) ∧ ys.length < sizeLine ∧ N σ3 (upd H5 D (.lst (ys ++ [y]))) else N σ3 H4)
def tComp (fm : List (Option Nat)) (wi : TI) (g : TG) (tt : TT) (te : TE) : TE := fun σ H Q => wi σ H fun J H1 => ∀ D, H1 D = none → CompRun J g tt te Q (csel fm σ) H1 D
/-- the tests of a comprehension: none, one -/
def PTs (X : Cx) (ifs : List Expr) (t : TT) : Prop :=
  ∀ (pins : List (Addr × Obj)) (s : Shared) (σ : St) (H : Hp) (Q : Bool → Hp → Prop), Inv X pins σ H s → t σ H Q →
    wpAny (model X.prog X.w) X.A (forIn ifs true fun c r => if r = true then do let ok ← isTrue c X.env (eval c X.env); pure (ForInStep.yield ok) else pure (ForInStep.yield r)) (TP X pins σ Q) X.xe s
def tYes : TT := fun _ H Q => Q true H
theorem pts_nil : PTs X [] tYes := fun _ _ _ H _ I h => wpAny_tests_nil ⟨H, I, h⟩
theorem pts_one {c : Expr} {t : TT} (h : PT X c t) : PTs X [c] t := fun pins s σ H Q I q => wpAny_tests_one (h pins s σ H Q I q)

theorem comp_block {elt tg iter : Expr} {ifs : List Expr} {scope : Scope} {cl : List (Str × Addr)} {N : List Str} {fm : List (Option Nat)} {pos : Pos} {g : TG} {tt : TT} {te : TE} {pins : List (Addr × Obj)} {σ : St} {H1 : Hp} {s₂ : Shared} {it : Addr} {fp : List Addr} {tn : Nat → Heap → Prop} {J : It} {Q : VK}
    {E : Value → Shared → Prop} {RR : Value → Addr → Result → Shared → Prop} (S : CompScope X.N X.env.scope N fm scope) (hc : X.calm = true) (hcl1 : ∀ x c, cl.lookup x = some c → X.env.cells.lookup x = some c) (hcl2 : ∀ y ∈ scope.names, y.2 = NameKind.free → (cl.lookup y.1).isSome = true)
    (hg : ∀ cl C s H fp, PG (cxC X N scope cl C s H fp) tg g) (ht : ∀ cl C s H fp, PTs (cxC X N scope cl C s H fp) ifs tt) (he : ∀ cl C s H fp, PE (cxC X N scope cl C s H fp) elt te)
    (I : Inv X pins σ H1 s₂) (T : Turn X.prog X.w X.K tg J fp it tn) (st : tn 0 s₂.heap) (hf : ∀ b ∈ fp, FpOk X pins H1 b)
    (hq : ∀ D, H1 D = none → CompRun J g tt te Q (csel fm σ) H1 D)
    (hRR : ∀ D C s' H' m, Inv X pins σ H' s' → s'.heap.Ns C m → H' C = none → C ≠ X.env.locals → X.s₀.heap.objs.size ≤ C → (∀ x c, X.env.cells.lookup x = some c → c ≠ C) → (∀ p ∈ X.pn ++ pins, p.1 ≠ C) → C ∉ X.fs → Q (.ref D) H' → RR (.ref D) C (.ok .next) s') :
    wpAny (model X.prog X.w) X.A (newList []) (fun acc s₃ => wpAny (model X.prog X.w) X.A (newFunctionEnv scope X.env.globals cl [] X.env.qual none .none (some X.env)) (fun cenv s₄ =>
      codeAny (model X.prog X.w) X.A (.compStart (.ListComp elt [⟨tg, iter, ifs, 0⟩] scope pos) 0 (.ref it) acc { cenv with scope := relabel scope X.env }) (RR acc cenv.locals) s₄) E s₃) E s₂ := by
  have hD : H1 s₂.heap.objs.size = none := I.hok.fresh (Nat.le_refl _)
  obtain ⟨W, ⟨m0, w0⟩, turn⟩ := hq _ hD
  refine wpAny_newObj_type (newEnvB ?_)
  -- the list, the block's names
  have I3 : Inv X pins σ (upd H1 s₂.heap.objs.size (.lst [])) { s₂ with heap := s₂.heap.push { cls := .type "list", data := .seq ([] : List Value).toArray } } := I.lnew (its := []) (t' := s₂.toks) .nil (Nat.zero_le _)
  have obj := T.obj 0 _ st
  have fl : ∀ b ∈ fp, b < s₂.heap.objs.size := fun b hb => by obtain ⟨o, e, _⟩ := obj b hb; exact Heap.lt_size e
  have hf3 : ∀ b ∈ fp, FpOk X pins (upd H1 s₂.heap.objs.size (.lst [])) b := fun b hb => by
    obtain ⟨q, r⟩ := hf b hb
    exact ⟨by rw [upd_ne (Nat.ne_of_lt (fl b hb))]; exact q, r⟩
  have sz3 : (s₂.heap.push { cls := .type "list", data := .seq ([] : List Value).toArray }).objs.size = s₂.heap.objs.size + 1 := Heap.size_push ..
  have fl3 : ∀ b ∈ fp, b < (s₂.heap.push { cls := .type "list", data := .seq ([] : List Value).toArray }).objs.size := fun b hb => by rw [sz3]; exact Nat.lt_succ_of_lt (fl b hb)
  have L := cells_for (X := X) (s := { s₂ with heap := s₂.heap.push { cls := .type "list", data := .seq ([] : List Value).toArray } }) S I.ok.inj (fun x c e => by obtain ⟨v, o, ho, _⟩ := I3.cell x c e; exact Heap.lt_size ho) hcl1 hcl2
  generalize hcells : cellsFrom ((s₂.heap.push { cls := .type "list", data := .seq ([] : List Value).toArray }).objs.size + 1) scope.names cl = cells at L ⊢
  have hns₁ : (pushCells ((s₂.heap.push { cls := .type "list", data := .seq ([] : List Value).toArray }).push { cls := .type "dict", data := .dict #[] }) scope.names).Ns (s₂.heap.push { cls := .type "list", data := .seq ([] : List Value).toArray }).objs.size (fun _ => none) :=
    (Heap.Ns.new _ (.type "dict")).keeps (pushCells_keeps _ _)
  have kp : ∀ b o, (s₂.heap.push { cls := .type "list", data := .seq ([] : List Value).toArray }).get? b = some o → (pushCells ((s₂.heap.push { cls := .type "list", data := .seq ([] : List Value).toArray }).push { cls := .type "dict", data := .dict #[] }) scope.names).get? b = some o := fun b o e => pushCells_keeps _ _ b o (Heap.get?_push_of_some _ e)
  generalize hh₁ : pushCells ((s₂.heap.push { cls := .type "list", data := .seq ([] : List Value).toArray }).push { cls := .type "dict", data := .dict #[] }) scope.names = h₁ at L hns₁ kp ⊢
  have J0 := cxC_inv (tk := s₂.toks) S hc I3 L hf3 fl3 hns₁ kp
  -- what stays true of the iterator's records
  have stat : ∀ {H' : Hp}, (∀ b ∈ fp, H' b = none) → ∀ b ∈ fp, FpOk (cxC X N scope cells (s₂.heap.push { cls := .type "list", data := .seq ([] : List Value).toArray }).objs.size { s₂ with heap := s₂.heap.push { cls := .type "list", data := .seq ([] : List Value).toArray } } (upd H1 s₂.heap.objs.size (.lst [])) fp) [] H' b :=
    fun hn b hb => ⟨hn b hb, (J0.ok.exf b hb).1, J0.ok.exfs b hb, .inl hb, (J0.ok.exf b hb).2, fun p hp => absurd (show p ∈ ([] : List (Addr × Obj)) from hp) (by simp)⟩
  have st1 : tn 0 h₁ := T.keep 0 _ _ st fun b hb o e => kp b o (Heap.get?_push_of_some _ e)
  have loop : ∀ s₃ : Shared, s₃ = { s₂ with heap := h₁, toks := s₂.toks } →
      codeAny (model X.prog X.w) X.A (.compLoop (.ListComp elt [⟨tg, iter, ifs, 0⟩] scope pos) 0 (.ref it) (.ref s₂.heap.objs.size) (compEnvC scope cells (s₂.heap.push { cls := .type "list", data := .seq ([] : List Value).toArray }).objs.size X.env))
        (RR (.ref s₂.heap.objs.size) (s₂.heap.push { cls := .type "list", data := .seq ([] : List Value).toArray }).objs.size) s₃ := by
    rintro s₃ rfl
    generalize hX : cxC X N scope cells (s₂.heap.push { cls := .type "list", data := .seq ([] : List Value).toArray }).objs.size { s₂ with heap := s₂.heap.push { cls := .type "list", data := .seq ([] : List Value).toArray } } (upd H1 s₂.heap.objs.size (.lst [])) fp = X' at J0 stat
    refine compLoop_go (fun n s' => ∃ i σ' H', Inv X' [] σ' H' s' ∧ tn i s'.heap ∧ (∀ b ∈ fp, H' b = none) ∧ W i n σ' H') ?_ m0 ⟨0, _, _, J0, st1, fun b hb => (hf3 b hb).1, w0⟩
    rintro n s3 ⟨i, σ3, H3, I3', st3, fr3, w3⟩
    rcases turn i n σ3 H3 w3 with ⟨stop, qn⟩ | ⟨go, Nx, hN, step⟩
    · have hd := T.done X' (by rw [← hX]; rfl) (by rw [← hX]; rfl) (by rw [← hX]; rfl) (by rw [← hX]; rfl) i [] s3 σ3 H3 (fun _ _ => False) I3' (stat fr3) st3 stop
      have hA : X'.A = X.A := by rw [← hX]; rfl
      rw [hA] at hd
      refine wpAny_mono hd (fun r s4 ⟨hr, I4⟩ => ?_) fun _ _ z => z
      subst hr
      show RR _ _ (.ok .next) s4
      subst hX
      obtain ⟨m', hm', _⟩ := I4.loc
      refine hRR _ _ s4 H3 m' (I3.call' (ch := fp) I4.os I4.base I4.hok I4.bare fun b hb => ?_) hm' I4.free ?_ ?_ ?_ ?_ ?_ qn
      · obtain ⟨_, f1, f2, f3, f4, f5⟩ := hf b hb
        exact ⟨f3, f1, f4, f5⟩
      · exact Nat.ne_of_gt (Nat.lt_of_lt_of_le I.lt (by rw [sz3]; exact Nat.le_succ _))
      · exact Nat.le_trans I.sz (by rw [sz3]; exact Nat.le_succ _)
      · intro x c e z
        obtain ⟨v, o, ho, _⟩ := I3.cell x c e
        exact Nat.lt_irrefl _ (Nat.lt_of_lt_of_eq (Heap.lt_size ho) z.symm)
      · intro p hp z
        have e := (I3.pin p hp).1
        exact Nat.lt_irrefl _ (Nat.lt_of_lt_of_eq (Heap.lt_size e) z.symm)
      · exact I3.nofs (Nat.le_refl _)
    · have hi := T.item X' (by rw [← hX]; rfl) (by rw [← hX]; rfl) (by rw [← hX]; rfl) (by rw [← hX]; rfl) i [] s3 σ3 H3 (fun _ _ => False) I3' (stat fr3) st3 go
      have hA : X'.A = X.A := by rw [← hX]; rfl
      have hP : X'.prog = X.prog := by rw [← hX]; rfl
      have hw' : X'.w = X.w := by rw [← hX]; rfl
      have hE : X'.env = compEnvC scope cells (s₂.heap.push { cls := .type "list", data := .seq ([] : List Value).toArray }).objs.size X.env := by rw [← hX]; rfl
      have hxe : X'.xe = fun _ _ => False := by rw [← hX]; rfl
      rw [hA] at hi
      refine wpAny_mono hi (fun r s4 ⟨u, hr, h4⟩ => ?_) fun _ _ z => z
      subst hr
      refine wpAny_mono h4 (fun _ s5 ⟨x, H5, I5, r5, y5, st5, fr5⟩ => ?_) fun _ _ z => z
      have I5' := I5.pinned (stat fr5) (T.obj _ _ st5)
      have q1 := (by rw [← hX]; exact hg _ _ _ _ _ : PG X' tg g) _ s5 σ3 H5 x u _ I5' r5 (step x H5 y5)
      rw [hP, hw', hA, hE, hxe] at q1
      refine wpAny_mono q1 (fun _ s6 ⟨σ6, H6, I6, q6⟩ => ?_) fun _ _ z => z
      have q2 := (by rw [← hX]; exact ht _ _ _ _ _ : PTs X' ifs tt) _ s6 σ6 H6 _ I6 q6
      rw [hP, hw', hA, hE, hxe] at q2
      refine wpAny_mono q2 (fun ok s7 ⟨H7, I7, q7⟩ => ?_) fun _ _ z => z
      have again : ∀ {s8 : Shared} {σ8 : St} {H8 : Hp}, Inv X' ([] ++ pinsAt fp s5.heap) σ8 H8 s8 → Nx σ8 H8 → ∃ m, m < n ∧ ∃ i σ' H', Inv X' [] σ' H' s8 ∧ tn i s8.heap ∧ (∀ b ∈ fp, H' b = none) ∧ W i m σ' H' := fun {s8 σ8 H8} I8 n8 => by
        obtain ⟨m', hm, w8⟩ := hN σ8 H8 n8
        refine ⟨m', hm, i + 1, σ8, H8, I8.unpinned, T.keep _ _ _ st5 fun b hb o e => (I8.pin (b, o) (List.mem_append_right _ (List.mem_append_right _ (mem_pinsAt hb e)))).1, fun b hb => ?_, w8⟩
        obtain ⟨o, e, d⟩ := T.obj _ _ st5 b hb
        exact (I8.pin (b, o) (List.mem_append_right _ (List.mem_append_right _ (mem_pinsAt hb e)))).2.1
      cases ok with
      | false => exact again I7 q7
      | true =>
        have q3 := (by rw [← hX]; exact he _ _ _ _ _ : PE X' elt te) _ s7 σ6 H7 _ I7 q7
        rw [hP, hw', hA, hE, hxe] at q3
        refine wpAny_mono q3 (fun z s8 ⟨y, H8, I8, r8, ys, e8, l8, n8⟩ => ?_) fun _ _ z => z
        have q4 := mt_append (X := X') _ s8 σ6 H8 (.ref s₂.heap.objs.size) [y] (.ref s₂.heap.objs.size) [z] (fun v H' => Nx σ6 H') I8 rfl (.cons r8 .nil) ⟨_, ys, y, rfl, rfl, e8, l8, n8⟩
        rw [hP, hw', hA, hxe] at q4
        exact wpAny_mono q4 (fun _ s9 ⟨_, H9, I9, _, n9⟩ => again I9 n9) fun _ _ z => z
  exact codeAny_compStart_list (loop _ rfl) (T.self _ 0 _ _ _ st1 (loop _ rfl))

/-- [elt for tg in iter if ..] as a value -/
theorem pe_comp {elt tg iter : Expr} {ifs : List Expr} {scope : Scope} {pos : Pos} {wi : TI} {g : TG} {tt : TT} {te : TE} (XN : List Str) (xsc : Scope) (N : List Str) (fm : List (Option Nat)) (S : CompScope XN xsc N fm scope) (hc : X.calm = true) (hi : PI X tg iter wi)
    (hg : ∀ cl C s H fp, PG (cxC X N scope cl C s H fp) tg g) (ht : ∀ cl C s H fp, PTs (cxC X N scope cl C s H fp) ifs tt) (he : ∀ cl C s H fp, PE (cxC X N scope cl C s H fp) elt te)
    (hXN : X.N = XN := by rfl) (hXs : X.env.scope = xsc := by rfl) (hs : ∀ x, foldedSetIterable iter X.env x = pure x := by intro _; rfl) : PE X (.ListComp elt [⟨tg, iter, ifs, 0⟩] scope pos) (tComp fm wi g tt te) := by
  intro pins s σ H Q I h
  subst hXN hXs
  obtain ⟨cl, hclos, hcl1, hcl2⟩ := clos_of (scope := scope) (env := X.env) fun y hy hf => I.ok.has y.1 (S.free y hy hf)
  rw [eval_ListComp]
  refine wpAny_comprehension_free (use := none) rfl hs hclos S.kind S.loc (thn (hi pins s σ H _ I h) fun xv s₁ h₁ => thn h₁ fun itv s₂ h₂ => ?_)
  obtain ⟨it, fp, tn, J, H1, e, I2, T, st, hf, hq⟩ := h₂
  subst e
  refine comp_block (RR := fun acc C => compPost (model X.prog X.w) X.A X.xe none (EP X pins σ Q) acc C) S hc hcl1 hcl2 hg ht he I2 T st hf hq ?_
  intro D C s' H' m I' hn hC hL hC0 hcc hpp hfs q
  refine ⟨m, hn, fun h' hs' => ⟨.ref D, H', ?_, rfl, q⟩⟩
  exact I'.turned (t' := s'.toks) (it := C) (fun b o hb e => hs'.extBut b o hb e) hC hL (.inr hC0) hcc hpp

/-- name = [elt for tg in iter if ..] -/
theorem ps_setC {i : Nat} {y : Str} {elt tg iter : Expr} {ifs : List Expr} {scope : Scope} {pos spos py : Pos} {wi : TI} {g : TG} {tt : TT} {te : TE} (XN : List Str) (xsc : Scope) (N : List Str) (fm : List (Option Nat)) (S : CompScope XN xsc N fm scope) (hc : X.calm = true)
    (hN : X.N.Nodup) (hiy : X.N[i]? = some y) (hy : X.env.scope.names.lookup y = some .local) (hi : PI X tg iter wi)
    (hg : ∀ cl C s H fp, PG (cxC X N scope cl C s H fp) tg g) (ht : ∀ cl C s H fp, PTs (cxC X N scope cl C s H fp) ifs tt) (he : ∀ cl C s H fp, PE (cxC X N scope cl C s H fp) elt te)
    (hXN : X.N = XN := by rfl) (hXs : X.env.scope = xsc := by rfl) (hs : ∀ x, foldedSetIterable iter X.env x = pure x := by intro _; rfl)
    (hsw : swapsWith (.ListComp elt [⟨tg, iter, ifs, 0⟩] scope pos) (some (.Name y py)) spos.line X.env = pure true := by rfl) :
    PS X (.Assign [.Name y py] (.ListComp elt [⟨tg, iter, ifs, 0⟩] scope pos) spos) (tAsg (tComp fm wi g tt te) (gName i)) := by
  intro pins s σ H D I h
  subst hXN hXs
  obtain ⟨cl, hclos, hcl1, hcl2⟩ := clos_of (scope := scope) (env := X.env) fun y hy hf => I.ok.has y.1 (S.free y hy hf)
  rw [exec_Assign_Name_used _ _ _ _ hsw]
  refine wpAny_bind (wpAny_standAt (wpAny_bind ?_))
  show wpAny _ X.A (do let _ ← comprehension (.ListComp elt [⟨tg, iter, ifs, 0⟩] scope pos) scope X.env _ (newList []) false (eval iter X.env) (some (assign (.Name y py) X.env))) _ _ s
  refine wpAny_bind (wpAny_mono (wpAny_comprehension_free (use := some (assign (.Name y py) X.env)) (Q := fun _ s' => SP X pins D .next s') rfl hs hclos S.kind S.loc
    (thn (hi pins s σ H _ I h) fun xv s₁ h₁ => thn h₁ fun itv s₂ h₂ => ?_)) (fun _ s' hq => wpAny_pure (wpAny_pure hq)) fun _ _ e => e)
  obtain ⟨it, fp, tn, J, H1, e, I2, T, st, hf, hq⟩ := h₂
  subst e
  refine comp_block (Q := fun x H1 => gName i x σ H1 D.nx) (RR := fun acc C => compPost (model X.prog X.w) X.A X.xe (some (assign (.Name y py) X.env)) (fun _ s' => SP X pins D .next s') acc C) S hc hcl1 hcl2 hg ht he I2 T st hf hq ?_
  intro D' C s' H' m I' hn hC hL hC0 hcc hpp hfs q
  show wpAny _ X.A (assign (.Name y py) X.env (.ref D')) _ _ _
  obtain ⟨oC, es, ep, hoC, hdC, hrC⟩ := id hn
  have Ip : Inv X (pins ++ [(C, oC)]) σ H' s' := I'.pins_of fun p hp => by
    rcases List.mem_append.mp hp with z | z
    · exact I'.pin p (List.mem_append_right _ z)
    · have z' : p = (C, oC) := by simpa using z
      subst z'
      exact ⟨hoC, hC, hL, hfs, fun v z => by rw [hdC] at z; cases z⟩
  refine wpAny_assign_Name (store_ok Ip hN hiy (.inl hy) (v := .ref D') rfl (fun s2 I3 => ?_) (.inr hy))
  have hC2 := (I3.pin (C, oC) (List.mem_append_right _ (List.mem_append_right _ (by simp))))
  refine ⟨m, ⟨oC, es, ep, hC2.1, hdC, hrC⟩, fun h' hs' => ⟨_, H', ?_, q⟩⟩
  exact I3.unpinned.turned (t' := s2.toks) (it := C) (fun b o hb e => hs'.extBut b o hb e) hC hL (.inr hC0) hcc hpp
end
end L2

/-! ### an error that leaves a comprehension -/
namespace L2
open PySem PySem.Spec PyProof.Rows
theorem note_env {env env' : Env} (h : env.frame = env'.frame) (e : Value) : noteFrame e env = noteFrame e env' := by
  simp only [noteFrame, PySem.frameOf, h]
section
variable {M : Model} {A : Around} {E : Value → Shared → Prop} {s : Shared} {base : Heap} {env : Env} {outer l : List Env} {L e : Addr} {cls a0 : Value} {h0 h h' : Heap} {Q : Unit → Shared → Prop}
theorem Trk.self (T : Trk base l e cls a0 h0 h) : Trk base l e cls a0 h h := ⟨T.st, T.fr, .refl _, T.nw, T.rc⟩
theorem note_any {fl : Value} (hfr : A.frames = some (env :: outer)) (hf : env.frame = some L) (T : Trk base (env :: outer) e cls a0 h0 s.heap) (B : Tb base e fl s.heap)
    (k : ∀ h' fl', Trk base (env :: outer) e cls a0 h0 h' → Tb base e fl' h' → Q () { s with heap := h' }) : wpAny M A (noteFrame (.ref e) env) Q E s := by
  have B0 := B
  obtain ⟨oe, vs, t, ot, ts, h1, h2, h3, h4, h5, h6, h7, h8⟩ := B
  unfold noteFrame
  simp only [hf]
  refine wpAny_bind (wpAny_field h1 h2 h3 ?_)
  rw [if_pos (show (Value.ref t != Value.none) = true from by simp)]
  refine wpAny_bind (wpAny_field h6 h7 h8 ?_)
  by_cases q : (fl == rawInt L) = true
  · rw [if_pos q]
    exact wpAny_pure (k s.heap fl T B0)
  · rw [if_neg q]
    refine wpAny_bind (wpAny_setField h6 h7 (Array.getElem?_eq_some_iff.mp h8).1 ?_)
    exact entry_trk (s := { s with heap := _ }) hfr hf (T.setT h6 h7 h4 h5 _) fun h' T' B' => k h' _ T' B'
theorem flight_any {fl : Value} {fr : Option Addr} (T : Trk base l e cls a0 h0 s.heap) (B : Tb base e fl s.heap) (k : ∀ h' fl', Trk base l e cls a0 h0 h' → Tb base e fl' h' → Q () { s with heap := h' }) : wpAny M A (setFlight (.ref e) fr) Q E s := by
  obtain ⟨oe, vs, t, ot, ts, h1, h2, h3, h4, h5, h6, h7, h8⟩ := B
  have z : 3 < ts.size := (Array.getElem?_eq_some_iff.mp h8).1
  have d := Obj.data_mapFields h7 (·.setIfInBounds 3 (fr.elim .none fun f => rawInt f))
  unfold setFlight
  refine wpAny_bind (wpAny_field h1 h2 h3 ?_)
  rw [if_pos (show (Value.ref t != Value.none) = true from by simp)]
  exact wpAny_setField h6 h7 z (k _ (fr.elim .none fun f => rawInt f) (T.setT h6 h7 h4 h5 _) ⟨oe, vs, t, _, _, (Heap.get?_update_other _ _ h5).trans h1, h2, h3, h4, h5, Heap.get?_update_self _ h6 (Obj.isFreed_of_fields d), d, by simp [z]⟩)
/-- an error on its way, noted in its frame or not -/
def FlyY (base : Heap) (l : List Env) (e : Addr) (cls a0 : Value) (h : Heap) : Prop := Trk base l e cls a0 h h ∧ ∃ fl, Tb base e fl h
theorem leaves_onY (hfr : A.frames = some (env :: outer)) (hf : env.frame = some L) (F : FlyY base (env :: outer) e cls a0 s.heap) (k : ∀ h', FlyX base outer e cls a0 h' → s.heap.UpToSlots h' → Q () { s with heap := h' }) : wpAny M A (leaving env (.ref e)) Q E s := by
  obtain ⟨T, fl, B⟩ := F
  unfold leaving
  exact wpAny_bind (note_any hfr hf T B fun h1 fl1 T1 B1 => flight_trk (s := { s with heap := h1 }) T1 B1 fun h2 T2 B2 => k h2 (T2.out.fly B2) T2.up)
theorem funs_but {C : Addr} {oC : Obj} (hC : base.get? C = some oC) (sb : ∀ b o, b ≠ C → h.get? b = some o → h'.get? b = some o) : ∀ {l : List Env}, h.FunFrames base l → h'.FunFrames (PySem.W.hideAll base [C]) l
  | [], _ => trivial
  | env :: _, ⟨hk, ⟨L, o, hf, hn, ho, hd⟩, hr⟩ => by
    have ne : L ≠ C := fun z => by rw [z, hC] at hn; cases hn
    refine ⟨hk, ⟨L, o, hf, ?_, sb L o ne ho, hd⟩, funs_but hC sb hr⟩
    cases q : (PySem.W.hideAll base [C]).get? L with
    | none => rfl
    | some u => have := PySem.W.of_hideAll _ q; rw [hn] at this; cases this
theorem FlyY.but {C : Addr} {oC : Obj} (F : FlyY base l e cls a0 h) (hC : base.get? C = some oC) (sb : ∀ b o, b ≠ C → h.get? b = some o → h'.get? b = some o) : FlyY (PySem.W.hideAll base [C]) l e cls a0 h' := by
  obtain ⟨T, fl, oe, vs, t, ot, ts, h1, h2, h3, h4, h5, h6, h7, h8⟩ := F
  have hid : ∀ b, base.get? b = none → (PySem.W.hideAll base [C]).get? b = none := fun b hb => by
    cases q : (PySem.W.hideAll base [C]).get? b with
    | none => rfl
    | some u => have := PySem.W.of_hideAll _ q; rw [hb] at this; cases this
  have ne : ∀ b, base.get? b = none → b ≠ C := fun b hb z => by rw [z, hC] at hb; cases hb
  obtain ⟨oe', vs', r1, r2⟩ := T.rc
  refine ⟨⟨fun b o q => ?_, funs_but hC sb T.fr, .refl _, hid _ T.nw, oe', vs', sb e oe' (ne e T.nw) r1, r2⟩, fl, oe, vs, t, ot, ts, sb e oe (ne e T.nw) h1, h2, h3, hid t h4, h5, sb t ot (ne t h4) h6, h7, h8⟩
  have hbC : b ≠ C := fun z => by
    rw [z, PySem.W.hideAll_none [C] (List.mem_singleton.mpr rfl)] at q
    cases q
  exact sb b o hbC (T.st b o (PySem.W.of_hideAll _ q))
end
section
variable {P : Program} {w : World} {K : PySem.W.Frag} {mg : Str → Option Value} {base : Heap} {N : List Str} {qual : Str} {scope : Scope} {f : Addr} {cd : Value} {A : Around} {outer : List Env} {s : Shared} {H : Hp} {E E' : XK}
/-- an error out of a call leaves the comprehension, and then the def -/
theorem passes_comp (hE : ∀ e C H', E' e C H' → E e C H') {pins : List (Addr × Obj)} {σ : St} {H1 : Hp} {s1 : Shared} (I : Inv (cxOf (CXE P w) P w K mg base N qual scope f cd A outer s H E) pins σ H1 s1) {C : Addr} {m : Str → Option Value} (hn : s1.heap.Ns C m) (hC : H1 C = none)
    (hf : C ∉ frs (cxOf (CXE P w) P w K mg base N qual scope f cd A outer s H E).stack) (hC0 : s.heap.objs.size ≤ C) {cenv : Env} (hce : cenv.frame = (envOfC qual scope s.heap.objs.size f cd).frame) {Q : Value → Shared → Prop} {acc e : Value} {s' : Shared}
    (hx : CXE P w (cxOf (CXE P w) P w K mg base N qual scope f cd A outer s H E).stack H1 s1 E' e s') :
    notedBy (model P w) (cxOf (CXE P w) P w K mg base N qual scope f cd A outer s H E).A cenv (fun e s' => compPost (model P w) (cxOf (CXE P w) P w K mg base N qual scope f cd A outer s H E).A (cxOf (CXE P w) P w K mg base N qual scope f cd A outer s H E).xe none Q acc C (.error e) s') e s' := by
  obtain ⟨a, C', H', rfl, F, he⟩ := hx
  obtain ⟨B, t, w1, w2, hok, fly⟩ := F.way
  obtain ⟨oC, es, ep, hoC, hdC, hrC⟩ := id hn
  have hBC : B.get? C = some oC := w1 C oC hoC hC hf
  have hC' : H' C = none := F.free C oC hoC hC
  have hst : frs (cxOf (CXE P w) P w K mg base N qual scope f cd A outer s H E).stack = s.heap.objs.size :: frs outer := rfl
  have hbase : Un (frs outer) [] H H1 s.heap s1.heap := I.base
  have notin : ∀ b o, s.heap.get? b = some o → b ∉ frs outer → b ∉ frs (cxOf (CXE P w) P w K mg base N qual scope f cd A outer s H E).stack := fun b o q n z => by
    rw [hst] at z
    rcases List.mem_cons.mp z with z | z
    · exact absurd (Heap.lt_size q) (by rw [z]; exact Nat.lt_irrefl _)
    · exact n z
  have nC : ∀ b o, s.heap.get? b = some o → b ∉ [C] := fun b o q z => by
    have z' : b = C := List.mem_singleton.mp z
    have := Heap.lt_size q
    rw [z'] at this
    exact Nat.lt_irrefl _ (Nat.lt_of_lt_of_le this hC0)
  unfold notedBy
  rw [note_env hce]
  obtain ⟨T, Bt⟩ := fly.trk
  refine note_any I.ok.frames rfl T Bt fun h2 fl2 T2 B2 => ?_
  refine ⟨m, ⟨oC, es, ep, T2.st C oC hBC, hdC, hrC⟩, fun h3 sb cenv' _ => ?_⟩
  have sb' : ∀ b o, b ≠ C → h2.get? b = some o → h3.get? b = some o := fun b o hb e => sb.extBut b o hb e
  have Y3 : FlyY (PySem.W.hideAll B [C]) (cxOf (CXE P w) P w K mg base N qual scope f cd A outer s H E).stack a (.ref C') (.ref t) h3 := FlyY.but ⟨T2.self, fl2, B2⟩ hBC sb'
  obtain ⟨T3, fl3, B3⟩ := Y3
  obtain ⟨oe, vs, tt, ot, ts, g1, g2, g3, g4⟩ := id B3
  unfold PySem.passOn
  refine wpAny_bind (wpAny_field g1 g2 g3 ?_)
  rw [if_neg (show ¬ (Value.ref tt == Value.none) = true from by simp)]
  refine wpAny_bind (flight_any (s := { s' with heap := h3 }) T3 B3 fun h4 fl4 T4 B4 => wpAny_throw ?_)
  refine leaves_onY (s := { s' with heap := h4 }) I.ok.frames rfl ⟨T4.self, fl4, B4⟩ fun h5 x1 x4 => ?_
  have hok' : HOk P w H' (PySem.W.hideAll B [C]) := fun b o q =>
    (hok b o q).stay (fun d u hd' r => PySem.W.hideAll_get _ r fun z => by
      have z' : d = C := List.mem_singleton.mp z
      rcases hd' with e1 | e1
      · rw [e1] at z'; rw [z', hC'] at q; cases q
      · rw [z', hC'] at e1; cases e1) (fun _ q => q) fun _ _ q => q
  refine ⟨a, C', H', rfl, ⟨F.os.trans I.os, F.bare, ⟨_, t, fun b o q n z => PySem.W.hideAll_get _ (w1 b o (hbase.keep b o q n z (by simp)) (hbase.free b o q n (by simp)) (notin b o q z)) (nC b o q), fun b o q z => ?_, hok', x1⟩, fun b o q z => ?_, fun b o q n => ?_, fun b xs q => F.tups b xs (hbase.tups b xs q), fun b o u q => F.frzs b o u (hbase.frzs b o u q), fun b ps q => ?_⟩, hE _ _ _ he⟩
  · obtain ⟨o', r⟩ := hbase.there b o q (by simp)
    obtain ⟨o2, r2⟩ := w2 b o' r (notin b o q z)
    exact ⟨o2, PySem.W.hideAll_get _ r2 (nC b o q)⟩
  · have n0 : H b = none := I.ok.frf b z
    obtain ⟨sl, r⟩ := hbase.slot b o q n0 z (by simp)
    have zz : b ∈ frs (cxOf (CXE P w) P w K mg base N qual scope f cd A outer s H E).stack := by rw [hst]; exact List.mem_cons_of_mem _ z
    obtain ⟨sl2, r2⟩ := F.slot b _ r zz
    obtain ⟨_, o3, r3, nd⟩ := fly.1.2.2.1.mem zz
    rw [r2] at r3
    cases r3
    obtain ⟨sl4, r4⟩ := T2.up b _ r2 nd
    have r5 := sb' b _ (fun z => hf (by rw [← z]; exact zz)) r4
    obtain ⟨sl6, r6⟩ := T4.up b _ r5 nd
    obtain ⟨sl7, r7⟩ := x4 b _ r6 nd
    exact ⟨sl7, r7⟩
  · obtain ⟨o', r⟩ := hbase.there b o q (by simp)
    exact F.free b o' r (hbase.free b o q n (by simp))
  · obtain ⟨m1, r1⟩ := hbase.tbls b ps q
    obtain ⟨m2, r2⟩ := F.tbls b _ r1
    exact ⟨m1 ++ m2, by rw [r2, Array.append_assoc]⟩
end
end L2

namespace L2
open PySem
section
variable {prog : Program} {w : World} {A : Around} {R : Result → Shared → Prop} {s : Shared}
theorem compLoop_goE {elt target iter : Expr} {ifs : List Expr} {scope : Scope} {pos : Pos} {it acc : Value} {env : Env} (I : Nat → Shared → Prop)
    (turn : ∀ n s, I n s → wpAny (model prog w) A (pyNext it) (fun r s₁ => match r with
      | none => R (.ok .next) s₁
      | some v => wpAny (model prog w) A (letOwnedTupleGo target it v) (fun _ s₁' => wpAny (model prog w) A (assign target env v) (fun _ s₂ =>
          wpAny (model prog w) A (forIn ifs true fun c r => if r = true then do let ok ← isTrue c env (eval c env); pure (ForInStep.yield ok) else pure (ForInStep.yield r)) (fun ok s₃ =>
            if ok = true then wpAny (model prog w) A (eval elt env) (fun x s₄ =>
              wpAny (model prog w) A (call (.builtin "list.append") [acc, x]) (fun _ s₅ => ∃ m, m < n ∧ I m s₅) (fun _ _ => False) s₄) (notedBy (model prog w) A env fun e s' => R (.error e) s') s₃
            else ∃ m, m < n ∧ I m s₃) (fun _ _ => False) s₂) (fun _ _ => False) s₁') (fun _ _ => False) s₁) (fun _ _ => False) s)
    (n : Nat) (h : I n s) :
    codeAny (model prog w) A (.compLoop (.ListComp elt [⟨target, iter, ifs, 0⟩] scope pos) 0 it acc env) R s := by
  refine codeAny_loop rfl I (fun n s hI => ?_) n h
  show wpAny _ A ((compTurn (.ListComp elt [⟨target, iter, ifs, 0⟩] scope pos) 0 it acc env).onRaise (fun x => do noteFrame x env; theTreesLotGoes x)) _ _ s
  refine wpAny_noted ?_
  rw [compTurn_list]
  refine wpAny_bind (wpAny_standAt (wpAny_bind (wpAny_mono (turn n s hI) (fun r s₁ h₁ => ?_) fun _ _ h' => h'.elim)))
  cases r with
  | none => exact wpAny_pure h₁
  | some v =>
    refine wpAny_bind (wpAny_mono h₁ (fun _ s₁' h₁' => ?_) fun _ _ h' => h'.elim)
    refine wpAny_bind (wpAny_mono h₁' (fun _ s₂ h₂ => wpAny_bind (wpAny_mono h₂ (fun ok s₃ h₃ => ?_) fun _ _ h' => h'.elim)) fun _ _ h' => h'.elim)
    cases ok with
    | false => exact wpAny_pure ⟨rfl, h₃⟩
    | true =>
      exact wpAny_bind (wpAny_bind (wpAny_mono h₃ (fun x s₄ h₄ => wpAny_bind (wpAny_mono h₄ (fun _ s₅ h₅ => wpAny_pure (wpAny_pure ⟨rfl, h₅⟩)) fun _ _ h' => h'.elim)) fun _ _ h' => h'))
end
end L2
namespace L2
open PySem PySem.Spec PyProof.Rows
section
variable {X : Cx}
theorem comp_blockE {elt tg iter : Expr} {ifs : List Expr} {scope : Scope} {cl : List (Str × Addr)} {N : List Str} {fm : List (Option Nat)} {pos : Pos} {g : TG} {tt : TT} {te : TE} {pins : List (Addr × Obj)} {σ : St} {H1 : Hp} {s₂ : Shared} {it : Addr} {fp : List Addr} {tn : Nat → Heap → Prop} {J : It} {Q : VK}
    {E : Value → Shared → Prop} {E' : XK} {RR : Value → Addr → Result → Shared → Prop} (S : CompScope X.N X.env.scope N fm scope) (hc : X.calm = true) (hcl1 : ∀ x c, cl.lookup x = some c → X.env.cells.lookup x = some c) (hcl2 : ∀ y ∈ scope.names, y.2 = NameKind.free → (cl.lookup y.1).isSome = true)
    (hg : ∀ cl C s H fp, PG (cxC X N scope cl C s H fp) tg g) (ht : ∀ cl C s H fp, PTs (cxC X N scope cl C s H fp) ifs tt) (he : ∀ cl C s H fp xe', Passes (CXE X.prog X.w) ((cxC X N scope cl C s H fp).wish xe') E' → PE ((cxC X N scope cl C s H fp).wish xe') elt te)
    (I : Inv X pins σ H1 s₂) (T : Turn X.prog X.w X.K tg J fp it tn) (st : tn 0 s₂.heap) (hf : ∀ b ∈ fp, FpOk X pins H1 b)
    (hq : ∀ D, H1 D = none → CompRun J g tt te Q (csel fm σ) H1 D)
    (hRR : ∀ D C s' H' m, Inv X pins σ H' s' → s'.heap.Ns C m → H' C = none → C ≠ X.env.locals → X.s₀.heap.objs.size ≤ C → (∀ x c, X.env.cells.lookup x = some c → c ≠ C) → (∀ p ∈ X.pn ++ pins, p.1 ≠ C) → C ∉ X.fs → Q (.ref D) H' → RR (.ref D) C (.ok .next) s')
    (hEE : ∀ D C H' s' m e s'' (cenv : Env), Inv X pins σ H' s' → s'.heap.Ns C m → H' C = none → C ∉ frs X.stack → X.s₀.heap.objs.size ≤ C → cenv.frame = X.env.frame → CXE X.prog X.w X.stack H' s' E' e s'' → notedBy (model X.prog X.w) X.A cenv (fun e s' => RR (.ref D) C (.error e) s') e s'') :
    wpAny (model X.prog X.w) X.A (newList []) (fun acc s₃ => wpAny (model X.prog X.w) X.A (newFunctionEnv scope X.env.globals cl [] X.env.qual none .none (some X.env)) (fun cenv s₄ =>
      codeAny (model X.prog X.w) X.A (.compStart (.ListComp elt [⟨tg, iter, ifs, 0⟩] scope pos) 0 (.ref it) acc { cenv with scope := relabel scope X.env }) (RR acc cenv.locals) s₄) E s₃) E s₂ := by
  have hD : H1 s₂.heap.objs.size = none := I.hok.fresh (Nat.le_refl _)
  obtain ⟨W, ⟨m0, w0⟩, turn⟩ := hq _ hD
  refine wpAny_newObj_type (newEnvB ?_)
  -- the list, the block's names
  have I3 : Inv X pins σ (upd H1 s₂.heap.objs.size (.lst [])) { s₂ with heap := s₂.heap.push { cls := .type "list", data := .seq ([] : List Value).toArray } } := I.lnew (its := []) (t' := s₂.toks) .nil (Nat.zero_le _)
  have obj := T.obj 0 _ st
  have fl : ∀ b ∈ fp, b < s₂.heap.objs.size := fun b hb => by obtain ⟨o, e, _⟩ := obj b hb; exact Heap.lt_size e
  have hf3 : ∀ b ∈ fp, FpOk X pins (upd H1 s₂.heap.objs.size (.lst [])) b := fun b hb => by
    obtain ⟨q, r⟩ := hf b hb
    exact ⟨by rw [upd_ne (Nat.ne_of_lt (fl b hb))]; exact q, r⟩
  have sz3 : (s₂.heap.push { cls := .type "list", data := .seq ([] : List Value).toArray }).objs.size = s₂.heap.objs.size + 1 := Heap.size_push ..
  have fl3 : ∀ b ∈ fp, b < (s₂.heap.push { cls := .type "list", data := .seq ([] : List Value).toArray }).objs.size := fun b hb => by rw [sz3]; exact Nat.lt_succ_of_lt (fl b hb)
  have L := cells_for (X := X) (s := { s₂ with heap := s₂.heap.push { cls := .type "list", data := .seq ([] : List Value).toArray } }) S I.ok.inj (fun x c e => by obtain ⟨v, o, ho, _⟩ := I3.cell x c e; exact Heap.lt_size ho) hcl1 hcl2
  generalize hcells : cellsFrom ((s₂.heap.push { cls := .type "list", data := .seq ([] : List Value).toArray }).objs.size + 1) scope.names cl = cells at L ⊢
  have hns₁ : (pushCells ((s₂.heap.push { cls := .type "list", data := .seq ([] : List Value).toArray }).push { cls := .type "dict", data := .dict #[] }) scope.names).Ns (s₂.heap.push { cls := .type "list", data := .seq ([] : List Value).toArray }).objs.size (fun _ => none) :=
    (Heap.Ns.new _ (.type "dict")).keeps (pushCells_keeps _ _)
  have kp : ∀ b o, (s₂.heap.push { cls := .type "list", data := .seq ([] : List Value).toArray }).get? b = some o → (pushCells ((s₂.heap.push { cls := .type "list", data := .seq ([] : List Value).toArray }).push { cls := .type "dict", data := .dict #[] }) scope.names).get? b = some o := fun b o e => pushCells_keeps _ _ b o (Heap.get?_push_of_some _ e)
  generalize hh₁ : pushCells ((s₂.heap.push { cls := .type "list", data := .seq ([] : List Value).toArray }).push { cls := .type "dict", data := .dict #[] }) scope.names = h₁ at L hns₁ kp ⊢
  have J0 := cxC_inv (tk := s₂.toks) S hc I3 L hf3 fl3 hns₁ kp
  -- what stays true of the iterator's records
  have stat : ∀ {H' : Hp}, (∀ b ∈ fp, H' b = none) → ∀ b ∈ fp, FpOk (cxC X N scope cells (s₂.heap.push { cls := .type "list", data := .seq ([] : List Value).toArray }).objs.size { s₂ with heap := s₂.heap.push { cls := .type "list", data := .seq ([] : List Value).toArray } } (upd H1 s₂.heap.objs.size (.lst [])) fp) [] H' b :=
    fun hn b hb => ⟨hn b hb, (J0.ok.exf b hb).1, J0.ok.exfs b hb, .inl hb, (J0.ok.exf b hb).2, fun p hp => absurd (show p ∈ ([] : List (Addr × Obj)) from hp) (by simp)⟩
  have st1 : tn 0 h₁ := T.keep 0 _ _ st fun b hb o e => kp b o (Heap.get?_push_of_some _ e)
  have loop : ∀ s₃ : Shared, s₃ = { s₂ with heap := h₁, toks := s₂.toks } →
      codeAny (model X.prog X.w) X.A (.compLoop (.ListComp elt [⟨tg, iter, ifs, 0⟩] scope pos) 0 (.ref it) (.ref s₂.heap.objs.size) (compEnvC scope cells (s₂.heap.push { cls := .type "list", data := .seq ([] : List Value).toArray }).objs.size X.env))
        (RR (.ref s₂.heap.objs.size) (s₂.heap.push { cls := .type "list", data := .seq ([] : List Value).toArray }).objs.size) s₃ := by
    rintro s₃ rfl
    generalize hX : cxC X N scope cells (s₂.heap.push { cls := .type "list", data := .seq ([] : List Value).toArray }).objs.size { s₂ with heap := s₂.heap.push { cls := .type "list", data := .seq ([] : List Value).toArray } } (upd H1 s₂.heap.objs.size (.lst [])) fp = X' at J0 stat
    refine compLoop_goE (fun n s' => ∃ i σ' H', Inv X' [] σ' H' s' ∧ tn i s'.heap ∧ (∀ b ∈ fp, H' b = none) ∧ W i n σ' H') ?_ m0 ⟨0, _, _, J0, st1, fun b hb => (hf3 b hb).1, w0⟩
    rintro n s3 ⟨i, σ3, H3, I3', st3, fr3, w3⟩
    rcases turn i n σ3 H3 w3 with ⟨stop, qn⟩ | ⟨go, Nx, hN, step⟩
    · have hd := T.done X' (by rw [← hX]; rfl) (by rw [← hX]; rfl) (by rw [← hX]; rfl) (by rw [← hX]; rfl) i [] s3 σ3 H3 (fun _ _ => False) I3' (stat fr3) st3 stop
      have hA : X'.A = X.A := by rw [← hX]; rfl
      rw [hA] at hd
      refine wpAny_mono hd (fun r s4 ⟨hr, I4⟩ => ?_) fun _ _ z => z
      subst hr
      show RR _ _ (.ok .next) s4
      subst hX
      obtain ⟨m', hm', _⟩ := I4.loc
      refine hRR _ _ s4 H3 m' (I3.call' (ch := fp) I4.os I4.base I4.hok I4.bare fun b hb => ?_) hm' I4.free ?_ ?_ ?_ ?_ ?_ qn
      · obtain ⟨_, f1, f2, f3, f4, f5⟩ := hf b hb
        exact ⟨f3, f1, f4, f5⟩
      · exact Nat.ne_of_gt (Nat.lt_of_lt_of_le I.lt (by rw [sz3]; exact Nat.le_succ _))
      · exact Nat.le_trans I.sz (by rw [sz3]; exact Nat.le_succ _)
      · intro x c e z
        obtain ⟨v, o, ho, _⟩ := I3.cell x c e
        exact Nat.lt_irrefl _ (Nat.lt_of_lt_of_eq (Heap.lt_size ho) z.symm)
      · intro p hp z
        have e := (I3.pin p hp).1
        exact Nat.lt_irrefl _ (Nat.lt_of_lt_of_eq (Heap.lt_size e) z.symm)
      · exact I3.nofs (Nat.le_refl _)
    · have hi := T.item X' (by rw [← hX]; rfl) (by rw [← hX]; rfl) (by rw [← hX]; rfl) (by rw [← hX]; rfl) i [] s3 σ3 H3 (fun _ _ => False) I3' (stat fr3) st3 go
      have hA : X'.A = X.A := by rw [← hX]; rfl
      have hP : X'.prog = X.prog := by rw [← hX]; rfl
      have hw' : X'.w = X.w := by rw [← hX]; rfl
      have hE : X'.env = compEnvC scope cells (s₂.heap.push { cls := .type "list", data := .seq ([] : List Value).toArray }).objs.size X.env := by rw [← hX]; rfl
      have hxe : X'.xe = fun _ _ => False := by rw [← hX]; rfl
      rw [hA] at hi
      refine wpAny_mono hi (fun r s4 ⟨u, hr, h4⟩ => ?_) fun _ _ z => z
      subst hr
      refine wpAny_mono h4 (fun _ s5 ⟨x, H5, I5, r5, y5, st5, fr5⟩ => ?_) fun _ _ z => z
      have I5' := I5.pinned (stat fr5) (T.obj _ _ st5)
      have q1 := (by rw [← hX]; exact hg _ _ _ _ _ : PG X' tg g) _ s5 σ3 H5 x u _ I5' r5 (step x H5 y5)
      rw [hP, hw', hA, hE, hxe] at q1
      refine wpAny_mono q1 (fun _ s6 ⟨σ6, H6, I6, q6⟩ => ?_) fun _ _ z => z
      have q2 := (by rw [← hX]; exact ht _ _ _ _ _ : PTs X' ifs tt) _ s6 σ6 H6 _ I6 q6
      rw [hP, hw', hA, hE, hxe] at q2
      refine wpAny_mono q2 (fun ok s7 ⟨H7, I7, q7⟩ => ?_) fun _ _ z => z
      have again : ∀ {s8 : Shared} {σ8 : St} {H8 : Hp}, Inv X' ([] ++ pinsAt fp s5.heap) σ8 H8 s8 → Nx σ8 H8 → ∃ m, m < n ∧ ∃ i σ' H', Inv X' [] σ' H' s8 ∧ tn i s8.heap ∧ (∀ b ∈ fp, H' b = none) ∧ W i m σ' H' := fun {s8 σ8 H8} I8 n8 => by
        obtain ⟨m', hm, w8⟩ := hN σ8 H8 n8
        refine ⟨m', hm, i + 1, σ8, H8, I8.unpinned, T.keep _ _ _ st5 fun b hb o e => (I8.pin (b, o) (List.mem_append_right _ (List.mem_append_right _ (mem_pinsAt hb e)))).1, fun b hb => ?_, w8⟩
        obtain ⟨o, e, d⟩ := T.obj _ _ st5 b hb
        exact (I8.pin (b, o) (List.mem_append_right _ (List.mem_append_right _ (mem_pinsAt hb e)))).2.1
      cases ok with
      | false => exact again I7 q7
      | true =>
        have hps : Passes (CXE X.prog X.w) (X'.wish fun e s' => notedBy (model X.prog X.w) X.A (compEnvC scope cells (s₂.heap.push { cls := .type "list", data := .seq ([] : List Value).toArray }).objs.size X.env) (fun e s' => RR (.ref s₂.heap.objs.size) (s₂.heap.push { cls := .type "list", data := .seq ([] : List Value).toArray }).objs.size (.error e) s') e s') E' := by
          intro pins' σ' Hx sx e sx' Ix hx
          have hS : X'.stack = X.stack := by rw [← hX]; rfl
          have Iy := Ix.unwish
          subst hX
          obtain ⟨m', hm', _⟩ := Iy.loc
          refine hEE _ _ Hx sx m' e sx' _ (I3.call' (ch := fp) Iy.os Iy.base Iy.hok Iy.bare fun b hb => ?_) hm' Iy.free ?_ (Nat.le_trans I.sz (by rw [sz3]; exact Nat.le_succ _)) rfl hx
          · obtain ⟨_, f1, f2, f3, f4, f5⟩ := hf b hb
            exact ⟨f3, f1, f4, f5⟩
          · intro z
            obtain ⟨_, o, ho, _⟩ := I3.stack.mem z
            exact Nat.lt_irrefl _ (Heap.lt_size ho)
        have q3 := (by rw [← hX] at hps ⊢; exact he _ _ _ _ _ _ hps : PE (X'.wish fun e s' => notedBy (model X.prog X.w) X.A (compEnvC scope cells (s₂.heap.push { cls := .type "list", data := .seq ([] : List Value).toArray }).objs.size X.env) (fun e s' => RR (.ref s₂.heap.objs.size) (s₂.heap.push { cls := .type "list", data := .seq ([] : List Value).toArray }).objs.size (.error e) s') e s') elt te) _ s7 σ6 H7 _ (I7.wish _) q7
        have q3' : wpAny (model X'.prog X'.w) X'.A (eval elt X'.env) _ (fun e s' => notedBy (model X.prog X.w) X.A (compEnvC scope cells (s₂.heap.push { cls := .type "list", data := .seq ([] : List Value).toArray }).objs.size X.env) (fun e s' => RR (.ref s₂.heap.objs.size) (s₂.heap.push { cls := .type "list", data := .seq ([] : List Value).toArray }).objs.size (.error e) s') e s') s7 := q3
        rw [hP, hw', hA, hE] at q3'
        refine wpAny_mono q3' (fun z s8 ⟨y, H8, I8, r8, ys, e8, l8, n8⟩ => ?_) fun _ _ z => z
        have I8 := I8.unwish
        have q4 := mt_append (X := X') _ s8 σ6 H8 (.ref s₂.heap.objs.size) [y] (.ref s₂.heap.objs.size) [z] (fun v H' => Nx σ6 H') I8 rfl (.cons r8 .nil) ⟨_, ys, y, rfl, rfl, e8, l8, n8⟩
        rw [hP, hw', hA, hxe] at q4
        exact wpAny_mono q4 (fun _ s9 ⟨_, H9, I9, _, n9⟩ => again I9 n9) fun _ _ z => z
  exact codeAny_compStart_list (loop _ rfl) (T.self _ 0 _ _ _ st1 (loop _ rfl))
/-- [elt for tg in iter if ..], where elt may let an error through -/
theorem pe_compE {P : Program} {w : World} {K : PySem.W.Frag} {mg : Str → Option Value} {base : Heap} {N0 : List Str} {qual : Str} {scope0 : Scope} {f : Addr} {cd : Value} {A : Around} {outer : List Env} {s0 : Shared} {H0 : Hp} {E0 E' : XK}
    {elt tg iter : Expr} {ifs : List Expr} {scope : Scope} {pos : Pos} {wi : TI} {g : TG} {tt : TT} {te : TE} (XN : List Str) (xsc : Scope) (N : List Str) (fm : List (Option Nat)) (S : CompScope XN xsc N fm scope) (hE : ∀ e C H', E' e C H' → E0 e C H')
    (hi : PI (cxOf (CXE P w) P w K mg base N0 qual scope0 f cd A outer s0 H0 E0) tg iter wi)
    (hg : ∀ cl C s H fp, PG (cxC (cxOf (CXE P w) P w K mg base N0 qual scope0 f cd A outer s0 H0 E0) N scope cl C s H fp) tg g) (ht : ∀ cl C s H fp, PTs (cxC (cxOf (CXE P w) P w K mg base N0 qual scope0 f cd A outer s0 H0 E0) N scope cl C s H fp) ifs tt)
    (he : ∀ cl C s H fp xe', Passes (CXE P w) ((cxC (cxOf (CXE P w) P w K mg base N0 qual scope0 f cd A outer s0 H0 E0) N scope cl C s H fp).wish xe') E' → PE ((cxC (cxOf (CXE P w) P w K mg base N0 qual scope0 f cd A outer s0 H0 E0) N scope cl C s H fp).wish xe') elt te)
    (hXN : N0 = XN := by rfl) (hXs : (cxOf (CXE P w) P w K mg base N0 qual scope0 f cd A outer s0 H0 E0).env.scope = xsc := by rfl) (hs : ∀ x, foldedSetIterable iter (cxOf (CXE P w) P w K mg base N0 qual scope0 f cd A outer s0 H0 E0).env x = pure x := by intro _; rfl) :
    PE (cxOf (CXE P w) P w K mg base N0 qual scope0 f cd A outer s0 H0 E0) (.ListComp elt [⟨tg, iter, ifs, 0⟩] scope pos) (tComp fm wi g tt te) := by
  intro pins s σ H Q I h
  subst hXN hXs
  obtain ⟨cl, hclos, hcl1, hcl2⟩ := clos_of (scope := scope) (env := (cxOf (CXE P w) P w K mg base N0 qual scope0 f cd A outer s0 H0 E0).env) fun y hy hf => I.ok.has y.1 (S.free y hy hf)
  rw [eval_ListComp]
  refine wpAny_comprehension_free (use := none) rfl hs hclos S.kind S.loc (thn (hi pins s σ H _ I h) fun xv s₁ h₁ => thn h₁ fun itv s₂ h₂ => ?_)
  obtain ⟨it, fp, tn, J, H1, e, I2, T, st, hf, hq⟩ := h₂
  subst e
  refine comp_blockE (E' := E') (RR := fun acc C => compPost (model P w) (cxOf (CXE P w) P w K mg base N0 qual scope0 f cd A outer s0 H0 E0).A (cxOf (CXE P w) P w K mg base N0 qual scope0 f cd A outer s0 H0 E0).xe none (EP (cxOf (CXE P w) P w K mg base N0 qual scope0 f cd A outer s0 H0 E0) pins σ Q) acc C) S rfl hcl1 hcl2 hg ht he I2 T st hf hq ?_ ?_
  · intro D C s' H' m I' hn hC hL hC0 hcc hpp hfs q
    refine ⟨m, hn, fun h' hs' => ⟨.ref D, H', ?_, rfl, q⟩⟩
    exact I'.turned (t' := s'.toks) (it := C) (fun b o hb e => hs'.extBut b o hb e) hC hL (.inr hC0) hcc hpp
  · intro D C H' s' m e s'' cenv I' hn hC hfs hC0 hce hx
    exact passes_comp hE I' hn hC hfs hC0 hce hx
end
end L2

/-! ### names forgotten; an error that is told of -/
namespace L2
open PySem PySem.Spec PyProof.Rows
section
variable {X : Cx} {pins : List (Addr × Obj)} {σ : St} {H : Hp} {s : Shared}
/-- the names' values are forgotten: the frame's dict has changed -/
theorem Inv.forget {h' : Heap} {m' : Str → Option Value} {tk : Nat} (I : Inv X pins σ H s) (hn' : h'.Ns X.env.locals m') (hs : Heap.SameBut X.env.locals s.heap h') : Inv X pins (List.replicate X.N.length none) H { s with heap := h', toks := tk } := by
  have cne := I.cne
  have up : ∀ {b : Addr} {o : Obj}, X.s₀.heap.get? b = some o → b ≠ X.env.locals := fun e => Nat.ne_of_lt (Nat.lt_of_lt_of_le (Heap.lt_size e) I.ok.above)
  refine ⟨I.ok, I.os, I.bare, ⟨fun b o e n hb hx => ?_, fun b o e n hb hx => ?_, I.base.free, fun b o e hx => ?_, I.base.tups, I.base.frzs, I.base.tbls⟩, ⟨m', hn', fun j y v' e1 e2 e3 => ?_⟩, fun y c e => ?_, I.free, I.freeC, fun p hp => ?_, fun b ob e => ?_, by rw [List.length_replicate]⟩
  · exact (hs.2 b (up e)).trans (I.base.keep b o e n hb hx)
  · obtain ⟨sl, e1⟩ := I.base.slot b o e n hb hx
    exact ⟨sl, (hs.2 b (up e)).trans e1⟩
  · obtain ⟨o', e1⟩ := I.base.there b o e hx
    exact ⟨o', (hs.2 b (up e)).trans e1⟩
  · rw [List.getElem?_replicate] at e2
    split at e2 <;> cases e2
  · obtain ⟨w', z⟩ := I.cell y c e
    exact ⟨w', z.sameBut hs (cne y c e)⟩
  · obtain ⟨a, b, c, d⟩ := I.pin p hp
    exact ⟨(hs.2 _ c).trans a, b, c, d⟩
  · refine (I.hok b ob e).stay (fun c w' hc q => (hs.2 c ?_).trans q) (fun _ q => q) fun _ _ q => q
    rintro rfl
    rcases hc with hc | hc
    · rw [← hc, I.free] at e; cases e
    · rw [I.free] at hc; cases hc
end
/-- an error of the class at C, as a thing that is told of -/
def ErrO (a C : Addr) : HO := .ext fun h => ∃ oe vs, h.get? a = some oe ∧ oe.cls = .ref C ∧ oe.dict = none ∧ oe.data = .fields vs ∧ vs[2]? = some Value.none
section
variable {X : Cx} {pins : List (Addr × Obj)} {σ : St} {H H' : Hp} {s s' : Shared} {a C : Addr}
/-- the body's state at an error that came out of a call; the error is told of -/
theorem Fly.caught (I : Inv X pins σ H s) (F : Fly X.prog X.w X.stack H s a C H' s') : Inv X pins σ (upd H' a (ErrO a C)) s' := by
  have un := F.un
  have hok := F.hok
  have hnew := F.new
  obtain ⟨B, t, w1, w2, hokB, fly⟩ := F.way
  obtain ⟨oe, vs, he, hc, hd, _⟩ := fly.1.first
  obtain ⟨oe', vs', he2, hn2, hd2, hx2⟩ := fly.2
  obtain rfl := Option.some.inj (he.symm.trans he2)
  obtain rfl := Data.fields.inj (hd.symm.trans hd2)
  have olds : ∀ b o, s.heap.get? b = some o → b ≠ a := fun b o q z => by
    by_cases hf : b ∈ frs X.stack
    · obtain ⟨_, o2, r2, nd⟩ := fly.1.2.2.1.mem hf
      rw [z, he] at r2
      cases r2
      exact nd vs hd
    · obtain ⟨o', r⟩ := w2 b o q hf
      rw [z, fly.1.2.1] at r
      cases r
  have hoke : HOk X.prog X.w (upd H' a (ErrO a C)) s'.heap := fun b o q => by
    by_cases hb : b = a
    · subst hb
      rw [upd_same] at q
      cases q
      exact ⟨⟨oe, vs, he, hc, hn2, hd, hx2⟩, ⟨oe, he⟩, fun h1 h2 ⟨o1, v1, p1, p2, p3⟩ k => ⟨o1, v1, k _ p1, p2, p3⟩⟩
    · rw [upd_ne hb] at q
      exact (hok b o q).stay (fun c v _ r => r) (fun c r => by rw [upd_ne (ne_of_none r hnew)]; exact r) fun c xs r => by rw [upd_ne (ne_of_none r hnew)]; exact r
  have unE : Un (frs X.stack) [] H (upd H' a (ErrO a C)) s.heap s'.heap := ⟨un.keep, un.slot, fun b o q n z => by rw [upd_ne (olds b o q)]; exact un.free b o q n z, un.there, fun b xs q => by rw [upd_ne (ne_of_none (un.tups b xs q) hnew)]; exact un.tups b xs q, fun b o u q => by rw [upd_ne (ne_of_none (un.frzs b o u q) hnew)]; exact un.frzs b o u q, fun b ps q => by
    obtain ⟨m1, r⟩ := un.tbls b ps q
    exact ⟨m1, by rw [upd_ne (ne_of_none r hnew)]; exact r⟩⟩
  exact I.call' F.os unE hoke F.bare (fun b z => absurd z (by simp))
end
end L2

/-! ### except D as n: a suite that returns -/
namespace L2
open PySem PySem.Spec PyProof.Rows
/-- the context of an except suite: the error at a is handled; none leaves it -/
abbrev Cx.hand (X : Cx) (a : Addr) : Cx := { X with A := X.A.mark (some (.ref a)), calm := false, xe := fun _ _ => False }
section
variable {X : Cx} {pins : List (Addr × Obj)} {σ : St} {H H' : Hp} {s s' : Shared} {a C D : Addr}
theorem Inv.hand (I : Inv X pins σ H s) (a : Addr) : Inv (X.hand a) pins σ H s :=
  ⟨⟨I.ok.mod, I.ok.kind, I.ok.glob, I.ok.blt, I.ok.above, I.ok.inj, I.ok.has, I.ok.cab, (fun h => nomatch h), I.ok.frames, I.ok.stk, I.ok.exf, I.ok.bs, I.ok.bsz, I.ok.noex, I.ok.exfs, I.ok.funs, I.ok.frf⟩, I.os, I.bare, I.base, I.loc, I.cell, I.free, I.freeC, I.pin, I.hok, I.len⟩
theorem Inv.unhand (ok : X.Ok) (I : Inv (X.hand a) pins σ H s) : Inv X pins σ H s := ⟨ok, I.os, I.bare, I.base, I.loc, I.cell, I.free, I.freeC, I.pin, I.hok, I.len⟩
theorem up_of {K : PySem.W.Frag} {h : Heap} {nm qn : Str} {N : Addr} {bs bm : List Value} {hd : Bool} {sn : List Str} {sub : List Value} {ab : Bool} {col : Option Bool} {dd : Option Addr} {k0 k1 k2 k3 k5 : Option Value} {newId : String} (X : K.In h)
    (hC : h.get? C = some (excClassObj nm qn C N bs bm hd sn sub ab col dd k0 k1 k2 k3 k5 newId)) (u : PySem.W.mroIn K C (.ref D) = some true) : (Value.ref C :: bm).contains (.ref D) = true := by
  obtain ⟨cd, a, b⟩ := Option.bind_eq_some_iff.mp u
  unfold PySem.W.clsIn at a
  split at a
  · rename_i lk
    cases a
    cases (X _ _ lk).symm.trans hC
    split at b
    · cases b
    · exact Option.some.inj b
  · cases a
/-- the heap has changed as it does on an error's way -/
theorem Fly.at {outer : List Env} {P : Program} {w : World} {h2 B : Heap} {t : Addr} (F : Fly P w outer H s a C H' s') (w1 : ∀ b o, s.heap.get? b = some o → H b = none → b ∉ frs outer → B.get? b = some o) (w2 : ∀ b o, s.heap.get? b = some o → b ∉ frs outer → ∃ o', B.get? b = some o') (hok : HOk P w H' B)
    (f1 : FlyX B outer a (.ref C) (.ref t) s'.heap) (f2 : FlyX B outer a (.ref C) (.ref t) h2) (sm : s'.heap.UpToSlots h2) : Fly P w outer H s a C H' { s' with heap := h2 } := by
  refine ⟨F.os, F.bare, ⟨B, t, w1, w2, hok, f2⟩, fun b o q z => ?_, F.free, F.tups, F.frzs, F.tbls⟩
  obtain ⟨sl, r⟩ := F.slot b o q z
  obtain ⟨_, o2, r2, nd⟩ := f1.1.2.2.1.mem z
  rw [r] at r2
  cases r2
  obtain ⟨sl2, r3⟩ := sm b _ r nd
  exact ⟨sl2, r3⟩
end
end L2

/-! ### try: .. except D as n: a suite that returns -/
namespace L2
open PySem PySem.Spec PyProof.Rows
/-- the context of a try's body -/
abbrev Cx.trial (X : Cx) (pins : List (Addr × Obj)) (E : Value → Shared → Prop) : Cx := { X with pn := X.pn ++ pins, xe := E }
section
variable {X : Cx} {pins pins' : List (Addr × Obj)} {σ : St} {H : Hp} {s : Shared} {E : Value → Shared → Prop}
theorem Cx.Ok.untrial (ok : (X.trial pins E).Ok) : X.Ok := ⟨ok.mod, ok.kind, ok.glob, ok.blt, ok.above, ok.inj, ok.has, ok.cab, ok.hd, ok.frames, ok.stk, ok.exf, ok.bs, ok.bsz, ok.noex, ok.exfs, ok.funs, ok.frf⟩
theorem Inv.trial (I : Inv X pins σ H s) (E : Value → Shared → Prop) : Inv (X.trial pins E) [] σ H s :=
  ⟨⟨I.ok.mod, I.ok.kind, I.ok.glob, I.ok.blt, I.ok.above, I.ok.inj, I.ok.has, I.ok.cab, I.ok.hd, I.ok.frames, I.ok.stk, I.ok.exf, I.ok.bs, I.ok.bsz, I.ok.noex, I.ok.exfs, I.ok.funs, I.ok.frf⟩, I.os, I.bare, I.base, I.loc, I.cell, I.free, I.freeC, fun p hp => I.pin p (by simpa using hp), I.hok, I.len⟩
theorem Inv.untrial (I : Inv (X.trial pins E) pins' σ H s) : Inv X pins σ H s :=
  ⟨I.ok.untrial, I.os, I.bare, I.base, I.loc, I.cell, I.free, I.freeC, fun p hp => I.pin p (List.mem_append_left _ hp), I.hok, I.len⟩
/-- nothing is known of the names -/
theorem Inv.blank (I : Inv X pins σ H s) : Inv X pins (List.replicate X.N.length none) H s :=
  ⟨I.ok, I.os, I.bare, I.base, let ⟨m, hn, _⟩ := I.loc; ⟨m, hn, fun j y v e1 e2 e3 => by rw [List.getElem?_replicate] at e2; split at e2 <;> cases e2⟩, I.cell, I.free, I.freeC, I.pin, I.hok, by rw [List.length_replicate]⟩
end
section
variable {X : Cx} {C D : Addr}
end
end L2

/-! ### except D as n: a suite that may go on behind the try, where no name is read -/
namespace L2
open PySem PySem.Spec PyProof.Rows
section
variable {X : Cx} {pins : List (Addr × Obj)} {σ : St} {H H' : Hp} {s s' : Shared} {a C D : Addr}
theorem caught_as2 {E : Value → Shared → Prop} {D0 : Ends} {d n : Str} {i : Nat} {b0 : Stmt} {suite : List Stmt} {ts : TS} {np pos : Pos} {bmC bmD : List Value} {idC idD : String} {rest : List ExceptHandler}
    (hstk : X.stack = X.env :: X.outer) (hfrm : X.env.frame = some X.env.locals) (I : Inv X pins σ H s) (F : Fly X.prog X.w X.stack H s a C H' s') (hgD : Gl X d) (hmD : X.mg d = some (.ref D)) (qC : PySem.W.excIn X.K C bmC idC = true) (qD : PySem.W.excIn X.K D bmD idD = true)
    (hbD : bmD.contains (.type "BaseException") = true) (hup : PySem.W.mroIn X.K C (.ref D) = some true) (hN : X.N.Nodup) (hi : X.N[i]? = some n) (hloc : X.env.scope.names.lookup n = some .local) (hs : PSs (X.hand a) (b0 :: suite) ts)
    (ht : ts { nx := fun _ H2 => D0.nx (List.replicate X.N.length none) H2, rt := D0.rt, bk := fun _ _ => False, ct := fun _ _ => False } (σ.set i (some (.ref a))) (upd H' a (ErrO a C))) (hdb : (d == ("__debug__" : Str)) = false := by decide) :
    wpAny (model X.prog X.w) X.A (noteFrame (.ref a) X.env) (fun _ s2 => wpAny (model X.prog X.w) X.A (setFlight (.ref a) none) (fun _ s3 => wpAny (model X.prog X.w) X.A (handleBy (.ref a) X.env (.ExceptHandler (some (.Name d np)) (some n) (b0 :: suite) pos :: rest)) (SP X pins D0) E s3) E s2) E s' := by
  obtain ⟨B, t, w1, w2, hokB, fly⟩ := F.way
  have fly' := fly
  rw [hstk] at fly'
  refine looks_onX (by rw [I.ok.frames, hstk]) hfrm fly' fun h5 fly5 sm5 => ?_
  have fly5' := fly5
  rw [← hstk] at fly5'
  have F5 := F.at w1 w2 hokB fly fly5' sm5
  have I5 := F5.inv I
  obtain ⟨oe, vs, he, hc, hd, _⟩ := fly5.1.first
  obtain ⟨bm, N, nm, qn, bs, hdct, sn, sub, ab, col, dd, k0, k1, k2, k3, k5, mN, hC, _, _, TC⟩ := exc_obj I.mod.kin qC
  obtain ⟨bm2, N2, nm2, qn2, bs2, hdct2, sn2, sub2, ab2, col2, dd2, j0, j1, j2, j3, j5, mN2, hD, _, _, TD⟩ := exc_obj I.mod.kin qD
  refine wpAny_handleBy_cons (codeAny_handlers_test (ld_glob (X := X.hand a) (I5.hand a) hgD hmD ?_ hdb)) (by intro q; cases q)
  refine excMatches_up (h := h5) (g := s'.gens) (d := s'.drawn) (t := s'.toks) (os := s'.os) (I5.bk _ _ hC) (I5.bk _ _ hD) he hc (TD.hasType hbD) (up_of I.mod.kin hC hup) ?_
  refine codeAny_handlers_suite_as ?_
  refine lands_onX fly5 fun h6 fly6 sm6 => ?_
  have fly6' := fly6
  rw [← hstk] at fly6'
  have F6 := F.at w1 w2 hokB fly fly6' (sm5.trans sm6)
  have I6 := F6.caught I
  refine store_ok (X := X.hand a) (I6.hand a) hN hi (.inl hloc) (show RelV (.ref a) (.ref a) from rfl) (fun s7 I7 => ?_) (.inr hloc)
  refine wpAny_mono (hs pins s7 _ _ _ I7 ht) (fun f s8 h8 => ?_) fun _ _ z => False.elim z
  cases f with
  | ret u =>
    obtain ⟨v, σ', H2, I8, r, q⟩ := h8
    have J := I8.unhand I.ok
    obtain ⟨m, hn, _⟩ := id J.loc
    exact wpAny_nameGoes hloc hn (by rw [I.ok.kind]; rfl) fun h' m' hn' hs' => ⟨v, _, H2, J.forget hn' hs', r, q⟩
  | next =>
    obtain ⟨σ', H2, I8, q⟩ := h8
    have J := I8.unhand I.ok
    obtain ⟨m, hn, _⟩ := id J.loc
    exact wpAny_nameGoes hloc hn (by rw [I.ok.kind]; rfl) fun h' m' hn' hs' => ⟨_, H2, J.forget hn' hs', q⟩
  | brk => obtain ⟨_, _, _, q⟩ := h8; exact q.elim
  | cont => obtain ⟨_, _, _, q⟩ := h8; exact q.elim
end
/-- what is wanted of an error in a try's body: that the suite's reading holds, of an error of the class at C -/
def wishTry2 (X : Cx) (C : Addr) (i : Nat) (ts : Addr → TS) (D0 : Ends) : XK := fun e Co H' => Co = some C ∧ ∀ a, e = .ref a → H' a = none → ts a { nx := fun _ H2 => D0.nx (List.replicate X.N.length none) H2, rt := D0.rt, bk := fun _ _ => False, ct := fun _ _ => False } ((List.replicate X.N.length none).set i (some (.ref a))) (upd H' a (ErrO a C))
section
variable {X : Cx} {C D : Addr}
theorem ps_try2 {d n : Str} {i : Nat} {b1 b0 : Stmt} {body suite : List Stmt} {tb : XK → TS} {ts : Addr → TS} {np hpos pos : Pos} {bmC bmD : List Value} {idC idD : String}
    (hstk : X.stack = X.env :: X.outer) (hfrm : X.env.frame = some X.env.locals) (hgD : Gl X d) (hmD : X.mg d = some (.ref D)) (qC : PySem.W.excIn X.K C bmC idC = true) (qD : PySem.W.excIn X.K D bmD idD = true)
    (hbD : bmD.contains (.type "BaseException") = true) (hup : PySem.W.mroIn X.K C (.ref D) = some true) (hN : X.N.Nodup) (hi : X.N[i]? = some n) (hloc : X.env.scope.names.lookup n = some .local) (hs : ∀ a, PSs (X.hand a) (b0 :: suite) (ts a))
    (hb : ∀ pins E Ew, Passes (CXE X.prog X.w) (X.trial pins E) Ew → PSs (X.trial pins E) (b1 :: body) (tb Ew)) (hdb : (d == ("__debug__" : Str)) = false := by decide) :
    PS X (.Try (b1 :: body) [.ExceptHandler (some (.Name d np)) (some n) (b0 :: suite) hpos] [] [] pos) (fun D0 σ H => tb (wishTry2 X C i ts D0) D0 σ H) := by
  intro pins s σ H D0 I h
  refine wpAny_Try_except (wpAny_mono (hb pins (fun e s₁ => wpAny (model X.prog X.w) X.A (noteFrame e X.env) (fun _ s₂ => wpAny (model X.prog X.w) X.A (setFlight e none) (fun _ s₃ => wpAny (model X.prog X.w) X.A (handleBy e X.env [.ExceptHandler (some (.Name d np)) (some n) (b0 :: suite) hpos]) (SP X pins D0) X.xe s₃) X.xe s₂) X.xe s₁) _ ?_ [] s σ H D0 (I.trial _) h) (fun f s1 h1 => ?_) fun e s1 h1 => h1)
  · intro pins' σ' H1 s1 e s' I1 hx
    obtain ⟨a, C', H', rfl, F, hC', hw⟩ := hx
    cases hC'
    exact caught_as2 hstk hfrm I1.untrial.blank F hgD hmD qC qD hbD hup hN hi hloc (hs a) (hw a rfl F.new) hdb
  · cases f with
    | next =>
      obtain ⟨σ', H', J, q⟩ := h1
      exact wpAny_pure ⟨σ', H', J.untrial, q⟩
    | brk => obtain ⟨σ', H', J, q⟩ := h1; exact ⟨σ', H', J.untrial, q⟩
    | cont => obtain ⟨σ', H', J, q⟩ := h1; exact ⟨σ', H', J.untrial, q⟩
    | ret u => obtain ⟨v, σ', H', J, r, q⟩ := h1; exact ⟨v, σ', H', J.untrial, r, q⟩
end
end L2

/-! ### the table of a set that only grew: its places rise -/
namespace SetQ
open PySem
/-- the table of a set from which nothing went -/
structure Good (L : Bool) (t : SetTable) : Prop where
  rise : t.place.toList.Pairwise (· < ·)

section
variable {prog : Program} {w : World} {A : Around} {E : Value → Shared → Prop} {s : Shared}
def addK (ks : List Int) (k : Int) : List Int := if ks.any (· == k) then ks else ks ++ [k]
/-- what a set of whole numbers is, from which nothing went: its elements are ks, in the table's order -/
structure Row (w : World) (es : Array (Int × Value)) (t : SetTable) (ks : List Int) : Prop where
  few : es.size < scanBound
  fits : t.fits es.size = true
  good : Good (!w.params.followText "set-order") t
/-- what is asked of a set's table alone -/
structure RowG (w : World) (es : Array (Int × Value)) (t : SetTable) : Prop where
  few : es.size < scanBound
  fits : t.fits es.size = true
  good : Good (!w.params.followText "set-order") t
theorem Row.g {w : World} {es : Array (Int × Value)} {t : SetTable} {ks : List Int} (r : Row w es t ks) : RowG w es t := ⟨r.few, r.fits, r.good⟩
def SetZ (w : World) (h : Heap) (a : Addr) (ks : List Int) : Prop := ∃ o es ep t, h.get? a = some o ∧ o.ExactSet ∧ o.data = .set es ep t ∧ Row w es t ks
theorem put_get {h : Heap} {a : Addr} {o : Obj} {es : Array (Int × Value)} {ep : Nat} {t : SetTable} (ho : h.get? a = some o) (hd : o.data = .set es ep t) (es' : Array (Int × Value)) (t' : SetTable) :
    (h.update a (Obj.putSet es' t')).get? a = some { o with data := .set es' (ep + 1) t' } := by
  have z := Heap.get?_update_self (Obj.putSet es' t') ho (by rw [putSet_of es' t' hd]; rfl)
  rwa [putSet_of es' t' hd] at z
theorem SetZ.put {h : Heap} {a : Addr} {o : Obj} {es : Array (Int × Value)} {ep : Nat} {t : SetTable} (ho : h.get? a = some o) (hex : o.ExactSet) (hd : o.data = .set es ep t) {es' : Array (Int × Value)} {t' : SetTable} {ks : List Int} (r : Row w es' t' ks) :
    SetZ w (h.update a (Obj.putSet es' t')) a ks := ⟨_, es', ep + 1, t', put_get ho hd es' t', hex, rfl, r⟩
end

def dd (val : Nat → Int) (i : Nat) : List Int := ((List.range i).map val).foldl addK []
section
open PySem.Spec PyProof.Rows
variable {prog : Program} {w : World} {A : Around} {R : Result → Shared → Prop} {J : Addr} {fp wr : List Addr} {G : Array GenState → Array GenState → Prop} {n : Nat} {P : Nat → Value → Prop} {St : Nat → Shared → Prop}
end
section
variable {prog : Program} {w : World} {A : Around} {E : Value → Shared → Prop} {s : Shared}

end
end SetQ

/-! ### walking over a set of whole numbers -/
namespace SetQ
open PySem
section
variable {prog : Program} {w : World} {A : Around} {E : Value → Shared → Prop}
end

section
variable {prog : Program} {w : World} {A : Around} {E : Value → Shared → Prop} {s : Shared} {S J T : Addr} {es : Array (Int × Value)} {ep i : Nat} {t : SetTable} {ys : List (Int × Value)} {ks : List Int} {o : Obj} {first : Value}

end
end SetQ

namespace L2
open PySem PySem.Spec PyProof.Rows

/-! ### forms of comprehensions that one uses: one name as the target, in slot 0 -/
/-- behind a turn: the list stands at D -/
def CN (σ0 : St) (D : Addr) (Pv : Nat → List V → Hp → Prop) (i : Nat) : St → Hp → Prop := fun σ H => (∃ v, σ = σ0.set 0 v) ∧ ∃ ys, H D = some (.lst ys) ∧ Pv i ys H
/-- the element's end -/
def CE1 (σ0 : St) (D : Addr) (Pv : Nat → List V → Hp → Prop) (i : Nat) (σ : St) : VK := fun y H => ∃ ys, H D = some (.lst ys) ∧ ys.length < sizeLine ∧ CN σ0 D Pv i σ (upd H D (.lst (ys ++ [y])))
theorem CE1.mk {σ0 : St} {D : Addr} {Pv : Nat → List V → Hp → Prop} {i : Nat} {v : Option V} {y : V} {H : Hp} {ys : List V} (hD : H D = some (.lst ys)) (hl : ys.length < sizeLine) (h : Pv i (ys ++ [y]) (upd H D (.lst (ys ++ [y])))) : CE1 σ0 D Pv i (σ0.set 0 v) y H :=
  ⟨ys, hD, hl, ⟨v, rfl⟩, _, upd_same, h⟩
theorem CN.mk {σ0 : St} {D : Addr} {Pv : Nat → List V → Hp → Prop} {i : Nat} {v : Option V} {H : Hp} {ys : List V} (hD : H D = some (.lst ys)) (h : Pv i ys H) : CN σ0 D Pv i (σ0.set 0 v) H := ⟨⟨v, rfl⟩, ys, hD, h⟩
theorem comp_list {K : PySem.W.Frag} {a D : Addr} {xs : List V} {tt : TT} {te : TE} {σ0 : St} {H1 : Hp} {Q : VK} (Pv : Nat → List V → Hp → Prop) (h0 : Pv 0 [] (upd H1 D (.lst [])))
    (hl : ∀ i ys H, i ≤ xs.length → Pv i ys H → SqL K H a xs)
    (hs : ∀ i x ys H, xs[i]? = some x → Pv i ys H → H D = some (.lst ys) → tt (σ0.set 0 (some x)) H fun b H4 => if b = true then te (σ0.set 0 (some x)) H4 (CE1 σ0 D Pv (i + 1) (σ0.set 0 (some x))) else CN σ0 D Pv (i + 1) (σ0.set 0 (some x)) H4)
    (hd : ∀ ys H, Pv xs.length ys H → H D = some (.lst ys) → Q (.ref D) H) :
    CompRun (Itl K a) (gName 0) tt te Q σ0 H1 D := by
  refine ⟨fun i m σ H => m = xs.length - i ∧ i ≤ xs.length ∧ (σ = σ0 ∨ ∃ v, σ = σ0.set 0 v) ∧ ∃ ys, H D = some (.lst ys) ∧ Pv i ys H, ⟨xs.length, by simp, Nat.zero_le _, .inl rfl, [], upd_same, h0⟩, ?_⟩
  rintro i m σ H ⟨rfl, hi, hσ, ys, hD, p⟩
  have q := hl i ys H hi p
  by_cases hlt : i < xs.length
  · refine .inr ⟨⟨xs, xs[i], q, by simp [hlt]⟩, CN σ0 D Pv (i + 1), fun σ' H' ⟨a1, a2⟩ => ⟨xs.length - (i + 1), by omega, rfl, hlt, .inr a1, a2⟩, fun x H' y => ?_⟩
    obtain ⟨e, y⟩ := y
    subst e
    have hx := y xs q
    have eσ : σ.set 0 (some x) = σ0.set 0 (some x) := by
      rcases hσ with rfl | ⟨v, rfl⟩
      · rfl
      · rw [List.set_set]
    show tt (σ.set 0 (some x)) _ _
    rw [eσ]
    exact hs i x ys _ hx p hD
  · have e : i = xs.length := by omega
    subst e
    exact .inl ⟨⟨xs, q, Nat.le_refl _⟩, hd ys H p hD⟩
theorem comp_range {D : Addr} {lo : Int} {n : Nat} {tt : TT} {te : TE} {σ0 : St} {H1 : Hp} {Q : VK} (Pv : Nat → List V → Hp → Prop) (h0 : Pv 0 [] (upd H1 D (.lst [])))
    (hs : ∀ i ys H, i < n → Pv i ys H → H D = some (.lst ys) → tt (σ0.set 0 (some (.int (lo + i)))) H fun b H4 => if b = true then te (σ0.set 0 (some (.int (lo + i)))) H4 (CE1 σ0 D Pv (i + 1) (σ0.set 0 (some (.int (lo + i))))) else CN σ0 D Pv (i + 1) (σ0.set 0 (some (.int (lo + i)))) H4)
    (hd : ∀ ys H, Pv n ys H → H D = some (.lst ys) → Q (.ref D) H) :
    CompRun (Itr lo n) (gName 0) tt te Q σ0 H1 D := by
  refine ⟨fun i m σ H => m = n - i ∧ i ≤ n ∧ (σ = σ0 ∨ ∃ v, σ = σ0.set 0 v) ∧ ∃ ys, H D = some (.lst ys) ∧ Pv i ys H, ⟨n, by simp, Nat.zero_le _, .inl rfl, [], upd_same, h0⟩, ?_⟩
  rintro i m σ H ⟨rfl, hi, hσ, ys, hD, p⟩
  by_cases hlt : i < n
  · refine .inr ⟨hlt, CN σ0 D Pv (i + 1), fun σ' H' ⟨a1, a2⟩ => ⟨n - (i + 1), by omega, rfl, hlt, .inr a1, a2⟩, fun x H' y => ?_⟩
    obtain ⟨e, y⟩ := y
    subst e y
    have eσ : σ.set 0 (some (.int (lo + i))) = σ0.set 0 (some (.int (lo + i))) := by
      rcases hσ with rfl | ⟨v, rfl⟩
      · rfl
      · rw [List.set_set]
    show tt (σ.set 0 (some (.int (lo + i)))) _ _
    rw [eσ]
    exact hs i ys _ hlt p hD
  · have e : i = n := by omega
    subst e
    exact .inl ⟨Nat.le_refl _, hd ys H p hD⟩

theorem yes_mk {σ : St} {H : Hp} {A B : Hp → Prop} (h : A H) : tYes σ H (fun b H4 => if b = true then A H4 else B H4) := by
  show (if true = true then A H else B H)
  rw [if_pos rfl]; exact h

/-! ### all, any, isinstance -/
section
variable {X : Cx}
theorem range_all : ∀ (bs : List Bool), (List.range bs.length).all (fun i => (bs[i]?).getD true) = bs.all id := by
  intro bs
  rw [Bool.eq_iff_iff, List.all_eq_true, List.all_eq_true]
  constructor
  · intro h b hb
    obtain ⟨i, hi, e⟩ := List.mem_iff_getElem.mp hb
    have := h i (List.mem_range.mpr hi)
    rw [List.getElem?_eq_getElem hi, e] at this
    exact this
  · intro h i hi
    have hi := List.mem_range.mp hi
    rw [List.getElem?_eq_getElem hi]
    exact h _ (List.getElem_mem hi)
theorem range_any : ∀ (bs : List Bool), (List.range bs.length).any (fun i => (bs[i]?).getD false) = bs.any id := by
  intro bs
  rw [Bool.eq_iff_iff, List.any_eq_true, List.any_eq_true]
  constructor
  · rintro ⟨i, hi, e⟩
    have hi := List.mem_range.mp hi
    rw [List.getElem?_eq_getElem hi] at e
    exact ⟨_, List.getElem_mem hi, e⟩
  · rintro ⟨b, hb, e⟩
    obtain ⟨i, hi, e2⟩ := List.mem_iff_getElem.mp hb
    refine ⟨i, List.mem_range.mpr hi, ?_⟩
    rw [List.getElem?_eq_getElem hi, e2]
    exact e
theorem vals_bl {bs : List Bool} {its : List Value} (r : Vals (bs.map V.bl) its) {i : Nat} {v : Value} (h : its[i]? = some v) : ∃ b, bs[i]? = some b ∧ v = .bool b := by
  have hl := r.length
  rw [List.length_map] at hl
  have hi : i < bs.length := by
    have := (List.getElem?_eq_some_iff.mp h).1
    omega
  have e : (bs.map V.bl)[i]? = some (.bl bs[i]) := by rw [List.getElem?_map, List.getElem?_eq_getElem hi]; rfl
  obtain ⟨u, h1, h2⟩ := r.get e
  rw [h] at h1
  have e2 : v = u := Option.some.inj h1
  subst e2
  exact ⟨bs[i], List.getElem?_eq_getElem hi, h2⟩
theorem call_all (hc : X.calm = true) : CallR X (.builtin "all") (fun xs H Q => ∃ (p : Addr) (bs : List Bool), xs = [.ref p] ∧ SqL X.K H p (bs.map V.bl) ∧ Q (.bl (bs.all id)) H) := by
  intro pins s σ H xs us Q I r h
  obtain ⟨p, bs, rfl, hq, q⟩ := h
  obtain ⟨u, rfl, rx⟩ := vals1 r
  cases rx
  obtain ⟨its, rv, pl, hz⟩ := I.list hq
  have hl := pl.isList
  have hlt : p < s.heap.objs.size := by obtain ⟨_, e, _⟩ := hl; exact Heap.lt_size e
  have hlen := rv.length
  rw [List.length_map] at hlen
  refine call_all_walk (wpAny_pyIter_list hl ?_)
  refine ⟨s.heap.objs.size, _, _, _, _, _, fun i => (bs[i]?).getD true, rfl, Walks.list (A := X.A.in1) (show X.A.handled = none from I.ok.hd hc) s.heap.objs.size p (Nat.ne_of_lt hlt) its.toArray, ⟨⟨_, Heap.get?_push_size _ rfl, rfl, rfl⟩, hl.push _⟩, ?_, ?_⟩
  · intro i v s' Q' E' hP hQ
    have hP' : its[i]? = some v := by simpa using hP
    obtain ⟨b, e, rfl⟩ := vals_bl rv hP'
    dsimp only at hQ
    rw [e] at hQ
    exact wpAny_truthy_bool hQ
  · intro h' tk hk
    have I1 : Inv X pins σ H { s with heap := s.heap.push { cls := .type "list_iterator", data := .fields #[.ref p, .int 0 0] } } := I.kept (t' := s.toks) fun b o e => Heap.get?_push_of_some _ e
    have fo := I.fpOk (b := s.heap.objs.size) (Nat.le_refl _) (I.hok.fresh (Nat.le_refl _))
    obtain ⟨f0, f1, f2, f3, f4, f5⟩ := fo
    refine ⟨.bl (bs.all id), H, I1.turned (t' := tk) (it := s.heap.objs.size) (fun b o hb e => hk b o (by simpa using hb) e) f0 f1 f3 f4 f5, ?_, q⟩
    show Value.bool _ = Value.bool _
    rw [List.size_toArray, ← hlen, range_all]
/-- isinstance(x, T), T a built-in type by name -/
def rIsi (K : PySem.W.Frag) : List V → Hp → VK → Prop := fun xs H Q => ∃ x t n b, xs = [x, .ty n] ∧ TyOf K H x t ∧ PySem.W.kitOne K t (.type n) = some b ∧ Q (.bl b) H
theorem call_isinst : CallR X (.builtin "isinstance") (rIsi X.K) := by
  intro pins s σ H xs us Q I r h
  obtain ⟨x, t, n, b, rfl, ty, e, q⟩ := h
  obtain ⟨u, c, rfl, rx, rc⟩ := vals2 r
  obtain rfl : c = Value.type n := rc
  exact isinst_ok I rx ty e fun tk => ⟨.bl b, H, I.tok tk, rfl, q⟩
end

/-! ### the rules that speak of the written part, by its name -/
section
variable {X : Cx} {a b o e l : Expr} {es : List Expr} {ta tl : TE} {t : TA} {pos apos cpos : Pos} {f : Str}
theorem ix_tupK (K : PySem.W.Frag) (h : X.K = K := by rfl) : IxR X (rIxT K) := by subst h; exact ix_tup
theorem ix_listK (K : PySem.W.Frag) (h : X.K = K := by rfl) : IxR X (rIxL K) := by subst h; exact ix_list
theorem call_isinstK (K : PySem.W.Frag) (h : X.K = K := by rfl) : CallR X (.builtin "isinstance") (rIsi K) := by subst h; exact call_isinst
def rLen (K : PySem.W.Frag) : List V → Hp → VK → Prop := fun xs H Q => ∃ p ys, xs = [.ref p] ∧ (SqL K H p ys ∨ SqT K H p ys) ∧ Q (.int ys.length) H
theorem call_lenK (K : PySem.W.Frag) (h : X.K = K := by rfl) : CallR X (.builtin "len") (rLen K) := by subst h; exact call_len_seq
def rList (K : PySem.W.Frag) : List V → Hp → VK → Prop := fun xs H Q => ∃ p ys, xs = [.ref p] ∧ (SqL K H p ys ∨ SqT K H p ys) ∧ ∀ l, H l = none → Q (.ref l) (upd H l (.lst ys))
theorem call_listK (K : PySem.W.Frag) (h : X.K = K := by rfl) : CallR X (.type "list") (rList K) := by subst h; exact call_list_of
def rAll (K : PySem.W.Frag) : List V → Hp → VK → Prop := fun xs H Q => ∃ (p : Addr) (bs : List Bool), xs = [.ref p] ∧ SqL K H p (bs.map V.bl) ∧ Q (.bl (bs.all id)) H
theorem call_allK (K : PySem.W.Frag) (hc : X.calm = true) (h : X.K = K := by rfl) : CallR X (.builtin "all") (rAll K) := by subst h; exact call_all hc
theorem op_notInK (K : PySem.W.Frag) (h : X.K = K := by rfl) : OpR X (compareOp .NotIn) (rIn K true) := by subst h; exact op_notIn_seq
theorem pi_listK (K : PySem.W.Frag) {tg : Expr} (hl : PE X l tl) (h : X.K = K := by rfl) : PI X tg l (iList K tl) := by subst h; exact pi_list hl
theorem pg_tupK (K : PySem.W.Frag) {ts : List Expr} {k : Nat} {t : TGs} {n : Nat} (hc : X.calm = true) (hg : PGs X ts t) (h : X.K = K := by rfl)
    (hn : (assignEach ts X.env).length = n := by rfl) (hst : (assignEach ts X.env).findIdx? (·.1) = none := by rfl) : PG X (.Tuple ts k pos) (gTup K n t) := by subst h; exact pg_tup hc hg hn hst
theorem pe_fldK (K : PySem.W.Frag) (he : PE X e ta) (h : X.K = K := by rfl) (hb : attributeBase e f X.env (eval e X.env) = eval e X.env := by rfl) : PE X (.Attribute e f pos) (tFld K ta f) := by subst h; exact pe_fld he hb
theorem ps_fldK (K : PySem.W.Frag) {value : Expr} {tv : TE} {pos' : Pos} (ha : PE X o ta) (hv : PE X value tv) (h : X.K = K := by rfl) (hs : swapsWith value (some (.Attribute o f pos')) pos.line X.env = pure false := by rfl) : PS X (.Assign [.Attribute o f pos'] value pos) (sFld K ta tv f) := by subst h; exact ps_fld ha hv hs
theorem pe_appendK (K : PySem.W.Frag) {to : TE} (ho : PE X o to) (ha : PA X [e] t) (h : X.K = K := by rfl) (hbase : attributeBase o "append" X.env (eval o X.env) = eval o X.env := by rfl)
    (hfew : ((backTo cpos (starEach [e] X.env)).all (fun x => !x.1) && (backToKw cpos (keywordEach [] X.env)).all (fun x => x.1.isSome)
      && decide ([e].length + ([] : List Keyword).length + (if ([] : List Keyword).isEmpty then 0 else 1) < 30)) = true := by rfl)
    (hline : (apos.endLine == cpos.line) = true := by rfl) (hs : starEach [e] X.env = (false, eval e X.env) :: starEach [] X.env := by rfl) (hplain : (backTo cpos (starEach [] X.env)).any (·.1) = false := by rfl) :
    PE X (.Call (.Attribute o "append" apos) [e] [] cpos) (tBM K "list" rAppend to t) := by subst h; exact pe_bm PySem.F.plainAttrs_list PySem.F.slot_list_append PySem.F.type_list_append mt_append ho ha hbase hfew hline hs hplain
theorem pt_truthK (K : PySem.W.Frag) (ha : PE X a ta) (h : X.K = K := by rfl) (he : ∀ whole, isTrue a X.env whole = (do let v ← whole; standAt a.pos; holding [v] (truthy v)) := by intro _; rfl) :
    PT X a (fun σ H Q => ta σ H fun x H' => ∃ k, TruV K x H' k ∧ Q k H') := by subst h; exact pt_truth ha he
end

/-! ### data in the heap, == and != at any depth -/
mutual
inductive Dt (H : Hp) : V → PyData → Prop
  | non : Dt H .non .none
  | bl (b : Bool) : Dt H (.bl b) (.bool b)
  | int (i : Int) : Dt H (.int i) (.int i)
  | str (x : Str) : Dt H (.str x) (.str x)
  | lst {a : Addr} {xs : List V} {ds : List PyData} : H a = some (.lst xs) → Dts H xs ds → Dt H (.ref a) (.list ds)
  | tup {a : Addr} {xs : List V} {ds : List PyData} : H a = some (.tup xs) → Dts H xs ds → Dt H (.ref a) (.tuple ds)
inductive Dts (H : Hp) : List V → List PyData → Prop
  | nil : Dts H [] []
  | cons {x : V} {xs : List V} {d : PyData} {ds : List PyData} : Dt H x d → Dts H xs ds → Dts H (x :: xs) (d :: ds)
end
mutual
theorem Dt.same {H H' : Hp} (e : Same H H') : ∀ {v : V} {d : PyData}, Dt H v d → Dt H' v d
  | _, _, .non => .non
  | _, _, .bl b => .bl b
  | _, _, .int i => .int i
  | _, _, .str x => .str x
  | _, _, .lst h ds => .lst (e _ _ h) (Dts.same e ds)
  | _, _, .tup h ds => .tup (e _ _ h) (Dts.same e ds)
theorem Dts.same {H H' : Hp} (e : Same H H') : ∀ {vs : List V} {ds : List PyData}, Dts H vs ds → Dts H' vs ds
  | _, _, .nil => .nil
  | _, _, .cons h t => .cons (Dt.same e h) (Dts.same e t)
end
mutual
theorem Dt.reads {P : Program} {w : World} {H : Hp} {h : Heap} (ok : HOk P w H h) : ∀ {v : V} {d : PyData} {u : Value}, Dt H v d → RelV v u → ∃ as, Reads h u d as
  | _, _, u, .non, r => by cases (show u = Value.none from r); exact ⟨_, .none⟩
  | _, _, u, .bl b, r => by cases (show u = Value.bool b from r); exact ⟨_, .bool b⟩
  | _, _, u, .int i, r => by obtain ⟨t, rfl⟩ := (show ∃ t, u = Value.int i t from r); exact ⟨_, .int i t⟩
  | _, _, u, .str x, r => by obtain ⟨t, rfl⟩ := (show ∃ t, u = Value.str x t from r); exact ⟨_, .str x t⟩
  | _, _, u, .lst (a := a) (xs := xs) e ds, r => by
    cases (show u = Value.ref a from r)
    obtain ⟨_, its, n, rv, e1⟩ := (show ObjOk P w H h a (.lst xs) from ok a _ e)
    obtain ⟨as, ra⟩ := Dts.reads ok ds rv
    exact ⟨_, .list e1 rfl rfl (by simpa using ra)⟩
  | _, _, u, .tup (a := a) (xs := xs) e ds, r => by
    cases (show u = Value.ref a from r)
    obtain ⟨_, its, rv, ob, e1, hc, n, hd⟩ := (show ObjOk P w H h a (.tup xs) from ok a _ e)
    obtain ⟨as, ra⟩ := Dts.reads ok ds rv
    exact ⟨_, .tuple e1 hc hd (by simpa using ra)⟩
theorem Dts.reads {P : Program} {w : World} {H : Hp} {h : Heap} (ok : HOk P w H h) : ∀ {vs : List V} {ds : List PyData} {us : List Value}, Dts H vs ds → Vals vs us → ∃ as, ReadsAll h us ds as
  | _, _, us, .nil, r => by cases r; exact ⟨_, .nil⟩
  | _, _, us, .cons hd tl, r => by
    cases r with
    | cons r1 r2 =>
      obtain ⟨as, ra⟩ := Dt.reads ok hd r1
      obtain ⟨bs, rb⟩ := Dts.reads ok tl r2
      exact ⟨_, .cons ra rb⟩
end
def rEqD (neg : Bool) : R2 := fun x y H Q => ∃ da db, Dt H x da ∧ Dt H y db ∧ da.canLay0 = true ∧ db.canLay0 = true ∧ da.depth ≤ 60 ∧ Q (.bl (if neg = true then !PyData.eqv da db else PyData.eqv da db)) H
section
variable {X : Cx}
theorem op_neD (hu : X.A.units + 64 < cLine) : OpR X (compareOp .NotEq) (rEqD true) := by
  intro pins s σ H x y v u Q I rx ry h
  obtain ⟨da, db, d1, d2, c1, c2, hd, q⟩ := h
  obtain ⟨as, ra⟩ := d1.reads I.hok rx
  obtain ⟨bs, rb⟩ := d2.reads I.hok ry
  exact SeqAt.compareNe_reads ra rb c1 c2 (by have : min da.depth db.depth ≤ da.depth := Nat.min_le_left _ _; omega) ⟨.bl _, H, I, rfl, q⟩
end
end L2

namespace L2
open PySem PySem.Spec PyProof.Rows

/-! ### enumerate, zip: each turn a new pair -/
/-- the records at ch turn, a tuple is laid -/
theorem Inv.yields {X : Cx} {pins : List (Addr × Obj)} {σ : St} {H : Hp} {s : Shared} {h' : Heap} {ch : List Addr} {T : Addr} {xs : List V} {t' : Nat} (I : Inv X pins σ H s) (hch : ∀ b ∈ ch, FpOk X pins H b)
    (kp : ∀ b o, b ∉ ch → s.heap.get? b = some o → h'.get? b = some o) (hT : s.heap.objs.size ≤ T) (hz : xs.length ≤ sizeLine) (new : ∃ its : List Value, Vals xs its ∧ IsTup h' T its.toArray) (hrec : ∀ b ∈ ch, ∃ o, h'.get? b = some o) :
    Inv X pins σ (upd H T (.tup xs)) { s with heap := h', toks := t' } := by
  have hf : H T = none := I.hok.fresh hT
  have neT : ∀ b o, s.heap.get? b = some o → b ≠ T := fun b o e => Nat.ne_of_lt (Nat.lt_of_lt_of_le (Heap.lt_size e) hT)
  have nch : ∀ b u, H b = some u → b ∉ ch := fun b u e z => by rw [(hch b z).1] at e; cases e
  refine I.step (g' := s.gens) (d' := s.drawn) (ch := ch) (fun b hb => ?_) (fun b o _ _ hc e _ => kp b o hc e) (fun b o _ _ hc e _ => ⟨o.slots, kp b o hc e⟩) (fun b o hc e n => by rw [upd_ne (neT b o e)]; exact n)
    (fun b o hc e => ⟨o, kp b o hc e⟩) (fun b ys e => by rw [upd_ne (ne_of_none e hf)]; exact e) (fun b o u e => by rw [upd_ne (ne_of_none e hf)]; exact e) (fun b ps e => ⟨#[], by rw [upd_ne (ne_of_none e hf), e]; simp⟩) (fun m hm => ?_) (fun b u e => ?_) I.bare
  · obtain ⟨_, f1, _, f3, f4, f5⟩ := hch b hb
    exact ⟨f3, f1, f4, f5⟩
  · obtain ⟨o, es, ep, ho, r⟩ := hm
    exact ⟨o, es, ep, kp _ o (fun z => (hch _ z).2.1 rfl) ho, r⟩
  · by_cases hb : b = T
    · subst hb
      rw [upd_same] at e
      cases e
      obtain ⟨its, rv, p⟩ := new
      exact ⟨hz, its, rv, p⟩
    · rw [upd_ne hb] at e
      refine (I.hok b u e).stay (fun c v hc q => kp c v ?_ q) (fun c q => by rw [upd_ne (ne_of_none q hf)]; exact q) fun c ys q => by rw [upd_ne (ne_of_none q hf)]; exact q
      rcases hc with rfl | hc
      · exact nch c u e
      · exact nch c _ hc
section
variable {X : Cx}
end
section
variable {X : Cx}
end
end L2

/-! ### sorted(set(a list of whole numbers)) -/
namespace SetQ
open PySem PySem.Spec PyProof.Rows
section
variable {prog : Program} {w : World} {A : Around} {E : Value → Shared → Prop} {s : Shared} {S J T : Addr} {es : Array (Int × Value)} {ep i : Nat} {t : SetTable} {ys : List (Int × Value)} {ks : List Int} {o : Obj} {first : Value}

end

end SetQ
namespace L2
open PySem PySem.Spec PyProof.Rows
section
variable {X : Cx}
end
end L2

namespace L2
open PySem PySem.Spec PyProof.Rows

/-! ### lists of pairs as tables -/
section
variable {κ : Type} [DecidableEq κ]
def valV (kvs : List (κ × V)) (k : κ) : Option V := (kvs.find? fun kv => decide (kv.1 = k)).map (·.2)
/-- in its place, or at the end -/
def putK (kvs : List (κ × V)) (k : κ) (v : V) : List (κ × V) :=
  if (kvs.any fun kv => decide (kv.1 = k)) = true then kvs.map (fun kv => if kv.1 = k then (kv.1, v) else kv) else kvs ++ [(k, v)]
def dropK (kvs : List (κ × V)) (k : κ) : List (κ × V) := kvs.filter fun kv => decide (kv.1 ≠ k)

theorem valV_pos {p : κ × V} {r : List (κ × V)} {k : κ} (e : p.1 = k) : valV (p :: r) k = some p.2 := by simp [valV, List.find?_cons, e]
theorem valV_neg {p : κ × V} {r : List (κ × V)} {k : κ} (e : ¬ p.1 = k) : valV (p :: r) k = valV r k := by simp [valV, List.find?_cons, e]
theorem valV_any (k : κ) : ∀ kvs : List (κ × V), (kvs.any fun kv => decide (kv.1 = k)) = (valV kvs k).isSome
  | [] => rfl
  | p :: r => by
    rw [List.any_cons]
    by_cases e : p.1 = k
    · simp only [valV_pos e, decide_eq_true e, Bool.true_or, Option.isSome_some]
    · rw [valV_neg e, decide_eq_false e, Bool.false_or]; exact valV_any k r
theorem length_putK (kvs : List (κ × V)) (k : κ) (v : V) : (putK kvs k v).length ≤ kvs.length + 1 := by
  unfold putK
  split
  · rw [List.length_map]; omega
  · rw [List.length_append, List.length_cons, List.length_nil]; omega

theorem RelO.isSome_eq {o : Option V} {u : Option Value} (r : RelO o u) : o.isSome = u.isSome := by
  cases o with
  | none => cases u with
    | none => rfl
    | some _ => exact (show False from r).elim
  | some _ => cases u with
    | none => exact (show False from r).elim
    | some _ => rfl
theorem RelO.getD {o : Option V} {u : Option Value} {d : V} {d' : Value} (r : RelO o u) (rd : RelV d d') : RelV (o.getD d) (u.getD d') := by
  cases o with
  | none => cases u with
    | none => exact rd
    | some _ => exact (show False from r).elim
  | some _ => cases u with
    | none => exact (show False from r).elim
    | some _ => exact r

/-- raw tables of the same keys -/
theorem KV.val {kvs : List (κ × V)} {vs : List (κ × Value)} (r : KV kvs vs) (k : κ) : RelO (valV kvs k) (valueAt vs k) := by
  unfold KV at r
  induction r with
  | nil => exact True.intro
  | @cons p q ps qs h t ih =>
    obtain ⟨h1, h2⟩ := h
    by_cases e : p.1 = k
    · have e' : q.1 = k := h1.symm.trans e
      have b : valueAt (q :: qs) k = some q.2 := by simp [valueAt, List.find?_cons, e']
      rw [valV_pos e, b]; exact h2
    · have e' : ¬ q.1 = k := fun z => e (h1.trans z)
      have b : valueAt (q :: qs) k = valueAt qs k := by simp [valueAt, List.find?_cons, e']
      rw [valV_neg e, b]; exact ih
theorem KV.any {kvs : List (κ × V)} {vs : List (κ × Value)} (r : KV kvs vs) (k : κ) : (kvs.any fun kv => decide (kv.1 = k)) = vs.any fun kv => decide (kv.1 = k) := by
  unfold KV at r
  induction r with
  | nil => rfl
  | cons h t ih => rw [List.any_cons, List.any_cons, ih, h.1]
theorem KV.repl {kvs : List (κ × V)} {vs : List (κ × Value)} (r : KV kvs vs) (k : κ) {y : V} {u : Value} (ry : RelV y u) :
    KV (kvs.map fun kv => if kv.1 = k then (kv.1, y) else kv) (vs.map fun kv => if kv.1 = k then (kv.1, u) else kv) := by
  unfold KV at r ⊢
  induction r with
  | nil => exact .nil
  | @cons p q ps qs h t ih =>
    rw [List.map_cons, List.map_cons]
    refine .cons ?_ ih
    obtain ⟨h1, h2⟩ := h
    by_cases e : p.1 = k
    · rw [if_pos e, if_pos (h1.symm.trans e)]; exact ⟨h1, ry⟩
    · rw [if_neg e, if_neg (fun z => e (h1.trans z))]; exact ⟨h1, h2⟩
theorem KV.put {kvs : List (κ × V)} {vs : List (κ × Value)} (r : KV kvs vs) (k : κ) {y : V} {u : Value} (ry : RelV y u) : KV (putK kvs k y) (stored vs k u) := by
  unfold putK stored
  rw [r.any k]
  by_cases e : (vs.any fun kv => decide (kv.1 = k)) = true
  · rw [if_pos e, if_pos e]; exact r.repl k ry
  · rw [if_neg e, if_neg e]; exact Paired.snoc r ⟨rfl, ry⟩
theorem KV.drop {kvs : List (κ × V)} {vs : List (κ × Value)} (r : KV kvs vs) (k : κ) : KV (dropK kvs k) (without vs k) := by
  unfold KV at r ⊢
  unfold dropK without
  induction r with
  | nil => exact .nil
  | @cons p q ps qs h t ih =>
    obtain ⟨h1, h2⟩ := h
    rw [List.filter_cons, List.filter_cons]
    by_cases e : p.1 = k
    · have a : ¬ decide (p.1 ≠ k) = true := by simp [e]
      have b : ¬ decide (q.1 ≠ k) = true := by simp [h1.symm.trans e]
      rw [if_neg a, if_neg b]; exact ih
    · have e' : ¬ q.1 = k := fun z => e (h1.trans z)
      have a : decide (p.1 ≠ k) = true := by simp [e]
      have b : decide (q.1 ≠ k) = true := by simp [e']
      rw [if_pos a, if_pos b]; exact .cons ⟨h1, h2⟩ ih
theorem KV.keys {kvs : List (κ × V)} {vs : List (κ × Value)} (r : KV kvs vs) : kvs.map (·.1) = vs.map (·.1) := by
  unfold KV at r
  induction r with
  | nil => rfl
  | cons h t ih => rw [List.map_cons, List.map_cons, ih, h.1]
theorem KV.length {kvs : List (κ × V)} {vs : List (κ × Value)} (r : KV kvs vs) : kvs.length = vs.length := Paired.length r
end


/-! ### a tracked dict, its keys ints and texts or tuples of these -/
theorem kV_is {P : Program} {w : World} {k : Key} {u : Value} (r : RelV (kV k) u) : (mixKind P w).is k u = true := by
  cases k with
  | inl i => obtain ⟨t, e⟩ := (show ∃ t, u = Value.int i t from r); subst e; exact mixKind_int P w i t
  | inr x => obtain ⟨t, e⟩ := (show ∃ t, u = Value.str x t from r); subst e; exact mixKind_str P w x t
theorem items_are {P : Program} {w : World} : ∀ {ks : List Key} {us : List Value}, Vals (ks.map kV) us → ItemsAre (mixKind P w) ks us
  | [], _, r => by rw [List.map_nil] at r; cases r; exact .nil
  | k :: ks, _, r => by
    rw [List.map_cons] at r
    cases r with
    | cons h t => exact .cons (kV_is h) (items_are t)

/-- raw entries of a dict with tuple keys -/
abbrev KT (H : Hp) : List (List Key × V) → List (List Key × Addr × Value) → Prop := Paired fun p q => p.1 = q.1 ∧ H q.2.1 = some (.tup (p.1.map kV)) ∧ RelV p.2 q.2.2
theorem KT.val {H : Hp} {kvs : List (List Key × V)} {xs : List (List Key × Addr × Value)} (r : KT H kvs xs) (k : List Key) : RelO (valV kvs k) ((atKey xs k).map (·.2)) := by
  induction r with
  | nil => exact True.intro
  | @cons p q ps qs h t ih =>
    obtain ⟨h1, _, h2⟩ := h
    by_cases e : p.1 = k
    · have e' : q.1 = k := h1.symm.trans e
      have b : atKey (q :: qs) k = some q.2 := by simp [atKey, List.find?_cons, e']
      rw [valV_pos e, b]; exact h2
    · have e' : ¬ q.1 = k := fun z => e (h1.trans z)
      have b : atKey (q :: qs) k = atKey qs k := by simp [atKey, List.find?_cons, e']
      rw [valV_neg e, b]; exact ih
theorem KT.repl {H : Hp} {kvs : List (List Key × V)} {xs : List (List Key × Addr × Value)} (r : KT H kvs xs) (k : List Key) {y : V} {u : Value} (ry : RelV y u) :
    KT H (kvs.map fun kv => if kv.1 = k then (kv.1, y) else kv) (xs.map (putAt k u)) := by
  induction r with
  | nil => exact .nil
  | @cons p q ps qs h t ih =>
    rw [List.map_cons, List.map_cons]
    refine .cons ?_ ih
    obtain ⟨h1, h2, h3⟩ := h
    unfold putAt
    by_cases e : p.1 = k
    · rw [if_pos e, if_pos (h1.symm.trans e)]; exact ⟨h1, h2, ry⟩
    · rw [if_neg e, if_neg (fun z => e (h1.trans z))]; exact ⟨h1, h2, h3⟩
theorem KT.put {H : Hp} {kvs : List (List Key × V)} {xs : List (List Key × Addr × Value)} (r : KT H kvs xs) (k : List Key) {b : Addr} {y : V} {u : Value} (hb : H b = some (.tup (k.map kV))) (ry : RelV y u) :
    KT H (putK kvs k y) (storedH xs k b u) := by
  have e : (kvs.any fun kv => decide (kv.1 = k)) = (atKey xs k).isSome := by
    rw [valV_any, (r.val k).isSome_eq, Option.isSome_map]
  unfold putK storedH
  rw [e]
  by_cases q : (atKey xs k).isSome = true
  · rw [if_pos q, if_pos q]; exact r.repl k ry
  · rw [if_neg q, if_neg q]; exact Paired.snoc r ⟨rfl, hb, ry⟩
theorem KT.keeps {H H' : Hp} {kvs : List (List Key × V)} {xs : List (List Key × Addr × Value)} (r : KT H kvs xs) (ht : ∀ b ys, H b = some (.tup ys) → H' b = some (.tup ys)) : KT H' kvs xs :=
  Paired.mapP r fun _ _ z => ⟨z.1, ht _ _ z.2.1, z.2.2⟩

section
variable {P : Program} {w : World} {H : Hp} {h : Heap} {a : Addr}
theorem rd_of {u : HO} (ok : HOk P w H h) (e : Rd H a u) : ObjOk P w H h a u := e.ok ok
theorem dk_rd {kvs : List (Key × V)} (ok : HOk P w H h) (e : Rd H a (.dK kvs)) : kvs.length ≤ sizeLine ∧ (a == sysModules) = false ∧ ∃ vs, KV kvs vs ∧ h.DictOf (mixKind P w) a vs :=
  show ObjOk P w H h a (.dK kvs) from rd_of ok e
theorem dk_of {kvs : List (Key × V)} (ok : HOk P w H h) (e : H a = some (.dK kvs)) : kvs.length ≤ sizeLine ∧ (a == sysModules) = false ∧ ∃ vs, KV kvs vs ∧ h.DictOf (mixKind P w) a vs := dk_rd ok (.inl e)
/-- a tracked tuple of ints and texts is a key -/
theorem key_of {ks : List Key} (ok : HOk P w H h) (e : H a = some (.tup (ks.map kV))) : (tupleKind (mixKind P w)).is h ks a := by
  obtain ⟨_, its, r, o, h1, h2, n, h3⟩ := (show ObjOk P w H h a (.tup (ks.map kV)) from ok a _ e)
  exact ⟨o, its.toArray, n, h1, h2, h3, by simpa using items_are r⟩
theorem dt_rd {kvs : List (List Key × V)} (ok : HOk P w H h) (e : Rd H a (.dT kvs)) : kvs.length ≤ sizeLine ∧ (a == sysModules) = false ∧
    ∃ xs, KT H kvs xs ∧ h.DictOfH (tupleKind (mixKind P w)) a xs := by
  obtain ⟨z, y, xs, r, o, es, ep, h1, h2, h3, h4, h5⟩ := (show ObjOk P w H h a (.dT kvs) from rd_of ok e)
  refine ⟨z, y, xs, r, o, es, ep, h1, h2, h3, h4, fun x hx => ?_, h5⟩
  have all : ∀ {l : List (List Key × V)} {m : List (List Key × Addr × Value)}, KT H l m → ∀ x ∈ m, (tupleKind (mixKind P w)).is h x.1 x.2.1 := by
    intro l m q
    induction q with
    | nil => intro x hx; exact nomatch hx
    | @cons p q ps qs hq t ih =>
      intro x hx
      rcases List.mem_cons.mp hx with e | hx
      · subst e
        exact key_of ok (by rw [← hq.1]; exact hq.2.1)
      · exact ih x hx
  exact all r x hx
theorem dt_of {kvs : List (List Key × V)} (ok : HOk P w H h) (e : H a = some (.dT kvs)) : kvs.length ≤ sizeLine ∧ (a == sysModules) = false ∧
    ∃ xs, KT H kvs xs ∧ h.DictOfH (tupleKind (mixKind P w)) a xs := dt_rd ok (.inl e)
end

/-- what the dict at a holds at the key y -/
def DGet (H : Hp) (a : Addr) (y : V) (r : Option V) : Prop :=
  (∃ kvs k, Rd H a (.dK kvs) ∧ y = kV k ∧ r = valV kvs k) ∨ ∃ kvs k b, Rd H a (.dT kvs) ∧ y = .ref b ∧ H b = some (.tup (k.map kV)) ∧ r = valV kvs k
/-- the heap behind a[y] = v -/
def DPut (H : Hp) (a : Addr) (y v : V) (H' : Hp) : Prop :=
  (∃ kvs k, H a = some (.dK kvs) ∧ y = kV k ∧ kvs.length < sizeLine ∧ H' = upd H a (.dK (putK kvs k v))) ∨
  ∃ kvs k b, H a = some (.dT kvs) ∧ y = .ref b ∧ H b = some (.tup (k.map kV)) ∧ kvs.length < sizeLine ∧ H' = upd H a (.dT (putK kvs k v))
theorem DGet.k {H : Hp} {a : Addr} {kvs : List (Key × V)} {k : Key} (e : H a = some (.dK kvs)) : DGet H a (kV k) (valV kvs k) := .inl ⟨kvs, k, .inl e, rfl, rfl⟩
theorem DGet.t {H : Hp} {a b : Addr} {kvs : List (List Key × V)} {k : List Key} (e : H a = some (.dT kvs)) (eb : H b = some (.tup (k.map kV))) : DGet H a (.ref b) (valV kvs k) := .inr ⟨kvs, k, b, .inl e, rfl, eb, rfl⟩
theorem DPut.k {H : Hp} {a : Addr} {kvs : List (Key × V)} {k : Key} {v : V} (e : H a = some (.dK kvs)) (hl : kvs.length < sizeLine) : DPut H a (kV k) v (upd H a (.dK (putK kvs k v))) := .inl ⟨kvs, k, e, rfl, hl, rfl⟩
theorem DPut.t {H : Hp} {a b : Addr} {kvs : List (List Key × V)} {k : List Key} {v : V} (e : H a = some (.dT kvs)) (eb : H b = some (.tup (k.map kV))) (hl : kvs.length < sizeLine) :
    DPut H a (.ref b) v (upd H a (.dT (putK kvs k v))) := .inr ⟨kvs, k, b, e, rfl, eb, hl, rfl⟩


section
variable {X : Cx} {pins : List (Addr × Obj)} {σ : St} {H : Hp} {s : Shared} {a : Addr} {y v : V} {u r : Value} {o : Option V} {A : Around} {E : Value → Shared → Prop}

theorem Inv.big (I : Inv X pins σ H s) : sysModules < s.heap.objs.size := by
  have h : mainGlobals < s.heap.objs.size := (I.mod.glob.keeps I.bk).lt
  exact Nat.lt_trans (by decide) h

/-- d[y], there -/
theorem d_getItem {Q : Value → Shared → Prop} (hu : A.units + 1 < cLine) (I : Inv X pins σ H s) (g : DGet H a y (some v)) (ry : RelV y u) (h : ∀ w' s', Inv X pins σ H s' → RelV v w' → Q w' s') :
    wpAny (model X.prog X.w) A (getItem (.ref a) u) Q E s := by
  rcases g with ⟨kvs, k, e, ey, l⟩ | ⟨kvs, k, b, e, ey, eb, l⟩
  · subst ey
    obtain ⟨z, hd, vs, rel, dd⟩ := dk_rd I.hok e
    obtain ⟨w', hw, rw'⟩ := RelO.some_of (v := v) (o := valueAt vs k) (by rw [l]; exact rel.val k)
    exact wpAny_getItem_of (kV_is ry) dd.mapOf hw (h w' _ (I.tok _) rw')
  · subst ey
    cases (show u = Value.ref b from ry)
    obtain ⟨z, hd, xs, rel, dd⟩ := dt_rd I.hok e
    obtain ⟨w', hw, rw'⟩ := RelO.some_of (v := v) (o := (atKey xs k).map (·.2)) (by rw [l]; exact rel.val k)
    obtain ⟨p, hp, hp2⟩ := Option.map_eq_some_iff.mp hw
    refine wpAny_getItem_heap (tupleKind_room_in1 hu) (key_of I.hok eb) dd hp ?_
    rw [hp2]
    exact h w' _ (I.tok _) rw'
theorem d_notIn {Q : Value → Shared → Prop} (hu : A.units + 1 < cLine) (I : Inv X pins σ H s) (g : DGet H a y o) (ry : RelV y u) (h : ∀ s', Inv X pins σ H s' → Q (.bool (!o.isSome)) s') :
    wpAny (model X.prog X.w) A (compareOp .NotIn u (.ref a)) Q E s := by
  rcases g with ⟨kvs, k, e, ey, l⟩ | ⟨kvs, k, b, e, ey, eb, l⟩
  · subst ey
    obtain ⟨z, hd, vs, rel, dd⟩ := dk_rd I.hok e
    refine wpAny_notIn_of (kV_is ry) hd dd.mapOf ?_
    rw [← (rel.val k).isSome_eq, ← l]
    exact h _ (I.tok _)
  · subst ey
    cases (show u = Value.ref b from ry)
    obtain ⟨z, hd, xs, rel, dd⟩ := dt_rd I.hok e
    refine wpAny_notIn_heap (tupleKind_room_in1 hu) (key_of I.hok eb) hd dd ?_
    have q := (rel.val k).isSome_eq
    rw [Option.isSome_map] at q
    rw [← q, ← l]
    exact h _ (I.tok _)
/-- a dict's object is replaced -/
theorem d_write {h' : Heap} {t' : Nat} {ob : HO} (I : Inv X pins σ H s) (mu : Mut (H a)) (hs : Heap.SameBut a s.heap h') (he : ∃ q, h'.get? a = some q) (new : ObjOk X.prog X.w (upd H a ob) h' a ob) :
    Inv X pins σ (upd H a ob) { s with heap := h', toks := t' } :=
  I.write (x := a) (e := a) mu (.inl rfl) (fun b q hb z => (hs.2 b hb).trans z) he new
theorem dk_new {P : Program} {w : World} {H' : Hp} {h' : Heap} {kvs : List (Key × V)} {vs : List (Key × Value)} (z : kvs.length ≤ sizeLine) (hd : (a == sysModules) = false) (rel : KV kvs vs) (dd : h'.DictOf (mixKind P w) a vs) :
    ObjOk P w H' h' a (.dK kvs) := ⟨z, hd, vs, rel, dd⟩
/-- d[y] = v -/
theorem d_setItem {H' : Hp} {Q : Unit → Shared → Prop} (hu : A.units + 1 < cLine) (I : Inv X pins σ H s) (g : DPut H a y v H') (ry : RelV y u) (rv : RelV v r) (h : ∀ s', Inv X pins σ H' s' → Q () s') :
    wpAny (model X.prog X.w) A (setItem (.ref a) u r) Q E s := by
  rcases g with ⟨kvs, k, e, ey, l, eH⟩ | ⟨kvs, k, b, e, ey, eb, l, eH⟩
  · subst ey eH
    obtain ⟨z, hd, vs, rel, dd⟩ := dk_of I.hok e
    have hz : vs.length ≤ sizeLine := by rw [← rel.length]; exact z
    have hl : (putK kvs k v).length ≤ sizeLine := by have := length_putK kvs k v; omega
    refine wpAny_setItem_pairs (hsz := hz) (kV_is ry) dd fun h' dd' hs => h _ ?_
    have he : ∃ q, h'.get? a = some q := let ⟨q, _, _, hq, _⟩ := dd'; ⟨q, hq⟩
    exact d_write I (by rw [e]; exact True.intro) hs he (dk_new hl hd (rel.put k rv) dd')
  · subst ey eH
    cases (show u = Value.ref b from ry)
    obtain ⟨z, hd, xs, rel, dd⟩ := dt_of I.hok e
    have hz : xs.length ≤ sizeLine := by rw [← Paired.length rel]; exact z
    have hl : (putK kvs k v).length ≤ sizeLine := by have := length_putK kvs k v; omega
    refine wpAny_setItem_heap (hsz := hz) (tupleKind_room_in1 hu) (key_of I.hok eb) dd fun h' dd' hs => h _ ?_
    obtain ⟨q, es, ep, hq, h2, h3, h4, _, h5⟩ := dd'
    refine d_write I (by rw [e]; exact True.intro) hs ⟨q, hq⟩ ⟨hl, hd, _, (rel.put k eb rv).keeps fun c ys ec => ?_, q, es, ep, hq, h2, h3, h4, h5⟩
    rw [upd_ne (ne_of ec e (fun z => nomatch z))]
    exact ec
end

section
variable {X : Cx} {pins : List (Addr × Obj)} {σ : St} {H : Hp} {s : Shared} {a : Addr} {kvs : List (Key × V)} {k : Key} {u : Value} {A : Around} {E : Value → Shared → Prop}
end


/-! ### readings and rules -/
/-- the element of a subscription, not a slice -/
def NoSl (i : Expr) : Prop := ∀ ov iv, subscripted i false ov iv = operate [ov, iv] (getItem ov iv)
theorem subD_of {prog : Program} {w : World} {A : Around} {E : Value → Shared → Prop} {s : Shared} {env : Env} {value slice : Expr} {pos : Pos} {T id : String} {Q : Value → Shared → Prop}
    (hl : typeLookup (.type T) "__getitem__" = pure (some (.builtin id))) (hs : NoSl slice)
    (h : wpAny (model prog w) A (eval value env) (fun o s₁ => wpAny (model prog w) A (eval slice env) (fun i s₂ => s₂.TypeIs o T ∧ wpAny (model prog w) A (getItem o i) Q E s₂) E s₁) E s) :
    wpAny (model prog w) A (eval (.Subscript value slice pos) env) Q E s := by
  refine Subscript_ (wpAny_mono h (fun o s₁ h₁ => wpAny_mono h₁ (fun i s₂ h₂ => ?_) fun _ _ x => x) fun _ _ x => x)
  obtain ⟨hT, h₂⟩ := h₂
  unfold subscriptTail
  refine wpAny_bind ?_
  rw [getitemInPython_of_ne hT.not_modules]
  refine wpAny_bind (wpAny_specialOf hT hl ?_)
  have fin : wpAny (model prog w) A (subscripted slice false o i) (fun r s₃ => wpAny (model prog w) A (letTemporaryGo value o r >>= fun _ => pure r) Q E s₃) E s₂ := by
    rw [hs o i]
    exact wpAny_operating (wpAny_mono h₂ (fun r s₃ h₃ => wpAny_bind (wpAny_letTemporaryGo (wpAny_pure h₃))) fun _ _ x => x)
  first
    | exact wpAny_pure (wpAny_bind fin)
    | exact wpAny_bind (wpAny_pure (wpAny_bind fin))
    | exact wpAny_bind fin

theorem dict_typeIs {X : Cx} {pins : List (Addr × Obj)} {σ : St} {H : Hp} {s : Shared} {a : Addr} {y : V} {o : Option V} (I : Inv X pins σ H s) (g : DGet H a y o) : s.TypeIs (.ref a) "dict" := by
  rcases g with ⟨kvs, k, e, _, _⟩ | ⟨kvs, k, b, e, _, _, _⟩
  · obtain ⟨_, _, vs, _, dd⟩ := dk_rd I.hok e
    exact dd.typeIs
  · obtain ⟨_, _, xs, _, dd⟩ := dt_rd I.hok e
    exact dd.typeIs

/-- d[y] -/
def tDGet (td ty : TE) : TE := fun σ H Q => td σ H fun x H1 => ty σ H1 fun y H2 => ∃ a v, x = .ref a ∧ DGet H2 a y (some v) ∧ Q v H2
def tDNotIn (ty td : TE) : TE := fun σ H Q => ty σ H fun y H1 => td σ H1 fun x H2 => ∃ a o, x = .ref a ∧ DGet H2 a y o ∧ Q (.bl (!o.isSome)) H2
/-- d[y] = v -/
def sDPut (td ty tv : TE) : TS := fun D σ H => tv σ H fun v H1 => td σ H1 fun x H2 => ty σ H2 fun y H3 => ∃ a H4, x = .ref a ∧ DPut H3 a y v H4 ∧ D.nx σ H4

section
variable {X : Cx} {o i e value : Expr} {pos pos' tpos : Pos} {td ty tv : TE}
theorem pe_dget (hu : X.A.units + 1 < cLine) (ho : PE X o td) (hi : PE X i ty) (hs : NoSl i) : PE X (.Subscript o i pos) (tDGet td ty) := by
  intro pins s σ H Q I h
  refine subD_of PySem.F.slot_dict_getitem.lookup hs (thn (ho pins s σ H _ I h) fun u s1 ⟨x, H1, I1, rx, q1⟩ => thn (hi pins s1 σ H1 _ I1 q1) fun iv s2 ⟨y, H2, I2, ry, a, v, ex, g, q2⟩ => ?_)
  subst ex
  obtain rfl : u = Value.ref a := rx
  exact ⟨dict_typeIs I2 g, d_getItem hu I2 g ry fun w' s3 I3 rw' => ⟨v, H2, I3, rw', q2⟩⟩
theorem pc_dnotin (hu : X.A.units + 1 < cLine) (hi : PE X i ty) (ho : PE X o td) : PC X .NotIn i o (tDNotIn ty td) := by
  intro pins s σ H Q I h
  refine thn (hi pins s σ H _ I h) fun iv s1 ⟨y, H1, I1, ry, q1⟩ => thn (ho pins s1 σ H1 _ I1 q1) fun u s2 ⟨x, H2, I2, rx, a, ov, ex, g, q2⟩ => ?_
  subst ex
  obtain rfl : u = Value.ref a := rx
  exact d_notIn hu I2 g ry fun s3 I3 => ⟨.bl (!ov.isSome), H2, I3, rfl, q2⟩
theorem ps_dput (hu : X.A.units + 1 < cLine) (ho : PE X o td) (hi : PE X i ty) (hv : PE X value tv) (hs : swapsWith value (some (.Subscript o i pos')) pos.line X.env = pure false) :
    PS X (.Assign [.Subscript o i pos'] value pos) (sDPut td ty tv) := by
  intro pins s σ H D I h
  refine wpAny_Assign_Subscript (thn (hv pins s σ H _ I h) fun r s1 ⟨v, H1, I1, rv, q1⟩ => thn (ho pins s1 σ H1 _ I1 q1) fun u s2 ⟨x, H2, I2, rx, q2⟩ => thn (hi pins s2 σ H2 _ I2 q2) fun iv s3 ⟨y, H3, I3, ry, a, H4, ex, g, q3⟩ => ?_) hs
  subst ex
  obtain rfl : u = Value.ref a := rx
  exact d_setItem hu I3 g ry rv fun s4 I4 => ⟨σ, H4, I4, q3⟩
end


/-! ### displays -/
theorem dk_empty {P : Program} {w : World} {H : Hp} (h : Heap) (hb : sysModules < h.objs.size) : ObjOk P w H (h.push { cls := .type "dict", data := .dict #[] }) h.objs.size (.dK []) :=
  ⟨Nat.zero_le _, beq_eq_false_iff_ne.mpr (Ne.symm (Nat.ne_of_lt hb)), [], .nil, Heap.DictOf.new h⟩
/-- {}, to be a dict of the kind that is wanted -/
def tDNewK : TE := fun _ H Q => ∀ p, H p = none → Q (.ref p) (upd H p (.dK []))
section
variable {X : Cx} {pos : Pos}
theorem pe_dnewK : PE X (.Dict [] [] pos) tDNewK := fun pins s σ H Q I h =>
  wpAny_Dict_empty ⟨.ref s.heap.objs.size, _, I.laid (a := s.heap.objs.size) (o := .dK []) (t' := s.toks) (fun _ _ q => Heap.get?_push_of_some _ q) (Nat.le_refl _) (dk_empty s.heap I.big), rfl, h _ (I.hok.fresh (Nat.le_refl _))⟩
end




/-! ### methods -/
/-- a method call o.m(e) of a built-in, with one argument: what must be seen of the text -/
structure M1 (X : Cx) (o : Expr) (m : Str) (apos : Pos) (e : Expr) (cpos : Pos) : Prop where
  base : attributeBase o m X.env (eval o X.env) = eval o X.env
  few : ((backTo cpos (starEach [e] X.env)).all (fun x => !x.1) && (backToKw cpos (keywordEach [] X.env)).all (fun x => x.1.isSome)
    && decide (([e] : List Expr).length + ([] : List Keyword).length + (if ([] : List Keyword).isEmpty then 0 else 1) < 30)) = true
  line : (apos.endLine == cpos.line) = true
structure M2 (X : Cx) (o : Expr) (m : Str) (apos : Pos) (e f : Expr) (cpos : Pos) : Prop where
  base : attributeBase o m X.env (eval o X.env) = eval o X.env
  few : ((backTo cpos (starEach [e, f] X.env)).all (fun x => !x.1) && (backToKw cpos (keywordEach [] X.env)).all (fun x => x.1.isSome)
    && decide (([e, f] : List Expr).length + ([] : List Keyword).length + (if ([] : List Keyword).isEmpty then 0 else 1) < 30)) = true
  line : (apos.endLine == cpos.line) = true


section
variable {X : Cx} {pins : List (Addr × Obj)} {σ : St} {H : Hp} {s : Shared} {a : Addr} {y d : V} {u r : Value} {o : Option V} {A : Around} {E : Value → Shared → Prop}
end

section
variable {X : Cx} {o e f : Expr} {apos cpos : Pos} {td ty tx : TE}
end

/-! ### dict(d): a copy -/
section
variable {X : Cx} {pins : List (Addr × Obj)} {σ : St} {H : Hp} {s : Shared} {a : Addr} {kvs : List (Key × V)} {A : Around} {E : Value → Shared → Prop}
end


section
variable {X : Cx} {pins : List (Addr × Obj)} {σ : St} {H : Hp} {s : Shared} {a : Addr} {y : V} {u : Value} {A : Around} {E : Value → Shared → Prop}
end
end L2
namespace L2
open PySem PySem.Spec PyProof.Rows
/-! ### a dict's pairs: keys that differ -/
section
variable {κ : Type} [DecidableEq κ]
end
end L2

/-! ### d.setdefault(a tuple, x) -/
namespace DictQ
open PySem
section
variable {prog : Program} {w : World} {K : Type} [DecidableEq K] {knd : HeapKind prog w K} {A : Around} {E : Value → Shared → Prop} {s : Shared} {d a : Addr} {k : K} {xs : List (K × Addr × Value)}
end
end DictQ
namespace L2
open PySem PySem.Spec PyProof.Rows
section
variable {X : Cx} {o e f : Expr} {apos cpos : Pos} {td ty tx : TE}
end
end L2

/-! ### comprehensions over pairs: two names, in slots 0 and 1 -/
namespace L2
open PySem PySem.Spec PyProof.Rows
abbrev g2 (K : PySem.W.Frag) : TG := gTup K 2 (gCons (gName 0) (gCons (gName 1) gNil))
def CN2 (σ0 : St) (D : Addr) (Pv : Nat → List V → Hp → Prop) (i : Nat) : St → Hp → Prop := fun σ H => (∃ v u, σ = (σ0.set 0 v).set 1 u) ∧ ∃ ys, H D = some (.lst ys) ∧ Pv i ys H
def CE2 (σ0 : St) (D : Addr) (Pv : Nat → List V → Hp → Prop) (i : Nat) (σ : St) : VK := fun y H => ∃ ys, H D = some (.lst ys) ∧ ys.length < sizeLine ∧ CN2 σ0 D Pv i σ (upd H D (.lst (ys ++ [y])))
theorem CE2.mk {σ0 : St} {D : Addr} {Pv : Nat → List V → Hp → Prop} {i : Nat} {v u : Option V} {y : V} {H : Hp} {ys : List V} (hD : H D = some (.lst ys)) (hl : ys.length < sizeLine) (h : Pv i (ys ++ [y]) (upd H D (.lst (ys ++ [y])))) : CE2 σ0 D Pv i ((σ0.set 0 v).set 1 u) y H :=
  ⟨ys, hD, hl, ⟨v, u, rfl⟩, _, upd_same, h⟩
theorem CN2.mk {σ0 : St} {D : Addr} {Pv : Nat → List V → Hp → Prop} {i : Nat} {v u : Option V} {H : Hp} {ys : List V} (hD : H D = some (.lst ys)) (h : Pv i ys H) : CN2 σ0 D Pv i ((σ0.set 0 v).set 1 u) H := ⟨⟨v, u, rfl⟩, ys, hD, h⟩
theorem set_again (σ0 : St) (a b a' b' : Option V) : (((σ0.set 0 a).set 1 b).set 0 a').set 1 b' = (σ0.set 0 a').set 1 b' := by
  cases σ0 with
  | nil => rfl
  | cons x r => cases r with
    | nil => rfl
    | cons y r => rfl

section
variable {X : Cx} {o e : Expr} {t : TA} {apos cpos : Pos}
end
end L2

namespace L2
open PySem PySem.Spec PyProof.Rows
end L2

namespace L2
open PySem PySem.Spec PyProof.Rows
section
variable {X : Cx}
/-- isinstance(x, C), C an own class -/
structure ClsTy (K : PySem.W.Frag) (C : Addr) : Prop where
  a : PySem.W.findIn K (.ref C) "__class__" = some (some (.builtin "object.__class__"))
  n : PySem.W.specialIn K (.builtin "object.__class__") "__get__" = some (some (.builtin "getset_descriptor.__get__"))
  tk : PySem.W.takesIn K (.builtin "object.__class__") = some true
  m : PySem.W.mroIn K C (.type "object") = some true
theorem ClsTy.ty {K : PySem.W.Frag} {H : Hp} {a C dx : Addr} {fs : List (Str × V)} (t : ClsTy K C) (cl : Cls K C) (e : H a = some (.ins C dx fs)) : TyOf K H (.ref a) (.ref C) := .ins e cl t.a t.n t.tk t.m
/-- one of two rules -/
def tEither (t u : TE) : TE := fun σ H Q => t σ H Q ∨ u σ H Q
theorem pe_either {e : Expr} {t u : TE} (h1 : PE X e t) (h2 : PE X e u) : PE X e (tEither t u) := fun pins s σ H Q I h => h.elim (h1 pins s σ H Q I) (h2 pins s σ H Q I)
variable {o e : Expr} {t : TA} {apos cpos : Pos}
end
end L2

/-! ### texts -/
namespace L2
open PySem PySem.Spec PyProof.Rows
theorem vals_strs : ∀ {xs : List Str} {us : List Value}, Vals (xs.map V.str) us → ∃ l : List (Str × Tok), us = strValues l ∧ l.map (·.1) = xs
  | [], _, .nil => ⟨[], rfl, rfl⟩
  | x :: xs, _, .cons r rs => by
    obtain ⟨t, rfl⟩ := r
    obtain ⟨l, rfl, e⟩ := vals_strs rs
    exact ⟨(x, t) :: l, rfl, by rw [List.map_cons, e]⟩
theorem strs_vals : ∀ (l : List (Str × Tok)), Vals ((l.map (·.1)).map V.str) (strValues l)
  | [] => .nil
  | p :: l => .cons ⟨p.2, rfl⟩ (strs_vals l)
section
variable {prog : Program} {w : World} {A : Around} {E : Value → Shared → Prop} {s : Shared} {x y : Str} {t u : Tok} {Q : Value → Shared → Prop}
/-- a text cut at a sign: a new list -/
theorem split_new (hy : (y.length == 0) = false) (hz : x.length + 2 ≤ sizeLine) (h : ∀ l k, l.map (·.1) = Txt.split x y → Q (.ref s.heap.objs.size) { s with heap := s.heap.push { cls := .type "list", data := .seq (strValues l).toArray }, toks := k }) :
    wpAny (model prog w) A (call (.builtin "str.split") [.str x t, .str y u]) Q E s := by
  have one : ∀ (m : Txt.split x y = [x]), Q (.ref s.heap.objs.size) { s with heap := s.heap.push { cls := .type "list", data := .seq (strValues [(x, t)]).toArray }, toks := s.toks } := fun m => h [(x, t)] s.toks m.symm
  by_cases q1 : (decide (x.length < y.length) || decide (Builtin.Str.strKind x < Builtin.Str.strKind y)) = true
  · exact call_meets F.slot_str_split (typeIs_str _ _ _) F.entry_str_split (F.args_str_split_2 _ _) (meets_str_split_cannot_occur x y t u q1) (one (by unfold Txt.split; rw [if_pos q1]))
  · have q1' := Bool.eq_false_iff.mpr q1
    by_cases q2 : (Builtin.Str.occurrences x y 0 x.length (x.length + 1)).isEmpty = true
    · exact call_meets F.slot_str_split (typeIs_str _ _ _) F.entry_str_split (F.args_str_split_2 _ _) (meets_str_split_not_found x y t u q1' hy q2) (one (by unfold Txt.split; rw [if_neg q1, if_pos q2]))
    · have q2' := Bool.eq_false_iff.mpr q2
      have e0 : Txt.split x y = Builtin.Str.partsBetween x (Builtin.Str.occurrences x y 0 x.length (x.length + 1)) y.length := by unfold Txt.split; rw [if_neg q1, if_neg q2]
      have hn : (Builtin.Str.partsBetween x (Builtin.Str.occurrences x y 0 x.length (x.length + 1)) y.length).length ≤ sizeLine := by
        rw [← e0]
        have hw := split_weight x y (by have : y.length ≠ 0 := fun z => by rw [z] at hy; cases hy
                                        omega)
        omega
      refine call_meets F.slot_str_split (typeIs_str _ _ _) F.entry_str_split (F.args_str_split_2 _ _) (meets_str_split_sep x y t u q1' hy q2' (by omega) hn) ?_
      show wants Q E _ { s with toks := _, heap := s.heap.push { cls := .type "list", data := .seq (strsFrom s.toks (Builtin.Str.partsBetween x (Builtin.Str.occurrences x y 0 x.length (x.length + 1)) y.length)).toArray } }
      rw [strsFrom_eq]
      exact h (numbered s.toks _) _ ((numbered_texts _ _).trans e0.symm)
end
section
variable {X : Cx}
def rSplit : V → List V → Hp → VK → Prop := fun x vs H Q => ∃ a b : Str, x = .str a ∧ vs = [.str b] ∧ b.length ≠ 0 ∧ a.length ≤ 9000 ∧ ∀ l, H l = none → Q (.ref l) (upd H l (.lst ((Txt.split a b).map V.str)))
theorem mt_split : MtM X "str.split" rSplit := by
  intro pins s σ H x vs v us Q I rx rv h
  obtain ⟨a, b, rfl, rfl, hb, hz, q⟩ := h
  obtain ⟨t, rfl⟩ := rx
  obtain ⟨u, rfl, ru⟩ := rv.one
  obtain ⟨t', rfl⟩ := ru
  have hw := split_weight a b (by omega)
  refine split_new (by simpa using hb) (by rw [sizeLine_eq]; omega) fun l k e => ?_
  refine ⟨.ref s.heap.objs.size, _, I.lnew (t' := k) (its := strValues l) (ys := (Txt.split a b).map V.str) (by rw [← e]; exact strs_vals l) (by rw [List.length_map, sizeLine_eq]; omega), rfl, q _ I.fresh⟩
def rJoin : V → List V → Hp → VK → Prop := fun x vs H Q => ∃ (a : Str) (l : Addr) (ys : List Str), x = .str a ∧ vs = [.ref l] ∧ H l = some (.lst (ys.map V.str)) ∧ (∀ y ∈ ys, y.length ≤ 9000) ∧ ys.length ≤ 900 ∧ a.length ≤ 9 ∧ Q (.str (Str.join a ys)) H
theorem mt_join : MtM X "str.join" rJoin := by
  intro pins s σ H x vs v us Q I rx rv h
  obtain ⟨a, l, ys, rfl, rfl, hH, h1, h2, h3, q⟩ := h
  obtain ⟨t, rfl⟩ := rx
  obtain ⟨u, rfl, ru⟩ := rv.one
  cases ru
  obtain ⟨its, r, pl, hz⟩ := I.list (SqL.of hH)
  obtain ⟨ls, rfl, e⟩ := vals_strs r
  have hok : JoinOk a ys = true := by
    unfold JoinOk
    have hb : ys.length * 9000 + ys.length * a.length ≤ 16777216 := by
      have h4 : ys.length * a.length ≤ 900 * 9 := Nat.mul_le_mul h2 h3
      omega
    rw [StrLaws.joinFits h1 hb]
    rfl
  refine SC.join pl.isList e hok fun t' k => ⟨.str _, H, I.tok k, ⟨t', rfl⟩, ?_⟩
  show Q (.str (Txt.join a ys)) H
  have ej : Txt.join a ys = Str.join a ys := StrLaws.glued_eq_join a ys
  rw [ej]
  exact q
def rBitLen : V → List V → Hp → VK → Prop := fun x vs H Q => ∃ i : Int, x = .int i ∧ vs = [] ∧ Q (.int ((Builtin.Int.intBits i : Nat) : Int)) H
theorem mt_bitlen : MtM X "int.bit_length" rBitLen := by
  intro pins s σ H x vs v us Q I rx rv h
  obtain ⟨i, rfl, rfl, q⟩ := h
  obtain ⟨t, rfl⟩ := rx
  have hus := rv.zero
  subst hus
  exact call_meets F.slot_int_bit_length (typeIs_int _ _ _) F.entry_int_bit_length (F.args_int_bit_length_1 _) (AutoIntG2.int_bit_length_int_0 i t).meets ⟨.int _, H, I.tok _, ⟨_, rfl⟩, q⟩
theorem call_int_text : CallR X (.type "int") (fun xs H Q => ∃ (x : Str) (n : Int), xs = [.str x] ∧ PySem.intText? x = some n ∧ x.length ≤ 640 ∧ Q (.int n) H) := by
  intro pins s σ H xs us Q I r h
  obtain ⟨x, n, rfl, hn, hl, q⟩ := h
  obtain ⟨u, rfl, t, rfl⟩ := vals1 r
  exact PySem.W.KIN.call_text hn hl ⟨.int n, H, I.tok _, ⟨_, rfl⟩, q⟩
/-- t[lo:hi] of a text -/
def rSlS : V → Option Int → Option Int → Hp → VK → Prop := fun x lo hi H Q => ∃ a : Str, x = .str a ∧ a.length ≤ 9000 ∧ Q (.str (Txt.slice a lo hi)) H
theorem sl_str : SlR X rSlS := by
  intro pins s σ H x v vl vu lo hi sl Q I rx hs pl pu h
  obtain ⟨a, rfl, hz, q⟩ := h
  obtain ⟨t, rfl⟩ := rx
  refine ⟨"str", _, F.slot_str_getitem.lookup, typeIs_str _ _ _, ?_⟩
  obtain ⟨o, ho, hc, hd⟩ := hs
  have fin : ∀ t' k, EP X pins σ Q (.str (Txt.slice a lo hi) t') { s with toks := k } := fun t' k => ⟨.str _, H, I.tok k, ⟨t', rfl⟩, q⟩
  have hle : (Txt.slice a lo hi).length ≤ sizeLine := Nat.le_trans (Txt.slice_le a lo hi) (by rw [sizeLine_eq]; omega)
  cases pl with
  | none =>
    cases pu with
    | none => exact wpAny_getItem_str_slice (l := none) (u := none) (st := none) ⟨o, ho, hc, hd⟩ rfl (post_val_or_str ⟨hle, fin⟩)
    | int j uj => exact wpAny_getItem_str_slice (l := none) (u := some (j, uj)) (st := none) ⟨o, ho, hc, hd⟩ rfl (post_val_or_str ⟨hle, fin⟩)
  | int i ui =>
    cases pu with
    | none => exact wpAny_getItem_str_slice (l := some (i, ui)) (u := none) (st := none) ⟨o, ho, hc, hd⟩ rfl (post_val_or_str ⟨hle, fin⟩)
    | int j uj => exact wpAny_getItem_str_slice (l := some (i, ui)) (u := some (j, uj)) (st := none) ⟨o, ho, hc, hd⟩ rfl (post_val_or_str ⟨hle, fin⟩)
/-- xs.index(t) in a list of texts -/
theorem eqGives_str (a b : Str) (t u : Tok) : MeetsSeq.EqGives (.str a t) (.str b u) (a == b) := fun prog w A E s Q h => SeqAt.EqAt.str_str (A := A) (s := s) a t b u prog w E Q h
def isStrV (b : Str) : Value → Bool
  | .str a _ => a == b
  | _ => false
def rIndexS : V → List V → Hp → VK → Prop := fun x vs H Q => ∃ (l : Addr) (b : Str) (ys : List Str) (j : Nat), x = .ref l ∧ vs = [.str b] ∧ H l = some (.lst (ys.map V.str)) ∧ ys[j]? = some b ∧ (∀ m y, m < j → ys[m]? = some y → y ≠ b) ∧ Q (.int (j : Nat)) H
theorem mt_indexS : MtM X "list.index" rIndexS := by
  intro pins s σ H x vs v us Q I rx rv h
  obtain ⟨l, b, ys, j, rfl, rfl, hH, hj, hm, q⟩ := h
  cases rx
  obtain ⟨u, rfl, ru⟩ := rv.one
  obtain ⟨tb, rfl⟩ := ru
  obtain ⟨z, its, n, r, hl, e⟩ := I.lstM hH
  obtain ⟨ls, rfl, el⟩ := vals_strs r
  have hat : ∀ i (hi : i < (strValues ls).length), ∃ y t, ys[i]? = some y ∧ (strValues ls)[i] = .str y t := fun i hi => by
    have hi' : i < ls.length := by unfold strValues at hi; rwa [List.length_map] at hi
    refine ⟨ls[i].1, ls[i].2, by rw [← el, List.getElem?_map, List.getElem?_eq_getElem hi']; rfl, by simp [strValues]⟩
  have hjl : j < (strValues ls).length := by
    have := (List.getElem?_eq_some_iff.mp hj).1
    rw [← hl, List.length_map]; exact this
  refine call_meets F.slot_list_index ⟨_, e, rfl⟩ F.entry_list_index (F.args_list_index_2 _ _)
    (MeetsSeq.list_index l (strValues ls).toArray n (.str b tb) (isStrV b) (fun y hy => ?_) j (by rw [List.size_toArray]; exact hjl) ?_ ?_ fun m hm' hmj => ?_) ⟨e, ?_⟩
  · obtain ⟨i, hi, rfl⟩ := List.mem_iff_getElem.mp (Array.mem_toList_iff.mpr hy)
    obtain ⟨y, t, _, eb⟩ := hat i hi
    show MeetsSeq.EqGives (strValues ls)[i] _ (isStrV b (strValues ls)[i])
    rw [eb]
    exact eqGives_str y b t tb
  · have h1 : (strValues ls).length ≤ sizeLine := by omega
    have h2 : (sizeLine : Nat) < 2 ^ 63 - 1 := by decide
    omega
  · obtain ⟨y, t, h1, eb⟩ := hat j hjl
    rw [hj] at h1
    cases h1
    show isStrV b (strValues ls)[j] = true
    rw [eb]
    show (b == b) = true
    simp
  · obtain ⟨y, t, h1, eb⟩ := hat m (by rw [List.size_toArray] at hm'; exact hm')
    have := hm m y hmj h1
    show isStrV b (strValues ls)[m] = false
    rw [eb]
    show (y == b) = false
    simpa using this
  · exact ⟨.int (j : Nat), H, I.tok _, ⟨_, rfl⟩, q⟩
variable {o e : Expr} {t : TA} {apos cpos : Pos}
theorem pe_splitK (K : PySem.W.Frag) {to : TE} (ho : PE X o to) (ha : PA X [e] t) (h : X.K = K := by rfl) (hbase : attributeBase o "split" X.env (eval o X.env) = eval o X.env := by rfl)
    (hfew : ((backTo cpos (starEach [e] X.env)).all (fun x => !x.1) && (backToKw cpos (keywordEach [] X.env)).all (fun x => x.1.isSome)
      && decide ([e].length + ([] : List Keyword).length + (if ([] : List Keyword).isEmpty then 0 else 1) < 30)) = true := by rfl)
    (hline : (apos.endLine == cpos.line) = true := by rfl) (hs : starEach [e] X.env = (false, eval e X.env) :: starEach [] X.env := by rfl) (hplain : (backTo cpos (starEach [] X.env)).any (·.1) = false := by rfl) :
    PE X (.Call (.Attribute o "split" apos) [e] [] cpos) (tBM K "str" rSplit to t) := by subst h; exact pe_bm PySem.F.plainAttrs_str PySem.F.slot_str_split PySem.F.type_str_split mt_split ho ha hbase hfew hline hs hplain
theorem pe_joinK (K : PySem.W.Frag) {to : TE} (ho : PE X o to) (ha : PA X [e] t) (h : X.K = K := by rfl) (hbase : attributeBase o "join" X.env (eval o X.env) = eval o X.env := by rfl)
    (hfew : ((backTo cpos (starEach [e] X.env)).all (fun x => !x.1) && (backToKw cpos (keywordEach [] X.env)).all (fun x => x.1.isSome)
      && decide ([e].length + ([] : List Keyword).length + (if ([] : List Keyword).isEmpty then 0 else 1) < 30)) = true := by rfl)
    (hline : (apos.endLine == cpos.line) = true := by rfl) (hs : starEach [e] X.env = (false, eval e X.env) :: starEach [] X.env := by rfl) (hplain : (backTo cpos (starEach [] X.env)).any (·.1) = false := by rfl) :
    PE X (.Call (.Attribute o "join" apos) [e] [] cpos) (tBM K "str" rJoin to t) := by subst h; exact pe_bm PySem.F.plainAttrs_str PySem.F.slot_str_join PySem.F.type_str_join mt_join ho ha hbase hfew hline hs hplain
theorem pe_indexSK (K : PySem.W.Frag) {to : TE} (ho : PE X o to) (ha : PA X [e] t) (h : X.K = K := by rfl) (hbase : attributeBase o "index" X.env (eval o X.env) = eval o X.env := by rfl)
    (hfew : ((backTo cpos (starEach [e] X.env)).all (fun x => !x.1) && (backToKw cpos (keywordEach [] X.env)).all (fun x => x.1.isSome)
      && decide ([e].length + ([] : List Keyword).length + (if ([] : List Keyword).isEmpty then 0 else 1) < 30)) = true := by rfl)
    (hline : (apos.endLine == cpos.line) = true := by rfl) (hs : starEach [e] X.env = (false, eval e X.env) :: starEach [] X.env := by rfl) (hplain : (backTo cpos (starEach [] X.env)).any (·.1) = false := by rfl) :
    PE X (.Call (.Attribute o "index" apos) [e] [] cpos) (tBM K "list" rIndexS to t) := by subst h; exact pe_bm PySem.F.plainAttrs_list PySem.F.slot_list_index PySem.F.type_list_index mt_indexS ho ha hbase hfew hline hs hplain
theorem pe_bitlenK (K : PySem.W.Frag) {to : TE} (ho : PE X o to) (h : X.K = K := by rfl) (hbase : attributeBase o "bit_length" X.env (eval o X.env) = eval o X.env := by rfl) (hline : (apos.endLine == cpos.line) = true := by rfl) :
    PE X (.Call (.Attribute o "bit_length" apos) [] [] cpos) (tBM0 K "int" rBitLen to) := by subst h; exact pe_bm0 PySem.F.plainAttrs_int PySem.F.slot_int_bit_length PySem.F.type_int_bit_length mt_bitlen ho hbase hline
end
end L2

/-! ### enumerate(list, start=n): the count runs ahead of the list -/
namespace L2
open PySem PySem.Spec PyProof.Rows
section
variable {pg : Program} {wd : World} {Ar : Around} {Er : Value → Shared → Prop} {sh : Shared}
end
section
variable {pg : Program} {wd : World} {Ar : Around} {Er : Value → Shared → Prop} {sh : Shared}
end
section
variable {X : Cx}
end
end L2

/-! ### literals, read as data of any kind -/
namespace L2
open PySem PySem.Spec PyProof.Rows
mutual
inductive Dy (H : Hp) : V → PyData → Prop
  | non : Dy H .non .none
  | bl (b : Bool) : Dy H (.bl b) (.bool b)
  | int (i : Int) : Dy H (.int i) (.int i)
  | str (x : Str) : Dy H (.str x) (.str x)
  | lst {a : Addr} {xs : List V} {ds : List PyData} : H a = some (.lst xs) → Dys H xs ds → Dy H (.ref a) (.list ds)
  | tup {a : Addr} {xs : List V} {ds : List PyData} : H a = some (.tup xs) → Dys H xs ds → Dy H (.ref a) (.tuple ds)
  | dct {a : Addr} : H a = some (.dK []) → Dy H (.ref a) (.dict [])
inductive Dys (H : Hp) : List V → List PyData → Prop
  | nil : Dys H [] []
  | cons {x : V} {xs : List V} {d : PyData} {ds : List PyData} : Dy H x d → Dys H xs ds → Dys H (x :: xs) (d :: ds)
end
mutual
theorem Dy.same {H H' : Hp} (e : Same H H') : ∀ {v : V} {d : PyData}, Dy H v d → Dy H' v d
  | _, _, .non => .non
  | _, _, .bl b => .bl b
  | _, _, .int i => .int i
  | _, _, .str x => .str x
  | _, _, .lst h ds => .lst (e _ _ h) (Dys.same e ds)
  | _, _, .tup h ds => .tup (e _ _ h) (Dys.same e ds)
  | _, _, .dct h => .dct (e _ _ h)
theorem Dys.same {H H' : Hp} (e : Same H H') : ∀ {vs : List V} {ds : List PyData}, Dys H vs ds → Dys H' vs ds
  | _, _, .nil => .nil
  | _, _, .cons h t => .cons (Dy.same e h) (Dys.same e t)
end
theorem Dys.len {H : Hp} : ∀ {xs : List V} {ds : List PyData}, Dys H xs ds → xs.length = ds.length
  | _, _, .nil => rfl
  | _, _, .cons _ t => congrArg (· + 1) (Dys.len t)
theorem Dys.get {H : Hp} : ∀ {xs : List V} {ds : List PyData} {i : Nat} {v : V}, Dys H xs ds → xs[i]? = some v → ∃ d, ds[i]? = some d ∧ Dy H v d
  | _, _, i, v, .nil, h => by simp at h
  | _, _, 0, v, .cons (x := x) (d := d) h _, e => by
    have z : x = v := by simpa using e
    subst z
    exact ⟨d, by simp, h⟩
  | _, _, i + 1, v, .cons _ t, e => by
    obtain ⟨d, h1, h2⟩ := Dys.get (i := i) t (by simpa using e)
    exact ⟨d, by simpa using h1, h2⟩
theorem Dys.at {H : Hp} : ∀ {xs : List V} {ds : List PyData} {i : Nat} {d : PyData}, Dys H xs ds → ds[i]? = some d → ∃ v, xs[i]? = some v ∧ Dy H v d
  | _, _, i, d, .nil, h => by simp at h
  | _, _, 0, d, .cons (x := x) (d := d') h _, e => by
    have z : d' = d := by simpa using e
    subst z
    exact ⟨x, by simp, h⟩
  | _, _, i + 1, d, .cons _ t, e => by
    obtain ⟨v, h1, h2⟩ := Dys.at (i := i) t (by simpa using e)
    exact ⟨v, by simpa using h1, h2⟩
theorem Dys.append {H : Hp} : ∀ {xs ys : List V} {ds es : List PyData}, Dys H xs ds → Dys H ys es → Dys H (xs ++ ys) (ds ++ es)
  | _, _, _, _, .nil, h => h
  | _, _, _, _, .cons h t, u => .cons h (Dys.append t u)
theorem Dys.rep {H : Hp} {xs : List V} {ds : List PyData} (h : Dys H xs ds) : ∀ k : Nat, Dys H (List.replicate k xs).flatten (List.replicate k ds).flatten
  | 0 => .nil
  | k + 1 => by
    rw [List.replicate_succ, List.replicate_succ, List.flatten_cons, List.flatten_cons]
    exact h.append (Dys.rep h k)
def isStar : Expr → Bool
  | .Starred .. => true
  | _ => false
theorem star1 (e : Expr) (es : List Expr) (env : Env) (h : isStar e = false) : starEach (e :: es) env = (false, eval e env) :: starEach es env := by
  cases e <;> first | rfl | cases h
/-- an expression whose value is data, where c holds of the names -/
def tD (c : St → Prop) (x : PyData) : TE := fun σ H Q => c σ ∧ ∀ v H', Same H H' → Dy H' v x → Q v H'
def tDs (c : St → Prop) (xs : List PyData) : TA := fun σ H Q => c σ ∧ ∀ vs H', Same H H' → Dys H' vs xs → Q vs H'
theorem PE.imp {X : Cx} {e : Expr} {t t' : TE} (h : PE X e t) (i : ∀ σ H Q, t' σ H Q → t σ H Q) : PE X e t' := fun pins s σ H Q I z => h pins s σ H Q I (i σ H Q z)
theorem line1000 {n : Nat} (h : n ≤ 1000) : n ≤ sizeLine := Nat.le_trans h (by decide)
/-- the same, closed: so that a long term is built without a look at what it means -/
@[irreducible] def PEo (X : Cx) (e : Expr) (t : TE) : Prop := PE X e t
@[irreducible] def PAo (X : Cx) (es : List Expr) (t : TA) : Prop := PA X es t
theorem PEo.mk {X : Cx} {e : Expr} {t : TE} (h : PE X e t) : PEo X e t := by unfold PEo; exact h
theorem PEo.out {X : Cx} {e : Expr} {t : TE} (h : PEo X e t) : PE X e t := by unfold PEo at h; exact h
theorem PAo.mk {X : Cx} {es : List Expr} {t : TA} (h : PA X es t) : PAo X es t := by unfold PAo; exact h
theorem PAo.out {X : Cx} {es : List Expr} {t : TA} (h : PAo X es t) : PA X es t := by unfold PAo at h; exact h
section
variable {X : Cx} {e a b : Expr} {es : List Expr} {pos : Pos} {c0 : St → Prop} {x : PyData} {xs : List PyData}
theorem pd_str {x j} : PEo X (.Constant (.str x) j pos) (tD c0 (.str x)) := .mk <| pe_str.imp fun σ H Q ⟨_, k⟩ => k _ H (Same.refl H) (.str x)
theorem pda_nil : PAo X [] (tDs c0 []) := .mk fun pos pins s σ H Q I ⟨_, k⟩ => pa_nil pos pins s σ H Q I (k _ H (Same.refl H) .nil)
theorem pda_cons (ha : PEo X e (tD c0 x)) (hr : PAo X es (tDs c0 xs)) (hn : isStar e = false := by rfl) : PAo X (e :: es) (tDs c0 (x :: xs)) :=
  .mk fun pos pins s σ H Q I ⟨e, k⟩ => pa_cons ha.out hr.out (star1 _ _ _ hn) pos pins s σ H Q I ⟨e, fun v H1 s1 d1 => ⟨e, fun vs H2 s2 d2 => k _ H2 (s1.trans s2) (.cons (d1.same s2) d2)⟩⟩
theorem pd_lst (h : PAo X es (tDs c0 xs)) (hz : Nat.ble xs.length 1000 = true := by rfl) : PEo X (.List es pos) (tD c0 (.list xs)) := .mk <| (pe_lst h.out).imp fun σ H Q ⟨e, k⟩ => ⟨e, fun vs H1 s1 d1 => ⟨line1000 (by rw [d1.len]; exact Nat.le_of_ble_eq_true hz), fun l hl => by
  have s2 : Same H1 (upd H1 l (.lst vs)) := fun b o q => by rw [upd_ne (ne_of_none q hl)]; exact q
  exact k _ _ (s1.trans s2) (.lst upd_same (d1.same s2))⟩⟩
/-- [..] * n -/
theorem pd_rep {n : Nat} {j} {p2 : Pos} (ha : PEo X a (tD c0 (.list xs))) (hn : Nat.ble n 100 = true := by rfl) (hz : Nat.ble xs.length 5 = true := by rfl) : PEo X (.BinOp a .Mult (.Constant (.int (n : Nat)) j p2) pos) (tD c0 (.list (List.replicate n xs).flatten)) :=
  .mk <| (pe_op op_rep ha.out pe_int).imp fun σ H Q ⟨e, k⟩ => ⟨e, fun v H1 s1 d1 => by
    have hn := Nat.le_of_ble_eq_true hn
    have hz := Nat.le_of_ble_eq_true hz
    obtain ⟨a, ys, rfl, h1, h2⟩ : ∃ l ys, v = .ref l ∧ H1 l = some (.lst ys) ∧ Dys H1 ys xs := by
      cases d1 with
      | lst h1 h2 => exact ⟨_, _, rfl, h1, h2⟩
    have hl := h2.len
    refine ⟨a, (n : Int), ys, rfl, rfl, h1, by omega, by omega, line1000 ?_, fun p hp => ?_⟩
    · have z : ys.length * ((n : Int)).toNat ≤ 5 * 100 := Nat.mul_le_mul (by omega) (by omega)
      omega
    · have s3 : Same H1 (upd H1 p (.lst (List.replicate ((n : Int)).toNat ys).flatten)) := fun b o q => by rw [upd_ne (ne_of_none q hp)]; exact q
      rw [Int.toNat_natCast] at s3 ⊢
      exact k _ _ (s1.trans s3) (.lst upd_same ((h2.same s3).rep _))⟩
end
end L2
namespace L2
open PySem PySem.Spec PyProof.Rows
section
variable {X : Cx} {fe e : Expr} {es : List Expr} {tf : TE} {t : TA} {pos : Pos} {CX : CXT} {k : Nat} {f : Addr} {fd : FuncData} {ps : List Str} {sp : Sp} {ds : List Value} {dvs : List V} {E : XK}
end
end L2
namespace L2
open PySem PySem.Spec PyProof.Rows
theorem Dy.lst' {H : Hp} {v : V} {ds : List PyData} (h : Dy H v (.list ds)) : ∃ l xs, v = .ref l ∧ H l = some (.lst xs) ∧ Dys H xs ds := by
  cases h with
  | lst h1 h2 => exact ⟨_, _, rfl, h1, h2⟩
def tyN : PyData → String
  | .none => "NoneType"
  | .bool _ => "bool"
  | .int _ => "int"
  | .str _ => "str"
  | .list _ => "list"
  | .tuple _ => "tuple"
  | .dict _ => "dict"
theorem Dy.ty {K : PySem.W.Frag} {H : Hp} {v : V} {d : PyData} (h : Dy H v d) : TyOf K H v (.type (tyN d)) := by
  cases h with
  | non => exact .non
  | bl b => exact .bl b
  | int i => exact .int i
  | str x => exact .str x
  | lst h _ => exact .lst h
  | tup h _ => exact .tup h
  | dct h => exact .dK h
end L2

namespace L2
open PySem PySem.Spec PyProof.Rows
section
variable {P : Program} {w : World} {K : PySem.W.Frag} {mg : Str → Option Value} {base : Heap} {CX : CXT} {k : Nat} {f : Addr} {fd : FuncData} {ps : List Str} {sp sp' : Sp}
/-- a def that keeps two promises -/
theorem FnOk.or (F : FnOk P w K mg base CX k f fd ps sp) (G : FnOk P w K mg base CX k f fd ps sp') : FnOk P w K mg base CX k f fd ps (fun vs H Q E => sp vs H Q E ∨ sp' vs H Q E) :=
  ⟨fun vs H Q E h => h.elim (F.len vs H Q E) (G.len vs H Q E), fun A outer s H args us vs Q E hr e0 hb hv hs => hs.elim (F.run A outer s H args us vs Q E hr e0 hb hv) (G.run A outer s H args us vs Q E hr e0 hb hv)⟩
end

/-! ### closed statements -/
@[irreducible] def PSo (X : Cx) (st : Stmt) (t : TS) : Prop := PS X st t
@[irreducible] def PSso (X : Cx) (sts : List Stmt) (t : TS) : Prop := PSs X sts t
section
variable {X : Cx} {st : Stmt} {sts : List Stmt} {t u : TS}
theorem PSo.mk (h : PS X st t) : PSo X st t := by unfold PSo; exact h
theorem PSo.out (h : PSo X st t) : PS X st t := by unfold PSo at h; exact h
theorem PSso.mk (h : PSs X sts t) : PSso X sts t := by unfold PSso; exact h
theorem PSso.out (h : PSso X sts t) : PSs X sts t := by unfold PSso at h; exact h
theorem psso_cons {st2 : Stmt} (h : PSo X st t) (h2 : PSso X (st2 :: sts) u) : PSso X (st :: st2 :: sts) (tSeq t u) := .mk (pss_cons h.out h2.out)
theorem psso_one (h : PSo X st t) : PSso X [st] t := .mk (pss_one h.out)
theorem pso_setD {i : Nat} {x : Str} {e : Expr} {te : TE} {pos pos' : Pos} (hN : X.N.Nodup) (hi : X.N[i]? = some x) (hx : Loc X.env.scope x) (he : PEo X e te) (hs : swapsWith e (some (.Name x pos')) pos.line X.env = pure false := by rfl)
    (hf : X.fn x = true ∨ X.env.scope.names.lookup x = some .local := by first | exact .inl rfl | exact .inr rfl | assumption) : PSo X (.Assign [.Name x pos'] e pos) (tAsg te (gName i)) := .mk (ps_set hN hi hx he.out hs hf)
theorem pdo_cat {a b : Expr} {ta tb : TE} {pos : Pos} (ha : PE X a ta) (hb : PEo X b tb) : PE X (.BinOp a .Add b pos) (tOp rCat ta tb) := pe_op op_cat ha hb.out
end
end L2

/-! ### isinstance(error, C) of a caught error -/
namespace L2
open PySem PySem.Spec PyProof.Rows
/-- what the written part tells of an own class of errors -/
structure ErrTy (K : PySem.W.Frag) (C : Addr) : Prop where
  ga : PySem.W.findIn K (.ref C) "__getattribute__" = some (some (.builtin "BaseException.__getattribute__"))
  gh : PySem.W.findIn K (.ref C) "__getattr__" = some none
  mb : PySem.W.mroIn K C (.type "BaseException") = some true
  t : ClsTy K C
theorem ErrTy.c {K : PySem.W.Frag} {C : Addr} (t : ErrTy K C) : (PySem.W.clsIn K C).isSome = true := by
  have z := t.mb
  unfold PySem.W.mroIn at z
  cases e : PySem.W.clsIn K C with
  | none => rw [e] at z; cases z
  | some _ => rfl
theorem cls_none {K : PySem.W.Frag} {C : Addr} (t : ErrTy K C) : PySem.W.findObj K C none "__class__" = some (.bind (.builtin "getset_descriptor.__get__") (.builtin "object.__class__")) := by
  obtain ⟨cd, hc⟩ := Option.isSome_iff_exists.mp t.c
  unfold PySem.W.findObj
  rw [hc, Option.bind_some, t.t.a, Option.bind_some]
  simp [t.t.n, t.t.tk]
/-- error.__class__ -/
theorem err_cls {prog : Program} {w : World} {A : Around} {E : Value → Shared → Prop} {s : Shared} {K : PySem.W.Frag} {x C : Addr} {ox : Obj} {Q : Option Value → Shared → Prop} (t : ErrTy K C) (X : K.In s.heap) (I : PySem.W.InstAt s.heap x ox C none)
    (q : Q (some (.ref C)) { s with toks := s.toks + 1 }) : wpAny (model prog w) A (getAttr? (.ref x) "__class__") Q E s := by
  obtain ⟨hp, g, d, n, os⟩ := s
  have L0 := I.type (M := model prog w)
  have L1 := PySem.W.looks_findIn (M := model prog w) X t.ga
  have L2 := PySem.W.looks_findIn (M := model prog w) X t.gh
  have L3 := PySem.W.looks_find (M := model prog w) X I (cls_none t)
  have L4 := PySem.W.looks_mroIn (M := model prog w) X t.mb
  have fb := F.attr_ValueError.ga.bind (.ref x)
  have hk : builtinKind "BaseException.__getattribute__" = some .slot := by decide +kernel
  have hs : splitId "BaseException.__getattribute__" = some ("BaseException", "__getattribute__") := by decide +kernel
  have ha := F.args_bexc_ga (.ref x) (.str "__class__" n)
  unfold getAttr? getAttrBy? getAttrBy
  refine wpAny_bind (wpAny_mkText (wpAny_bind (wpAny_attempt (wpAny_holding (wpAny_bind (L0.at (wpAny_bind (L1.at ?_))))))))
  dsimp only
  rw [if_neg (by rw [show (Value.builtin "BaseException.__getattribute__" == Value.builtin "object.__getattribute__") = false from by decide +kernel, Bool.and_false]; exact Bool.false_ne_true)]
  unfold getAttrByItsOwn hookBefore
  refine wpAny_bind (L2.at ?_)
  refine wpAny_bind (wpAny_attempt (wpAny_holding ?_))
  unfold callGetattribute
  rw [if_neg (by decide +kernel)]
  unfold boundAndCalled
  refine wpAny_bind (wpAny_of_eq fb (wpAny_call (codeAny_call_builtin F.attr_ValueError.ga.plain F.entry_bexc_ga ?_)))
  have LI : PySem.W.Looks (model prog w) hp (isInstance (.ref x) (.type "BaseException")) true := L0.andThen L4
  simp only [checkBuiltinCall, hk, hs]
  show wpAny _ _ (isInstance (.ref x) (.type "BaseException") >>= _) _ _ _
  refine wpAny_bind (LI.at ?_)
  simp only [Bool.not_true, Bool.false_eq_true, if_false]
  refine wpAny_of_eq (a := ()) ha ?_
  unfold Builtin.«object.__getattribute__»
  refine wpAny_bind (wpAny_of_eq (a := (Value.ref x, [Value.str (Str.ofString "__class__") n])) rfl ?_)
  refine wpAny_bind (wpAny_of_eq (a := Str.ofString "__class__") rfl ?_)
  refine wpAny_bind (L0.at (wpAny_bind (L3.at ?_)))
  show wpAny _ _ (holding _ (call _ _) >>= _) _ _ _
  refine wpAny_bind (wpAny_holding (wpAny_call (PySem.W.class_get (s := ⟨hp, g, d, n + 1, os⟩) (ox := ox) (od := none) X I t.t.m ?_)))
  refine wpAny_pure ?_
  show wpAny _ _ (handedOut (.ref C)) _ _ _
  exact PySem.W.handed_on rfl (wpAny_pure q)
theorem kitx_err {K : PySem.W.Frag} {a C : Addr} (t : ErrTy K C) : PySem.W.KitX K (.ref a) (.ref C) (fun h => ∃ ox, PySem.W.InstAt h a ox C none) where
  ty := fun _ _ _ ⟨_, I⟩ => I.type
  it := fun M h X _ => by
    have z := t.c
    unfold PySem.W.clsIn at z
    split at z
    · rename_i ho
      intro A Q E s k q
      unfold isType loadHead
      exact wpAny_bind (wpAny_loadPart (k _ _ (X _ _ ho)) (wpAny_pure q))
    · cases z
  ne := fun h tp dd its n sl X htp => by
    have z := t.c
    refine Bool.eq_false_iff.mpr fun q => ?_
    obtain rfl : C = tp := Value.ref.inj (beq_iff_eq.mp q)
    unfold PySem.W.clsIn at z
    split at z
    · rename_i ho
      cases (X _ _ ho).symm.trans htp
    · cases z
  ca := fun X ⟨ox, I⟩ k => err_cls t X I k
/-- the asked class, as it is written -/
def askC (c : V) (v : Value) : Prop := (∃ n, c = .ty n ∧ v = .type n) ∨ ∃ D, c = .ref D ∧ v = .ref D
def rIsE (K : PySem.W.Frag) : List V → Hp → VK → Prop := fun xs H Q => ∃ a C c v b, xs = [.ref a, c] ∧ H a = some (ErrO a C) ∧ ErrTy K C ∧ askC c v ∧ PySem.W.kitOne K (.ref C) v = some b ∧ Q (.bl b) H
section
variable {X : Cx}
theorem call_isinstE : CallR X (.builtin "isinstance") (rIsE X.K) := by
  intro pins s σ H xs us Q I r h
  obtain ⟨a, C, c, v, b, rfl, he, t, ask, e, q⟩ := h
  obtain ⟨u, w, rfl, rx, rc⟩ := vals2 r
  cases (show u = Value.ref a from rx)
  have ew : w = v := by
    rcases ask with ⟨n, rfl, rfl⟩ | ⟨D, rfl, rfl⟩
    · exact rc
    · exact rc
  subst ew
  obtain ⟨⟨oe, vs, h1, h2, h3, h4, h5⟩, _, _⟩ := (show ObjOk X.prog X.w H s.heap a (ErrO a C) from I.hok a _ he)
  have ia : PySem.W.InstAt s.heap a oe C none := by
    obtain ⟨oc, od, odt, osl⟩ := oe
    dsimp only at h2 h3 h4
    subst h2 h3 h4
    exact ⟨h1, rfl, rfl, trivial⟩
  exact PySem.W.kia_one (kitx_err t) I.kIn ⟨oe, ia⟩ e (fun z => nomatch z) fun tk => ⟨.bl b, H, I.tok tk, rfl, q⟩
theorem call_isinstEK (K : PySem.W.Frag) (h : X.K = K := by rfl) : CallR X (.builtin "isinstance") (rIsE K) := by subst h; exact call_isinstE
end
end L2

/-! ### any(xs) where an error is handled -/
namespace L2
open PySem PySem.Spec PyProof.Rows
theorem entry_unchain : entryFor table "proto.unchain" = some Builtin.«proto.unchain» := entryFor_of_tree (by kernel_rfl)
section
variable {prog : Program} {w : World} {A : Around} {E : Value → Shared → Prop} {s : Shared}
/-- a new error is raised where the error at a, without a context, is handled -/
theorem raiseNew_h {α : Type} {a e : Addr} {ob oe : Obj} {vs ws : Array Value} {Q : α → Shared → Prop} (hh : A.handled = some (.ref a)) (hne : a ≠ e) (he : s.heap.get? e = some ob) (hd : ob.data = .fields ws) (hz : 2 < ws.size)
    (ha : s.heap.get? a = some oe) (hv : oe.data = .fields vs) (h2 : vs[2]? = some Value.none) (k : E (.ref e) { s with heap := s.heap.update e (Obj.mapFields (·.setIfInBounds 2 (.ref a))) }) : wpAny (model prog w) A (raiseNew (.ref e) : Sem α) Q E s := by
  unfold raiseNew
  refine wpAny_bind (wpAny_handled ?_)
  rw [hh]
  dsimp only
  rw [if_pos (show (Value.ref a != Value.ref e) = true from by simp [hne])]
  refine wpAny_bind (wpAny_holding (wpAny_runValue (codeAny_builtin entry_unchain ?_)))
  show wpAny _ _ (field (.ref a) 2 >>= _) _ _ s
  refine wpAny_bind (wpAny_field ha hv h2 ?_)
  rw [if_pos (by decide)]
  refine wpAny_bind (wpAny_pure (wpAny_pure ?_))
  show wpAny _ _ (setField (.ref e) 2 (.ref a) >>= _) _ _ s
  exact wpAny_bind (wpAny_setField he hd hz (wpAny_throw k))
/-- a list's walk ends where the error at a, without a context, is handled -/
theorem next_end_h {a it l : Addr} {i : Nat} {items : Array Value} {oe : Obj} {vs : Array Value} {Q : Option Value → Shared → Prop} (hh : A.handled = some (.ref a)) (hit : s.heap.IsListIter it l i) (hl : s.heap.IsList l items) (hx : items[i]? = none)
    (ha : s.heap.get? a = some oe) (he : oe.data = .fields vs) (h2 : vs[2]? = some Value.none) (hai : a ≠ it) (k : ∀ h', Heap.ExtBut it s.heap h' → Q none { s with heap := h' }) : wpAny (model prog w) A (pyNext (.ref it)) Q E s := by
  obtain ⟨o, ho, hc, hd⟩ := id hit
  obtain ⟨ol, hol, _, nl, hdl⟩ := hl
  unfold pyNext
  refine wpAny_bind (wpAny_attempt (wpAny_callSpecial?_slot (name := Str.ofString "__next__") hit.typeIs slot_listiter_next (wpAny_call_entry slot_listiter_next hit.typeIs entry_listiter_next ?_ (args_listiter_next _))))
  show wpAny _ _ (field (.ref it) 0 >>= _) _ _ s
  refine wpAny_bind (wpAny_field ho hd (x := .ref l) rfl ?_)
  show wpAny _ _ (if (Value.ref l == Value.none) = true then _ else _) _ _ s
  rw [if_neg (by exact Bool.false_ne_true)]
  show wpAny _ _ (field (.ref it) 1 >>= _) _ _ s
  refine wpAny_bind (wpAny_field ho hd (x := .int i 0) rfl ?_)
  show wpAny _ _ (seqItems? (.ref l) >>= _) _ _ s
  refine wpAny_bind (wpAny_seqItems hol hdl ?_)
  simp only [Int.toNat_natCast, hx]
  refine wpAny_bind (wpAny_rule (wpAny_bind (wpAny_setField ho hd (by simp) ?_)))
  refine wpAny_bind (m := newExc (.type "StopIteration") []) ?_
  unfold newExc newTuple
  refine wpAny_bind (wpAny_newObj_type ?_ (by size_fits))
  refine wpAny_bind (m := firstArgMember _ _) (wpAny_of_eq (a := Value.none) (by first | rfl | (simp only [firstArgMember]; rfl)) ?_)
  refine wpAny_newObj_type ?_ (by size_fits)
  have e1 : ∀ b o, b ≠ it → s.heap.get? b = some o → (((s.heap.update it (Obj.mapFields fun x => x.setIfInBounds 0 Value.none)).push { cls := .type "tuple", data := .seq #[] }).push { cls := .type "StopIteration", data := .fields (#[.ref (s.heap.update it (Obj.mapFields fun x => x.setIfInBounds 0 Value.none)).objs.size, .none, .none, .none, .bool false, .none] ++ ownMembersOf (.type "StopIteration") []) }).get? b = some o := fun b o n q =>
    Heap.get?_push_of_some _ (Heap.get?_push_of_some _ ((Heap.get?_update_other _ _ (Ne.symm n)).trans q))
  have lt := Heap.lt_size (Heap.get?_push_of_some (h := s.heap.update it (Obj.mapFields fun x => x.setIfInBounds 0 Value.none)) { cls := .type "tuple", data := .seq #[] } ((Heap.get?_update_other _ _ (Ne.symm hai)).trans ha))
  refine raiseNew_h (show A.in1.handled = some (.ref a) from hh) (Nat.ne_of_lt lt) (Heap.get?_push_size _ rfl) rfl (by simp [ownMembersOf]) (e1 a oe hai ha) he h2 ?_
  refine wpAny_bind (wpAny_isInstance (T := "StopIteration") (b := true) ⟨_, Heap.get?_update_self _ (Heap.get?_push_size _ rfl) rfl, rfl⟩ isSubtype_stop ?_)
  refine wpAny_pure (k _ fun b o n q => (Heap.get?_update_other _ _ fun z => ?_).trans (e1 b o n q))
  have l2 := Heap.lt_size (Heap.get?_push_of_some (h := s.heap.update it (Obj.mapFields fun x => x.setIfInBounds 0 Value.none)) { cls := .type "tuple", data := .seq #[] } ((Heap.get?_update_other _ _ (Ne.symm n)).trans q))
  exact Nat.lt_irrefl _ (z ▸ l2)
/-- a list's walk where the error at a, without a context, is handled -/
theorem walk_list_h {a I l : Addr} {oe : Obj} {vs : Array Value} (hh : A.handled = some (.ref a)) (hne : l ≠ I) (hai : a ≠ I) (hv : oe.data = .fields vs) (h2 : vs[2]? = some Value.none) (items : Array Value) :
    Walks prog w A I [I, l, a] [I] items.size (fun i v => items[i]? = some v) (fun i h => h.IsListIter I l i ∧ h.IsList l items ∧ h.get? a = some oe) where
  sub := fun b hb => by simp at hb; simp [hb]
  frame := fun _ _ _ st hk => ⟨st.1.at fun o e => hk I (by simp) o e, st.2.1.at fun o e => hk l (by simp) o e, hk a (by simp) oe st.2.2⟩
  item := fun i s Q E hi st hQ => wpAny_pyNext_list_item st.1 st.2.1 (x := items[i]) (by simp [hi]) fun h' it' hs =>
    hQ _ h' s.toks (by simp [hi]) ⟨it', st.2.1.extBut hs.extBut hne, hs.extBut a oe hai st.2.2⟩ fun b o hb e => hs.extBut b o (fun z => hb (by simp [z])) e
  done := fun s Q E st hQ => next_end_h hh st.1 st.2.1 (by simp) st.2.2 hv h2 hai fun h' he => hQ h' s.toks fun b o hb e => he b o (fun z => hb (by simp [z])) e
  self := fun _ _ _ _ st hQ => wpAny_pyIter_listiter st.1 hQ
end
section
variable {X : Cx}
def rAnyH (K : PySem.W.Frag) (a : Addr) : List V → Hp → VK → Prop := fun xs H Q => ∃ (p : Addr) (bs : List Bool) (C : Addr), xs = [.ref p] ∧ SqL K H p (bs.map V.bl) ∧ H a = some (ErrO a C) ∧ Q (.bl (bs.any id)) H
theorem call_anyH {a : Addr} (hh : X.A.handled = some (.ref a)) : CallR X (.builtin "any") (rAnyH X.K a) := by
  intro pins s σ H xs us Q I r h
  obtain ⟨p, bs, C, rfl, hq, he, q⟩ := h
  obtain ⟨u, rfl, rx⟩ := vals1 r
  cases rx
  obtain ⟨its, rv, pl, hz⟩ := I.list hq
  have hl := pl.isList
  have hlt : p < s.heap.objs.size := by obtain ⟨_, e, _⟩ := hl; exact Heap.lt_size e
  obtain ⟨⟨oe, vs, h1, h2, h3, h4, h5⟩, _, _⟩ := (show ObjOk X.prog X.w H s.heap a (ErrO a C) from I.hok a _ he)
  have hlen := rv.length
  rw [List.length_map] at hlen
  refine call_any_walk (wpAny_pyIter_list hl ?_)
  refine ⟨s.heap.objs.size, _, _, _, _, _, fun i => (bs[i]?).getD false, rfl, walk_list_h (A := X.A.in1) (oe := oe) (show X.A.handled = some (.ref a) from hh) (Nat.ne_of_lt hlt) (Nat.ne_of_lt (Heap.lt_size h1)) h4 h5 its.toArray, ⟨⟨_, Heap.get?_push_size _ rfl, rfl, rfl⟩, hl.push _, Heap.get?_push_of_some _ h1⟩, ?_, ?_⟩
  · intro i v s' Q' E' hP hQ
    have hP' : its[i]? = some v := by simpa using hP
    obtain ⟨b, e, rfl⟩ := vals_bl rv hP'
    dsimp only at hQ
    rw [e] at hQ
    exact wpAny_truthy_bool hQ
  · intro h' tk hk
    have I1 : Inv X pins σ H { s with heap := s.heap.push { cls := .type "list_iterator", data := .fields #[.ref p, .int 0 0] } } := I.kept (t' := s.toks) fun b o e => Heap.get?_push_of_some _ e
    obtain ⟨f0, f1, f2, f3, f4, f5⟩ := I.fpOk (b := s.heap.objs.size) (Nat.le_refl _) (I.hok.fresh (Nat.le_refl _))
    refine ⟨.bl (bs.any id), H, I1.turned (t' := tk) (it := s.heap.objs.size) (fun b o hb e => hk b o (by simpa using hb) e) f0 f1 f3 f4 f5, ?_, q⟩
    show Value.bool _ = Value.bool _
    rw [List.size_toArray, ← hlen, range_any]
theorem call_anyHK (K : PySem.W.Frag) {a : Addr} (hh : X.A.handled = some (.ref a)) (h : X.K = K := by rfl) : CallR X (.builtin "any") (rAnyH K a) := by subst h; exact call_anyH hh
end
end L2

namespace TC
/-! sets of columns as numbers -/
def Sb (a b : Nat) : Prop := a ||| b = b
instance (a b : Nat) : Decidable (Sb a b) := inferInstanceAs (Decidable (a ||| b = b))
theorem Sb.refl (a : Nat) : Sb a a := Nat.or_self a
theorem Sb.trans {a b c : Nat} (h : Sb a b) (k : Sb b c) : Sb a c := by
  unfold Sb at *
  rw [← k, ← Nat.or_assoc, h]
theorem Sb.left (a b : Nat) : Sb a (a ||| b) := by
  unfold Sb
  rw [← Nat.or_assoc, Nat.or_self]
theorem Sb.right (a b : Nat) : Sb b (a ||| b) := by
  unfold Sb
  rw [Nat.or_comm a b, ← Nat.or_assoc, Nat.or_self]
theorem Sb.le {a b : Nat} (h : Sb a b) : a ≤ b := by
  unfold Sb at h
  rw [← h]; exact Nat.left_le_or
theorem Sb.or {a b c : Nat} (h : Sb a c) (k : Sb b c) : Sb (a ||| b) c := by
  unfold Sb at *
  rw [Nat.or_assoc, k, h]
theorem Sb.iff_bit {a b : Nat} : Sb a b ↔ ∀ i, a.testBit i = true → b.testBit i = true := by
  unfold Sb
  constructor
  · intro h i hi
    rw [← h, Nat.testBit_or, hi]; rfl
  · intro h
    apply Nat.eq_of_testBit_eq
    intro i
    rw [Nat.testBit_or]
    cases e : a.testBit i with
    | true => rw [h i e]; rfl
    | false => rfl

/-! one pass over the rules -/
def stp (s : Nat) (p : Nat × Nat) : Nat := if Sb p.1 s then s ||| p.2 else s
def pass (ps : List (Nat × Nat)) (s : Nat) : Nat := ps.foldl stp s
def passN (ps : List (Nat × Nat)) : Nat → Nat → Nat
  | 0, s => s
  | n + 1, s => passN ps n (pass ps s)
/-- what a set tells: as many passes as there are rules -/
def cl (ps : List (Nat × Nat)) (s : Nat) : Nat := passN ps ps.length s
end TC

namespace TC
/-- the sets with one column less -/
def lesser (c s : Nat) : List Nat := ((List.range c).filter fun k => s.testBit k).map fun k => s ^^^ 2 ^ k
end TC

namespace TC
/-! closed sets, in general -/
theorem Sb.and {a b c : Nat} (h : Sb a b) (k : Sb a c) : Sb a (b &&& c) := Sb.iff_bit.mpr fun i hi => by
  rw [Nat.testBit_and, Sb.iff_bit.mp h i hi, Sb.iff_bit.mp k i hi]; rfl
theorem Sb.zero (a : Nat) : Sb 0 a := by unfold Sb; exact Nat.zero_or a
theorem Sb.lt {a b k : Nat} (h : Sb a b) (hb : b < 2 ^ k) : a < 2 ^ k := Nat.lt_of_le_of_lt h.le hb
/-! as many passes as columns do -/
end TC

namespace TC
/-! the example: a row for each closed set -/
end TC

namespace TC
/-! places of rules that lead somewhere -/
/-! a rule that brings more -/
end TC

namespace TC
/-! sheets and their steps -/
def low (a b v : Nat) : Nat := if v = a ∨ v = b then min a b else v
theorem low_le (a b v : Nat) : low a b v ≤ v := by
  unfold low
  split
  · rename_i h
    rcases h with rfl | rfl
    · exact Nat.min_le_left _ _
    · exact Nat.min_le_right _ _
  · exact Nat.le_refl _
def stepRow (c r : Nat) (f g row : List Nat) : List Nat := (List.range c).map fun j => if r.testBit j = true then low (f.getD j 0) (g.getD j 0) (row.getD j 0) else row.getD j 0
def stepS (c r i k : Nat) (S : List (List Nat)) : List (List Nat) := S.map (stepRow c r (S.getD i []) (S.getD k []))
theorem stepRow_len (c r : Nat) (f g row : List Nat) : (stepRow c r f g row).length = c := by unfold stepRow; rw [List.length_map, List.length_range]
theorem stepRow_at {c r j : Nat} {f g row : List Nat} (h : j < c) : (stepRow c r f g row).getD j 0 = if r.testBit j = true then low (f.getD j 0) (g.getD j 0) (row.getD j 0) else row.getD j 0 := by
  unfold stepRow
  simp [List.getD, List.getElem?_map, List.getElem?_range, h]
theorem getD_out {row : List Nat} {j : Nat} (h : row.length ≤ j) : row.getD j 0 = 0 := by
  simp [List.getD, List.getElem?_eq_none h]
theorem stepRow_le {c r j : Nat} {f g row : List Nat} : (stepRow c r f g row).getD j 0 ≤ row.getD j 0 := by
  by_cases h : j < c
  · rw [stepRow_at h]
    split
    · exact low_le _ _ _
    · exact Nat.le_refl _
  · rw [getD_out (by rw [stepRow_len]; omega)]
    exact Nat.zero_le _
/-! alike in a set -/
def Lk (s : Nat) (x y : List Nat) : Prop := ∀ j, s.testBit j = true → x.getD j 0 = y.getD j 0
theorem Lk.or {a b : Nat} {x y : List Nat} (h : Lk a x y) (k : Lk b x y) : Lk (a ||| b) x y := fun j hj => by
  rw [Nat.testBit_or, Bool.or_eq_true] at hj
  rcases hj with e | e
  · exact h j e
  · exact k j e
theorem Lk.sub {a b : Nat} {x y : List Nat} (h : Lk b x y) (k : Sb a b) : Lk a x y := fun j hj => h j (Sb.iff_bit.mp k j hj)
theorem Lk.symm {a : Nat} {x y : List Nat} (h : Lk a x y) : Lk a y x := fun j hj => (h j hj).symm
theorem Lk.refl (a : Nat) (x : List Nat) : Lk a x x := fun _ _ => rfl
theorem Lk.trans {a : Nat} {x y z : List Nat} (h : Lk a x y) (k : Lk a y z) : Lk a x z := fun j hj => (h j hj).trans (k j hj)
/-! rows with 0 in a set -/
def Zer (s : Nat) (x : List Nat) : Prop := ∀ j, s.testBit j = true → x.getD j 0 = 0
theorem Zer.step {s c r : Nat} {f g x : List Nat} (h : Zer s x) : Zer s (stepRow c r f g x) := fun j hj => Nat.le_zero.mp (by have := h j hj; have := stepRow_le (c := c) (r := r) (j := j) (f := f) (g := g) (row := x); omega)
end TC

namespace TC
/-! a step, column by column -/
/-- each part has 0 throughout in its own row -/
def ZP (pts : List Nat) (S : List (List Nat)) : Prop := ∀ (i p : Nat), pts[i]? = some p → ∃ x, S[i]? = some x ∧ Zer p x
theorem ZP.step {c r i k : Nat} {pts : List Nat} {S : List (List Nat)} (h : ZP pts S) : ZP pts (stepS c r i k S) := fun j p hp => by
  obtain ⟨x, hx, hz⟩ := h j p hp
  refine ⟨stepRow c r (S.getD i []) (S.getD k []) x, ?_, hz.step⟩
  unfold stepS
  rw [List.getElem?_map, hx]; rfl
end TC

namespace TC
/-! a number by its bits; rows of an example -/
def bitsN (f : Nat → Bool) : Nat → Nat
  | 0 => 0
  | n + 1 => bitsN f n + (if f n = true then 2 ^ n else 0)
theorem bitsN_lt (f : Nat → Bool) : ∀ n, bitsN f n < 2 ^ n
  | 0 => by show 0 < 1; decide
  | n + 1 => by
    have h := bitsN_lt f n
    have e : 2 ^ (n + 1) = 2 ^ n * 2 := Nat.pow_succ ..
    show bitsN f n + (if f n = true then 2 ^ n else 0) < _
    split <;> omega
/-- in which columns two rows are alike -/
def alikeN (c : Nat) (x y : List Nat) : Nat := bitsN (fun t => decide (x.getD t 0 = y.getD t 0)) c
/-- the sets in which two rows of a table are alike -/
def MeetsT (c : Nat) (rs : List (List Nat)) (ms : List Nat) : Prop := ∀ x : Nat, x ∈ ms ↔ ∃ (i j : Nat) (a b : List Nat), j < i ∧ rs[i]? = some a ∧ rs[j]? = some b ∧ x = alikeN c a b
end TC
namespace TC
/-- the meetings of the rows ahead of (i, j) -/
structure MI (c : Nat) (rs : List (List Nat)) (i j : Nat) (ms : List Nat) : Prop where
  mem : ∀ x : Nat, x ∈ ms ↔ ∃ (i' j' : Nat) (a b : List Nat), j' < i' ∧ (i' < i ∨ (i' = i ∧ j' < j)) ∧ rs[i']? = some a ∧ rs[j']? = some b ∧ x = alikeN c a b
  nd : ms.Nodup
theorem MI.nil {c : Nat} {rs : List (List Nat)} : MI c rs 0 0 [] :=
  ⟨fun x => ⟨fun h => (nomatch h), fun ⟨i', j', _, _, h1, h2, _⟩ => absurd h2 (by omega)⟩, List.nodup_nil⟩
theorem MI.row {c i : Nat} {rs : List (List Nat)} {ms : List Nat} (h : MI c rs i i ms) : MI c rs (i + 1) 0 ms :=
  ⟨fun x => by
    rw [h.mem]
    constructor
    · rintro ⟨i', j', a, b, h1, h2, r⟩
      exact ⟨i', j', a, b, h1, by omega, r⟩
    · rintro ⟨i', j', a, b, h1, h2, r⟩
      exact ⟨i', j', a, b, h1, by omega, r⟩, h.nd⟩
theorem MI.put {c i j : Nat} {rs : List (List Nat)} {ms : List Nat} {x y : List Nat} (h : MI c rs i j ms) (hj : j < i) (hx : rs[i]? = some x) (hy : rs[j]? = some y) (hm : alikeN c x y ∉ ms) : MI c rs i (j + 1) (ms ++ [alikeN c x y]) :=
  ⟨fun z => by
    rw [List.mem_append, List.mem_singleton]
    constructor
    · rintro (hz | rfl)
      · obtain ⟨i', j', a, b, h1, h2, r⟩ := (h.mem z).mp hz
        exact ⟨i', j', a, b, h1, by omega, r⟩
      · exact ⟨i, j, x, y, hj, by omega, hx, hy, rfl⟩
    · rintro ⟨i', j', a, b, h1, h2, ha, hb, rfl⟩
      by_cases q : i' < i ∨ (i' = i ∧ j' < j)
      · exact .inl ((h.mem _).mpr ⟨i', j', a, b, h1, q, ha, hb, rfl⟩)
      · obtain ⟨rfl, rfl⟩ : i' = i ∧ j' = j := by omega
        rw [hx] at ha
        rw [hy] at hb
        cases ha
        cases hb
        exact .inr rfl, List.nodup_append.mpr ⟨h.nd, by simp, fun a ha b hb z => by
          have e : b = alikeN c x y := by simpa using hb
          exact hm (by rw [← e, ← z]; exact ha)⟩⟩
theorem MI.lt {c i j : Nat} {rs : List (List Nat)} {ms : List Nat} (h : MI c rs i j ms) (hc : c ≤ 6) : ∀ x ∈ ms, x < 64 := fun x hx => by
  obtain ⟨_, _, a, b, _, _, _, _, rfl⟩ := (h.mem x).mp hx
  have h1 := bitsN_lt (fun t => decide (a.getD t 0 = b.getD t 0)) c
  have h2 : 2 ^ c ≤ 2 ^ 6 := Nat.pow_le_pow_right (by decide) hc
  exact Nat.lt_of_lt_of_le h1 h2
theorem MI.done {c : Nat} {rs : List (List Nat)} {ms : List Nat} (h : MI c rs rs.length 0 ms) : MeetsT c rs ms := fun x => by
  rw [h.mem]
  constructor
  · rintro ⟨i', j', a, b, h1, _, r⟩
    exact ⟨i', j', a, b, h1, r⟩
  · rintro ⟨i', j', a, b, h1, ha, r⟩
    exact ⟨i', j', a, b, h1, .inl (List.getElem?_eq_some_iff.mp ha).1, ha, r⟩
end TC

namespace TC
/-! thin rules -/
/-- what narrowed gives -/
def NarP (ps : List (Nat × Nat)) (c left right l : Nat) : Prop := Sb l left ∧ (Sb right (cl ps left) → Sb right (cl ps l)) ∧ ∀ o ∈ lesser c l, ¬ Sb right (cl ps o)
theorem NarP.here {ps : List (Nat × Nat)} {c left right : Nat} (h : ∀ o ∈ lesser c left, ¬ Sb right (cl ps o)) : NarP ps c left right left := ⟨Sb.refl _, id, h⟩
/-! no rule to spare -/
/-! gathered by their lefts -/
def oldR (g : List (Nat × Nat)) (l : Nat) : Nat := ((g.find? fun p => decide (p.1 = l)).map (·.2)).getD 0
def putP (g : List (Nat × Nat)) (l r : Nat) : List (Nat × Nat) := if (g.any fun p => decide (p.1 = l)) = true then g.map (fun p => if p.1 = l then (p.1, r) else p) else g ++ [(l, r)]
def gat (g : List (Nat × Nat)) (x : Nat × Nat) : List (Nat × Nat) := putP g x.1 (oldR g x.1 ||| x.2)
theorem fst_inj : ∀ {g : List (Nat × Nat)} {p q : Nat × Nat}, (g.map (·.1)).Nodup → p ∈ g → q ∈ g → p.1 = q.1 → p = q
  | [], _, _, _, h, _, _ => nomatch h
  | x :: g, p, q, hn, hp, hq, e => by
    have hn' : (x.1 :: g.map (·.1)).Nodup := hn
    obtain ⟨h1, h2⟩ := List.nodup_cons.mp hn'
    rcases List.mem_cons.mp hp with hp | hp <;> rcases List.mem_cons.mp hq with hq | hq
    · rw [hp, hq]
    · exact absurd (List.mem_map.mpr ⟨q, hq, by rw [← e, hp]⟩) h1
    · exact absurd (List.mem_map.mpr ⟨p, hp, by rw [e, hq]⟩) h1
    · exact fst_inj h2 hp hq e
structure Gat (K g : List (Nat × Nat)) : Prop where
  nd : (g.map (·.1)).Nodup
  bits : ∀ p ∈ g, ∀ j, p.2.testBit j = true ↔ ∃ x ∈ K, x.1 = p.1 ∧ x.2.testBit j = true
  there : ∀ x ∈ K, ∃ p ∈ g, p.1 = x.1
  fr : ∀ p ∈ g, ∃ x ∈ K, x.1 = p.1
theorem Gat.step {K g : List (Nat × Nat)} (h : Gat K g) (x : Nat × Nat) : Gat (K ++ [x]) (gat g x) := by
  unfold gat putP
  by_cases e : (g.any fun p => decide (p.1 = x.1)) = true
  · rw [if_pos e]
    obtain ⟨p0, hf⟩ : ∃ p0, g.find? (fun p => decide (p.1 = x.1)) = some p0 := by
      cases hq : g.find? (fun p => decide (p.1 = x.1)) with
      | some p0 => exact ⟨p0, rfl⟩
      | none =>
        obtain ⟨p, hp, hpe⟩ := List.any_eq_true.mp e
        exact absurd hpe (List.find?_eq_none.mp hq p hp)
    have hm : p0 ∈ g := List.mem_of_find?_eq_some hf
    have he : p0.1 = x.1 := by have := List.find?_some hf; simpa using this
    have ho : oldR g x.1 = p0.2 := by unfold oldR; rw [hf]; rfl
    rw [ho]
    have hmem : ∀ p', p' ∈ g.map (fun p => if p.1 = x.1 then (p.1, p0.2 ||| x.2) else p) → ∃ p ∈ g, p'.1 = p.1 ∧ (p.1 = x.1 → p'.2 = p0.2 ||| x.2 ∧ p = p0) ∧ (p.1 ≠ x.1 → p' = p) := fun p' hp' => by
      obtain ⟨p, hp, rfl⟩ := List.mem_map.mp hp'
      by_cases ep : p.1 = x.1
      · rw [if_pos ep]
        exact ⟨p, hp, rfl, fun _ => ⟨rfl, fst_inj h.nd hp hm (ep.trans he.symm)⟩, fun z => absurd ep z⟩
      · rw [if_neg ep]
        exact ⟨p, hp, rfl, fun z => absurd z ep, fun _ => rfl⟩
    refine ⟨?_, fun p' hp' j => ?_, fun y hy => ?_, fun p' hp' => ?_⟩
    · have : (g.map (fun p => if p.1 = x.1 then (p.1, p0.2 ||| x.2) else p)).map (·.1) = g.map (·.1) := by
        rw [List.map_map]
        refine List.map_congr_left fun p _ => ?_
        show (if p.1 = x.1 then (p.1, p0.2 ||| x.2) else p).1 = p.1
        split <;> rfl
      rw [this]
      exact h.nd
    · obtain ⟨p, hp, e1, e2, e3⟩ := hmem p' hp'
      by_cases ep : p.1 = x.1
      · obtain ⟨e4, rfl⟩ := e2 ep
        rw [e4, Nat.testBit_or, Bool.or_eq_true, h.bits _ hp j]
        constructor
        · rintro (⟨y, hy, g1, g2⟩ | g)
          · exact ⟨y, List.mem_append_left _ hy, by rw [g1, e1], g2⟩
          · exact ⟨x, by simp, by rw [e1, ep], g⟩
        · rintro ⟨y, hy, g1, g2⟩
          rcases List.mem_append.mp hy with hy | hy
          · exact .inl ⟨y, hy, by rw [g1, e1], g2⟩
          · have : y = x := by simpa using hy
            rw [this] at g2
            exact .inr g2
      · rw [e3 ep, h.bits p hp j]
        constructor
        · rintro ⟨y, hy, g1, g2⟩
          exact ⟨y, List.mem_append_left _ hy, g1, g2⟩
        · rintro ⟨y, hy, g1, g2⟩
          rcases List.mem_append.mp hy with hy | hy
          · exact ⟨y, hy, g1, g2⟩
          · have : y = x := by simpa using hy
            rw [this] at g1
            exact absurd g1.symm ep
    · have : ∃ p ∈ g, p.1 = y.1 := by
        rcases List.mem_append.mp hy with hy | hy
        · exact h.there y hy
        · have : y = x := by simpa using hy
          exact ⟨p0, hm, by rw [this]; exact he⟩
      obtain ⟨p, hp, ep⟩ := this
      refine ⟨if p.1 = x.1 then (p.1, p0.2 ||| x.2) else p, List.mem_map.mpr ⟨p, hp, rfl⟩, ?_⟩
      rw [← ep]
      split <;> rfl
    · obtain ⟨p, hp, e1, _, _⟩ := hmem p' hp'
      obtain ⟨y, hy, ey⟩ := h.fr p hp
      exact ⟨y, List.mem_append_left _ hy, by rw [ey, e1]⟩
  · rw [if_neg e]
    have hno : ∀ p ∈ g, p.1 ≠ x.1 := fun p hp z => e (List.any_eq_true.mpr ⟨p, hp, by simp [z]⟩)
    have ho : oldR g x.1 = 0 := by
      unfold oldR
      rw [List.find?_eq_none.mpr fun p hp => by simp [hno p hp]]
      rfl
    rw [ho, Nat.zero_or]
    refine ⟨?_, fun p hp j => ?_, fun y hy => ?_, fun p hp => ?_⟩
    · rw [List.map_append, List.nodup_append]
      refine ⟨h.nd, by simp, fun a ha b hb z => ?_⟩
      obtain ⟨p, hp, rfl⟩ := List.mem_map.mp ha
      have : b = x.1 := by simpa using hb
      exact hno p hp (z.trans this)
    · rcases List.mem_append.mp hp with hp | hp
      · rw [h.bits p hp j]
        constructor
        · rintro ⟨y, hy, g1, g2⟩
          exact ⟨y, List.mem_append_left _ hy, g1, g2⟩
        · rintro ⟨y, hy, g1, g2⟩
          rcases List.mem_append.mp hy with hy | hy
          · exact ⟨y, hy, g1, g2⟩
          · have : y = x := by simpa using hy
            rw [this] at g1
            exact absurd g1.symm (hno p hp)
      · have : p = (x.1, x.2) := by simpa using hp
        subst this
        constructor
        · intro g
          exact ⟨x, by simp, rfl, g⟩
        · rintro ⟨y, hy, g1, g2⟩
          rcases List.mem_append.mp hy with hy | hy
          · obtain ⟨p, hp, ep⟩ := h.there y hy
            exact absurd (ep.trans g1) (hno p hp)
          · have : y = x := by simpa using hy
            rw [this] at g2
            exact g2
    · rcases List.mem_append.mp hy with hy | hy
      · obtain ⟨p, hp, ep⟩ := h.there y hy
        exact ⟨p, List.mem_append_left _ hp, ep⟩
      · have : y = x := by simpa using hy
        exact ⟨(x.1, x.2), by simp, by rw [this]⟩
    · rcases List.mem_append.mp hp with hp | hp
      · obtain ⟨y, hy, ey⟩ := h.fr p hp
        exact ⟨y, List.mem_append_left _ hy, ey⟩
      · have : p = (x.1, x.2) := by simpa using hp
        exact ⟨x, by simp, by rw [this]⟩
end TC

namespace K13
open PySem L2 TC
def top (i : Nat) : Stmt := PySem.Challenge.pw_tellscolumns_k13_texts.main.body.getD i (.Pass ⟨0, 0, 0, 0⟩)
abbrev s_is_number : Stmt := top 11
abbrev s_is_list : Stmt := top 12
abbrev s_is_count : Stmt := top 13
abbrev s_all_columns : Stmt := top 14
abbrev s_is_set : Stmt := top 15
abbrev s_is_rule : Stmt := top 16
abbrev s_are_rules : Stmt := top 17
abbrev s_Rules_init : Stmt := inClass (top 19) 0
abbrev s_Rules_rules : Stmt := inClass (top 19) 1
abbrev s_written : Stmt := top 21
abbrev s_figures : Stmt := top 22
abbrev s_read : Stmt := top 23
abbrev s_sets_by_figures : Stmt := top 24
abbrev s_rule_in : Stmt := top 25
abbrev s_law_cell_at : Stmt := top 27
abbrev s_law_draw : Stmt := top 28
abbrev s_law_set : Stmt := top 29
abbrev s_law_pairs : Stmt := top 30
abbrev s_law_word : Stmt := top 31
abbrev s_law_in : Stmt := top 32
abbrev s_law_asked : Stmt := top 33
abbrev s_law_other : Stmt := top 34
abbrev s_law : Stmt := top 35
theorem sc_is_number : FnScope ["value", "least", "most"] ["value", "least", "most"] (defScope s_is_number) := ⟨rfl, rfl, rfl, by decide +kernel, rfl, by decide +kernel, by decide +kernel⟩
theorem sc_is_list : FnScope ["value", "least", "most"] ["value", "least", "most"] (defScope s_is_list) := ⟨rfl, rfl, rfl, by decide +kernel, rfl, by decide +kernel, by decide +kernel⟩
theorem sc_is_count : FnScope ["columns"] ["columns"] (defScope s_is_count) := ⟨rfl, rfl, rfl, by decide +kernel, rfl, by decide +kernel, by decide +kernel⟩
theorem sc_all_columns : FnScope ["columns"] ["columns"] (defScope s_all_columns) := ⟨rfl, rfl, rfl, by decide +kernel, rfl, by decide +kernel, by decide +kernel⟩
theorem sc_is_set : FnScope ["value", "columns"] ["value", "columns"] (defScope s_is_set) := ⟨rfl, rfl, rfl, by decide +kernel, rfl, by decide +kernel, by decide +kernel⟩
theorem sc_is_rule : FnScope ["value", "columns"] ["value", "columns"] (defScope s_is_rule) := ⟨rfl, rfl, rfl, by decide +kernel, rfl, by decide +kernel, by decide +kernel⟩
theorem sc_are_rules : FnScope ["value", "columns"] ["value", "columns"] (defScope s_are_rules) := ⟨rfl, rfl, rfl, by decide +kernel, rfl, by decide +kernel, by decide +kernel⟩
theorem sc_Rules_init : FnScope ["self", "columns", "rules"] ["self", "columns", "rules"] (defScope s_Rules_init) := ⟨rfl, rfl, rfl, by decide +kernel, rfl, by decide +kernel, by decide +kernel⟩
theorem sc_Rules_rules : FnScope ["self"] ["self"] (defScope s_Rules_rules) := ⟨rfl, rfl, rfl, by decide +kernel, rfl, by decide +kernel, by decide +kernel⟩
theorem sc_written : FnScope ["rules", "words"] ["rules"] (defScope s_written) := ⟨rfl, rfl, rfl, by decide +kernel, rfl, by decide +kernel, by decide +kernel⟩
theorem sc_figures : FnScope ["some"] ["some"] (defScope s_figures) := ⟨rfl, rfl, rfl, by decide +kernel, rfl, by decide +kernel, by decide +kernel⟩
theorem sc_read : FnScope ["text", "words", "columns", "sets"] ["text"] (defScope s_read) := ⟨rfl, rfl, rfl, by decide +kernel, rfl, by decide +kernel, by decide +kernel⟩
theorem sc_sets_by_figures : FnScope ["columns", "sets", "some"] ["columns"] (defScope s_sets_by_figures) := ⟨rfl, rfl, rfl, by decide +kernel, rfl, by decide +kernel, by decide +kernel⟩
theorem sc_rule_in : FnScope ["word", "sets", "sides"] ["word", "sets"] (defScope s_rule_in) := ⟨rfl, rfl, rfl, by decide +kernel, rfl, by decide +kernel, by decide +kernel⟩
theorem sc_law_cell_at : FnScope ["_law_script", "_law_k"] ["_law_script", "_law_k"] (defScope s_law_cell_at) := ⟨rfl, rfl, rfl, by decide +kernel, rfl, by decide +kernel, by decide +kernel⟩
theorem sc_law_draw : FnScope ["_law_cell", "_law_k", "_law_many", "_law_mixed"] ["_law_cell", "_law_k", "_law_many"] (defScope s_law_draw) := ⟨rfl, rfl, rfl, by decide +kernel, rfl, by decide +kernel, by decide +kernel⟩
theorem sc_law_set : FnScope ["_law_cell", "_law_columns", "_law_some", "_law_column"] ["_law_cell", "_law_columns"] (defScope s_law_set) := ⟨rfl, rfl, rfl, by decide +kernel, rfl, by decide +kernel, by decide +kernel⟩
theorem sc_law_pairs : FnScope ["_law_cell", "_law_columns", "_law_most", "_law_pairs_here", "_law_k", "_law_left", "_law_right"] ["_law_cell", "_law_columns", "_law_most"] (defScope s_law_pairs) := ⟨rfl, rfl, rfl, by decide +kernel, rfl, by decide +kernel, by decide +kernel⟩
theorem sc_law_word : FnScope ["_law_some"] ["_law_some"] (defScope s_law_word) := ⟨rfl, rfl, rfl, by decide +kernel, rfl, by decide +kernel, by decide +kernel⟩
theorem sc_law_in : FnScope ["_law_text", "_law_parts", "_law_columns", "_law_words", "_law_pairs_here", "_law_part", "_law_sides"] ["_law_text"] (defScope s_law_in) := ⟨rfl, rfl, rfl, by decide +kernel, rfl, by decide +kernel, by decide +kernel⟩
theorem sc_law_asked : FnScope ["_law_text", "_law_found", "error", "_law_others"] ["_law_text"] (defScope s_law_asked) := ⟨rfl, rfl, rfl, by decide +kernel, rfl, by decide +kernel, by decide +kernel⟩
theorem sc_law_other : FnScope ["_law_text", "_law_cell", "_law_at", "_law_signs", "_law_sign", "_law_way"] ["_law_text", "_law_cell"] (defScope s_law_other) := ⟨rfl, rfl, rfl, by decide +kernel, rfl, by decide +kernel, by decide +kernel⟩
theorem sc_law : FnScope ["_law_script", "_law_columns", "_law_pairs_here", "_law_text", "_law_texts", "_law_k", "_law_some", "_law_due", "_law_came", "_law_found", "_law_bad"] ["_law_script"] (defScope s_law) := ⟨rfl, rfl, rfl, by decide +kernel, rfl, by decide +kernel, by decide +kernel⟩
theorem bt_all : bootBuiltins "all" = some (.builtin "all") := by decide +kernel
theorem bt_any : bootBuiltins "any" = some (.builtin "any") := by decide +kernel
theorem bt_bool : bootBuiltins "bool" = some (.type "bool") := by decide +kernel
theorem bt_int : bootBuiltins "int" = some (.type "int") := by decide +kernel
theorem bt_isinstance : bootBuiltins "isinstance" = some (.builtin "isinstance") := by decide +kernel
theorem bt_len : bootBuiltins "len" = some (.builtin "len") := by decide +kernel
theorem bt_list : bootBuiltins "list" = some (.type "list") := by decide +kernel
theorem bt_str : bootBuiltins "str" = some (.type "str") := by decide +kernel
theorem bt_tuple : bootBuiltins "tuple" = some (.type "tuple") := by decide +kernel
structure Adr where
  f_is_number : Addr
  d_is_number : FuncData
  f_is_list : Addr
  d_is_list : FuncData
  f_is_count : Addr
  d_is_count : FuncData
  f_all_columns : Addr
  d_all_columns : FuncData
  f_is_set : Addr
  d_is_set : FuncData
  f_is_rule : Addr
  d_is_rule : FuncData
  f_are_rules : Addr
  d_are_rules : FuncData
  f_Rules_init : Addr
  d_Rules_init : FuncData
  f_Rules_rules : Addr
  d_Rules_rules : FuncData
  f_written : Addr
  d_written : FuncData
  f_figures : Addr
  d_figures : FuncData
  f_read : Addr
  d_read : FuncData
  f_sets_by_figures : Addr
  d_sets_by_figures : FuncData
  f_rule_in : Addr
  d_rule_in : FuncData
  f_law_cell_at : Addr
  d_law_cell_at : FuncData
  f_law_draw : Addr
  d_law_draw : FuncData
  f_law_set : Addr
  d_law_set : FuncData
  f_law_pairs : Addr
  d_law_pairs : FuncData
  f_law_word : Addr
  d_law_word : FuncData
  f_law_in : Addr
  d_law_in : FuncData
  f_law_asked : Addr
  d_law_asked : FuncData
  f_law_other : Addr
  d_law_other : FuncData
  f_law : Addr
  d_law : FuncData
  c_Rules : Addr
  c_BadRules : Addr
  c_BadSet : Addr
  c_BadParts : Addr
  c_BadTable : Addr
  c_Unlike : Addr
  c_BadText : Addr
  c_TellError : Addr
structure Txt (K : PySem.W.Frag) (mg : Str → Option Value) (A : Adr) : Prop where
  F_is_number : Fun K "is_number" "is_number" s_is_number A.f_is_number A.d_is_number
  b_is_number : Binds K A.d_is_number ["value", "least", "most"] []
  m_is_number : mg "is_number" = some (.ref A.f_is_number)
  F_is_list : Fun K "is_list" "is_list" s_is_list A.f_is_list A.d_is_list
  b_is_list : Binds K A.d_is_list ["value", "least", "most"] []
  m_is_list : mg "is_list" = some (.ref A.f_is_list)
  F_is_count : Fun K "is_count" "is_count" s_is_count A.f_is_count A.d_is_count
  b_is_count : Binds K A.d_is_count ["columns"] []
  m_is_count : mg "is_count" = some (.ref A.f_is_count)
  F_all_columns : Fun K "all_columns" "all_columns" s_all_columns A.f_all_columns A.d_all_columns
  b_all_columns : Binds K A.d_all_columns ["columns"] []
  m_all_columns : mg "all_columns" = some (.ref A.f_all_columns)
  F_is_set : Fun K "is_set" "is_set" s_is_set A.f_is_set A.d_is_set
  b_is_set : Binds K A.d_is_set ["value", "columns"] []
  m_is_set : mg "is_set" = some (.ref A.f_is_set)
  F_is_rule : Fun K "is_rule" "is_rule" s_is_rule A.f_is_rule A.d_is_rule
  b_is_rule : Binds K A.d_is_rule ["value", "columns"] []
  m_is_rule : mg "is_rule" = some (.ref A.f_is_rule)
  F_are_rules : Fun K "are_rules" "are_rules" s_are_rules A.f_are_rules A.d_are_rules
  b_are_rules : Binds K A.d_are_rules ["value", "columns"] []
  m_are_rules : mg "are_rules" = some (.ref A.f_are_rules)
  F_Rules_init : Fun K "__init__" "Rules.__init__" s_Rules_init A.f_Rules_init A.d_Rules_init
  b_Rules_init : Binds K A.d_Rules_init ["self", "columns", "rules"] []
  mk_Rules : Mk K A.c_Rules A.f_Rules_init
  F_Rules_rules : Fun K "rules" "Rules.rules" s_Rules_rules A.f_Rules_rules A.d_Rules_rules
  b_Rules_rules : Binds K A.d_Rules_rules ["self"] []
  mt_Rules_rules : Meth K A.c_Rules "rules" A.f_Rules_rules
  F_written : Fun K "written" "written" s_written A.f_written A.d_written
  b_written : Binds K A.d_written ["rules"] []
  m_written : mg "written" = some (.ref A.f_written)
  F_figures : Fun K "figures" "figures" s_figures A.f_figures A.d_figures
  b_figures : Binds K A.d_figures ["some"] []
  m_figures : mg "figures" = some (.ref A.f_figures)
  F_read : Fun K "read" "read" s_read A.f_read A.d_read
  b_read : Binds K A.d_read ["text"] []
  m_read : mg "read" = some (.ref A.f_read)
  F_sets_by_figures : Fun K "sets_by_figures" "sets_by_figures" s_sets_by_figures A.f_sets_by_figures A.d_sets_by_figures
  b_sets_by_figures : Binds K A.d_sets_by_figures ["columns"] []
  m_sets_by_figures : mg "sets_by_figures" = some (.ref A.f_sets_by_figures)
  F_rule_in : Fun K "rule_in" "rule_in" s_rule_in A.f_rule_in A.d_rule_in
  b_rule_in : Binds K A.d_rule_in ["word", "sets"] []
  m_rule_in : mg "rule_in" = some (.ref A.f_rule_in)
  F_law_cell_at : Fun K "_law_cell_at" "_law_cell_at" s_law_cell_at A.f_law_cell_at A.d_law_cell_at
  b_law_cell_at : Binds K A.d_law_cell_at ["_law_script", "_law_k"] []
  m_law_cell_at : mg "_law_cell_at" = some (.ref A.f_law_cell_at)
  F_law_draw : Fun K "_law_draw" "_law_draw" s_law_draw A.f_law_draw A.d_law_draw
  b_law_draw : Binds K A.d_law_draw ["_law_cell", "_law_k", "_law_many"] []
  m_law_draw : mg "_law_draw" = some (.ref A.f_law_draw)
  F_law_set : Fun K "_law_set" "_law_set" s_law_set A.f_law_set A.d_law_set
  b_law_set : Binds K A.d_law_set ["_law_cell", "_law_columns"] []
  m_law_set : mg "_law_set" = some (.ref A.f_law_set)
  F_law_pairs : Fun K "_law_pairs" "_law_pairs" s_law_pairs A.f_law_pairs A.d_law_pairs
  b_law_pairs : Binds K A.d_law_pairs ["_law_cell", "_law_columns", "_law_most"] []
  m_law_pairs : mg "_law_pairs" = some (.ref A.f_law_pairs)
  F_law_word : Fun K "_law_word" "_law_word" s_law_word A.f_law_word A.d_law_word
  b_law_word : Binds K A.d_law_word ["_law_some"] []
  m_law_word : mg "_law_word" = some (.ref A.f_law_word)
  F_law_in : Fun K "_law_in" "_law_in" s_law_in A.f_law_in A.d_law_in
  b_law_in : Binds K A.d_law_in ["_law_text"] []
  m_law_in : mg "_law_in" = some (.ref A.f_law_in)
  F_law_asked : Fun K "_law_asked" "_law_asked" s_law_asked A.f_law_asked A.d_law_asked
  b_law_asked : Binds K A.d_law_asked ["_law_text"] []
  m_law_asked : mg "_law_asked" = some (.ref A.f_law_asked)
  F_law_other : Fun K "_law_other" "_law_other" s_law_other A.f_law_other A.d_law_other
  b_law_other : Binds K A.d_law_other ["_law_text", "_law_cell"] []
  m_law_other : mg "_law_other" = some (.ref A.f_law_other)
  F_law : Fun K "law" "law" s_law A.f_law A.d_law
  b_law : Binds K A.d_law ["_law_script"] []
  m_law : mg "law" = some (.ref A.f_law)
  cl_Rules : Cls K A.c_Rules
  m_Rules : mg "Rules" = some (.ref A.c_Rules)
  na_Rules_columns : NoAttr K A.c_Rules "columns"
  na_Rules_pairs : NoAttr K A.c_Rules "pairs"
  m_BadRules : mg "BadRules" = some (.ref A.c_BadRules)
  m_BadSet : mg "BadSet" = some (.ref A.c_BadSet)
  m_BadParts : mg "BadParts" = some (.ref A.c_BadParts)
  m_BadTable : mg "BadTable" = some (.ref A.c_BadTable)
  m_Unlike : mg "Unlike" = some (.ref A.c_Unlike)
  m_BadText : mg "BadText" = some (.ref A.c_BadText)
  m_TellError : mg "TellError" = some (.ref A.c_TellError)
  ty_BadText : ClsTy K A.c_BadText
  ki_BadText_BadRules : PySem.W.kitOne K (.ref A.c_BadText) (.ref A.c_BadRules) = some false
  ki_BadText_BadSet : PySem.W.kitOne K (.ref A.c_BadText) (.ref A.c_BadSet) = some false
  ki_BadText_BadParts : PySem.W.kitOne K (.ref A.c_BadText) (.ref A.c_BadParts) = some false
  ki_BadText_BadTable : PySem.W.kitOne K (.ref A.c_BadText) (.ref A.c_BadTable) = some false
  ki_BadText_Unlike : PySem.W.kitOne K (.ref A.c_BadText) (.ref A.c_Unlike) = some false
  ki_BadText_BadText : PySem.W.kitOne K (.ref A.c_BadText) (.ref A.c_BadText) = some true
  xi_BadText : PySem.W.excIn K A.c_BadText [.type "ValueError", .type "Exception", .type "BaseException", .type "object"] "ValueError.__new__" = true
  et_BadText : ErrTy K A.c_BadText
  kv_BadText : PySem.W.kitOne K (.ref A.c_BadText) (.type "ValueError") = some true
  xi_TellError : PySem.W.excIn K A.c_TellError [.type "ValueError", .type "Exception", .type "BaseException", .type "object"] "ValueError.__new__" = true
  up_BadText_TellError : PySem.W.mroIn K A.c_BadText (.ref A.c_TellError) = some true
  z_all : mg "all" = none
  z_any : mg "any" = none
  z_bool : mg "bool" = none
  z_int : mg "int" = none
  z_isinstance : mg "isinstance" = none
  z_len : mg "len" = none
  z_list : mg "list" = none
  z_range : mg "range" = none
  z_str : mg "str" = none
  z_tuple : mg "tuple" = none
  g_MOST_COLUMNS : ∃ t, mg "MOST_COLUMNS" = some (.int 6 t)
  g_MOST_RULES : ∃ t, mg "MOST_RULES" = some (.int 64 t)
/-! ### the data -/
def Tps (H : Hp) : List Addr → List (Nat × Nat) → Prop
  | [], [] => True
  | t :: ts, p :: ps => H t = some (.tup [.int (p.1 : Nat), .int (p.2 : Nat)]) ∧ Tps H ts ps
  | _, _ => False
theorem Tps.same {H H' : Hp} (e : Same H H') : ∀ {ts : List Addr} {ps : List (Nat × Nat)}, Tps H ts ps → Tps H' ts ps
  | [], [], _ => trivial
  | _ :: _, _ :: _, ⟨h, t⟩ => ⟨e _ _ h, Tps.same e t⟩
  | [], _ :: _, h => h.elim
  | _ :: _, [], h => h.elim
theorem Tps.len {H : Hp} : ∀ {ts : List Addr} {ps : List (Nat × Nat)}, Tps H ts ps → ts.length = ps.length
  | [], [], _ => rfl
  | _ :: _, _ :: _, ⟨_, t⟩ => congrArg (· + 1) (Tps.len t)
  | [], _ :: _, h => h.elim
  | _ :: _, [], h => h.elim
theorem Tps.get {H : Hp} : ∀ {ts : List Addr} {ps : List (Nat × Nat)} {i : Nat} {v : V}, Tps H ts ps → (ts.map V.ref)[i]? = some v → ∃ t p, v = .ref t ∧ ps[i]? = some p ∧ H t = some (.tup [.int (p.1 : Nat), .int (p.2 : Nat)])
  | [], [], i, v, _, h => by simp at h
  | t :: _, p :: _, 0, v, ⟨h, _⟩, e => ⟨t, p, by simpa using e.symm, by simp, h⟩
  | _ :: _, _ :: _, i + 1, v, ⟨_, t⟩, e => by
    obtain ⟨a, b, h1, h2, h3⟩ := Tps.get (i := i) t (by simpa using e)
    exact ⟨a, b, h1, by simpa using h2, h3⟩
  | [], _ :: _, _, _, h, _ => h.elim
  | _ :: _, [], _, _, h, _ => h.elim
theorem Tps.snoc {H : Hp} {t : Addr} {p : Nat × Nat} (e : H t = some (.tup [.int (p.1 : Nat), .int (p.2 : Nat)])) : ∀ {ts : List Addr} {ps : List (Nat × Nat)}, Tps H ts ps → Tps H (ts ++ [t]) (ps ++ [p])
  | [], [], _ => ⟨e, trivial⟩
  | _ :: _, _ :: _, ⟨h, r⟩ => ⟨h, Tps.snoc e r⟩
  | [], _ :: _, h => h.elim
  | _ :: _, [], h => h.elim
theorem Tps.upd {H : Hp} {a : Addr} {xs : List V} {o : HO} (ha : H a = some (.lst xs)) : ∀ {ts : List Addr} {ps : List (Nat × Nat)}, Tps H ts ps → Tps (upd H a o) ts ps
  | [], [], _ => trivial
  | _ :: _, _ :: _, ⟨h, t⟩ => ⟨by rw [upd_ne (ne_of h ha (by intro z; cases z))]; exact h, Tps.upd ha t⟩
  | [], _ :: _, h => h.elim
  | _ :: _, [], h => h.elim
/-- a list of rules stands at l -/
def PrsAt (H : Hp) (l : Addr) (ps : List (Nat × Nat)) : Prop := ∃ ts : List Addr, H l = some (.lst (ts.map V.ref)) ∧ Tps H ts ps
theorem PrsAt.same {H H' : Hp} (e : Same H H') {l : Addr} {ps : List (Nat × Nat)} : PrsAt H l ps → PrsAt H' l ps := fun ⟨ts, h, t⟩ => ⟨ts, e _ _ h, t.same e⟩
theorem PrsAt.upd {H : Hp} {a l : Addr} {xs : List V} {o : HO} {ps : List (Nat × Nat)} (ha : H a = some (.lst xs)) (hn : l ≠ a) : PrsAt H l ps → PrsAt (upd H a o) l ps := fun ⟨ts, h, t⟩ => ⟨ts, by rw [upd_ne hn]; exact h, t.upd ha⟩
theorem Same.up {H H' : Hp} {a : Addr} {o : HO} (e : Same H H') (h : H a = none) : Same H (upd H' a o) := fun b u q => by
  rw [upd_ne (ne_of_none q h)]; exact e b u q
theorem Same.new {H : Hp} {a : Addr} {o : HO} (h : H a = none) : Same H (upd H a o) := Same.up (Same.refl H) h
def flds (c : Nat) (l : Addr) : List (Str × V) := putF "pairs" (.ref l) (putF "columns" (.int (c : Nat)) [])
theorem kc : ¬ (("columns" : Str) = "pairs") := by decide +kernel
theorem flds_columns (c : Nat) (l : Addr) : (flds c l).lookup ("columns" : Str) = some (.int (c : Nat)) := by
  unfold flds; rw [lookup_putF, if_neg kc, lookup_putF, if_pos rfl]
theorem flds_pairs (c : Nat) (l : Addr) : (flds c l).lookup ("pairs" : Str) = some (.ref l) := by
  unfold flds; rw [lookup_putF, if_pos rfl]
theorem flds_no (c : Nat) (l : Addr) {m : Str} (h1 : ¬ m = "pairs") (h2 : ¬ m = "columns") : (flds c l).lookup m = none := by
  unfold flds; rw [lookup_putF, if_neg h1, lookup_putF, if_neg h2]; rfl
/-- Rules of c columns and the rules ps stand at p, their list at l -/
def RulesAt (C : Addr) (H : Hp) (p l : Addr) (c : Nat) (ps : List (Nat × Nat)) : Prop := (∃ dx, H p = some (.ins C dx (flds c l))) ∧ PrsAt H l ps
theorem RulesAt.same {C : Addr} {H H' : Hp} (e : Same H H') {p l : Addr} {c : Nat} {ps : List (Nat × Nat)} : RulesAt C H p l c ps → RulesAt C H' p l c ps := fun ⟨⟨dx, h⟩, t⟩ => ⟨⟨dx, e _ _ h⟩, t.same e⟩
theorem RulesAt.upd {C : Addr} {H : Hp} {a : Addr} {xs : List V} {o : HO} {p l : Addr} {c : Nat} {ps : List (Nat × Nat)} (ha : H a = some (.lst xs)) (hn : l ≠ a) : RulesAt C H p l c ps → RulesAt C (upd H a o) p l c ps := fun ⟨⟨dx, h⟩, t⟩ =>
  ⟨⟨dx, by rw [upd_ne (ne_of h ha (by intro z; cases z))]; exact h⟩, t.upd ha hn⟩
/-- rules of c columns -/
def Good (c : Nat) (ps : List (Nat × Nat)) : Prop := 1 ≤ c ∧ c ≤ 6 ∧ ps.length ≤ 64 ∧ ∀ p ∈ ps, p.1 < 2 ^ c ∧ p.2 < 2 ^ c

/-! ### numbers -/
theorem in_set {a c : Nat} (h : a < 2 ^ c) : (decide ((0 : Int) ≤ (a : Int)) && decide ((a : Int) ≤ ((2 ^ c : Nat) : Int) - 1)) = true := by
  generalize 2 ^ c = N at h ⊢
  rw [Bool.and_eq_true]
  exact ⟨decide_eq_true (by omega), decide_eq_true (by omega)⟩
theorem or_nat (a b : Nat) : Builtin.bitOr (a : Int) (b : Int) = ((a ||| b : Nat) : Int) := by
  have h1 : ¬ (0 ≤ Builtin.bitNot (a : Int)) := by unfold Builtin.bitNot; omega
  have h2 : ¬ (0 ≤ Builtin.bitNot (b : Int)) := by unfold Builtin.bitNot; omega
  have e : ∀ z : Int, Builtin.bitNot (Builtin.bitNot z) = z := fun z => by unfold Builtin.bitNot; omega
  have e2 : Builtin.bitAnd (Builtin.bitNot (a : Int)) (Builtin.bitNot (b : Int)) = Builtin.bitNot (((Builtin.bitNot (Builtin.bitNot (a : Int))).toNat ||| (Builtin.bitNot (Builtin.bitNot (b : Int))).toNat : Nat) : Int) := by
    simp [Builtin.bitAnd, h1, h2]
  unfold Builtin.bitOr
  rw [e2, e, e, e, Int.toNat_natCast, Int.toNat_natCast]
theorem and_nat (a b : Nat) : Builtin.bitAnd (a : Int) (b : Int) = ((a &&& b : Nat) : Int) := by
  rw [PyProof.Rows.bitAnd_pp (Int.natCast_nonneg a) (Int.natCast_nonneg b)]; rfl
theorem shl_nat (c : Nat) : (1 : Int) * 2 ^ ((c : Int)).toNat = ((2 ^ c : Nat) : Int) := by
  rw [Int.one_mul, Int.toNat_natCast]; norm_cast

def sp_is_number : Sp := fun vs H Q _ => ∃ v a b : Int, vs = [.int v, .int a, .int b] ∧ Q (.bl (decide (a ≤ v) && decide (v ≤ b))) H
def sp_is_list : Sp := fun vs H Q _ => ∃ (p : Addr) (xs : List V) (a b : Int), vs = [.ref p, .int a, .int b] ∧ H p = some (.lst xs) ∧ Q (.bl (decide (a ≤ (xs.length : Int)) && decide ((xs.length : Int) ≤ b))) H
def sp_is_count : Sp := fun vs H Q _ => ∃ v : Int, vs = [.int v] ∧ Q (.bl (decide (1 ≤ v) && decide (v ≤ 6))) H
def sp_all_columns : Sp := fun vs H Q _ => ∃ c : Nat, vs = [.int (c : Nat)] ∧ c ≤ 6 ∧ Q (.int (((2 ^ c : Nat) : Int) - 1)) H
def sp_is_set : Sp := fun vs H Q _ => ∃ (v : Int) (c : Nat), vs = [.int v, .int (c : Nat)] ∧ c ≤ 6 ∧ Q (.bl (decide (0 ≤ v) && decide (v ≤ ((2 ^ c : Nat) : Int) - 1))) H
def sp_is_rule : Sp := fun vs H Q _ => ∃ (t : Addr) (a b c : Nat), vs = [.ref t, .int (c : Nat)] ∧ H t = some (.tup [.int (a : Nat), .int (b : Nat)]) ∧ c ≤ 6 ∧ a < 2 ^ c ∧ b < 2 ^ c ∧ Q (.bl true) H
def sp_are_rules : Sp := fun vs H Q _ => ∃ (l : Addr) (c : Nat) (ps : List (Nat × Nat)), vs = [.ref l, .int (c : Nat)] ∧ PrsAt H l ps ∧ Good c ps ∧ ∀ H', Same H H' → Q (.bl true) H'
def sp_Rules_init (C : Addr) : Sp := fun vs H Q _ => ∃ (p dx l : Addr) (c : Nat) (ps : List (Nat × Nat)), vs = [.ref p, .int (c : Nat), .ref l] ∧ H p = some (.ins C dx []) ∧ PrsAt H l ps ∧ Good c ps ∧
  ∀ (m : Addr) (H' : Hp), H m = none → RulesAt C H' p m c ps → (∀ b o, H b = some o → b ≠ p → H' b = some o) → Q .non H'
def sp_Rules_rules (C : Addr) : Sp := fun vs H Q _ => ∃ (p m : Addr) (c : Nat) (ps : List (Nat × Nat)), vs = [.ref p] ∧ RulesAt C H p m c ps ∧ ∀ (l : Addr) (ts : List Addr), H l = none → Tps H ts ps → Q (.ref l) (upd H l (.lst (ts.map V.ref)))
section
variable {P : Program} {w : World} {K : PySem.W.Frag} {mg : Str → Option Value} {base : Heap} {A : Adr}
theorem kit_int_bool : PySem.W.kitOne K (.type "int") (.type "bool") = some false := by kernel_rfl
theorem kit_int_int : PySem.W.kitOne K (.type "int") (.type "int") = some true := by kernel_rfl
theorem kit_list_list : PySem.W.kitOne K (.type "list") (.type "list") = some true := by kernel_rfl
theorem kit_tuple_tuple : PySem.W.kitOne K (.type "tuple") (.type "tuple") = some true := by kernel_rfl
theorem ok_is_number (T : Txt K mg A) : FnOk P w K mg base CX0 1 A.f_is_number A.d_is_number ["value", "least", "most"] sp_is_number := by
  refine T.F_is_number.ok sc_is_number (fun vs H Q E h => ?_) (fun cdv A' outer s H vs Q E hr h => ?_)
  · obtain ⟨v, a, b, rfl, _⟩ := h; rfl
  · obtain ⟨v, a, b, rfl, k⟩ := h
    refine ⟨_, (pss_cons (ps_if (pt_val (pe_callB (call_isinstK K) rfl T.z_isinstance bt_isinstance (pa_cons (pv 0) (pa_cons (pe_bltn (v := .ty "bool") rfl T.z_bool bt_bool rfl) pa_nil)))) (pss_one (ps_ret pe_bl)) pss_nil)
      (pss_one (ps_ret (pe_and (pe_callB (call_isinstK K) rfl T.z_isinstance bt_isinstance (pa_cons (pv 0) (pa_cons (pe_bltn (v := .ty "int") rfl T.z_int bt_int rfl) pa_nil))) (pe_one (pe_chain op_le op_le (pv 1) (pv 0) (pv 2))))))), ?_⟩
    refine ⟨_, rfl, _, _, _, false, rfl, .int v, kit_int_bool, false, rfl, iteF ?_⟩
    refine ⟨_, rfl, _, _, _, true, rfl, .int v, kit_int_int, true, rfl, iteT ?_⟩
    refine ⟨_, rfl, _, rfl, a, v, rfl, rfl, _, rfl, ?_⟩
    refine ite2 (fun e => ?_) (fun e => ?_)
    · refine ⟨_, rfl, v, b, rfl, rfl, ?_⟩
      rw [e, Bool.true_and] at k
      exact k
    · have e' : decide (a ≤ v) = false := by simpa using e
      rw [e', Bool.false_and] at k
      exact k
theorem ok_is_list (T : Txt K mg A) : FnOk P w K mg base CX0 1 A.f_is_list A.d_is_list ["value", "least", "most"] sp_is_list := by
  refine T.F_is_list.ok sc_is_list (fun vs H Q E h => ?_) (fun cdv A' outer s H vs Q E hr h => ?_)
  · obtain ⟨p, xs, a, b, rfl, _⟩ := h; rfl
  · obtain ⟨p, xs, a, b, rfl, hp, k⟩ := h
    refine ⟨_, (pss_one (ps_ret (pe_and (pe_callB (call_isinstK K) rfl T.z_isinstance bt_isinstance (pa_cons (pv 0) (pa_cons (pe_bltn (v := .ty "list") rfl T.z_list bt_list rfl) pa_nil))) (pe_one (pe_chain op_le op_le (pv 1) (pe_callB (call_lenK K) rfl T.z_len bt_len (pa_cons (pv 0) pa_nil)) (pv 2)))))), ?_⟩
    refine ⟨_, rfl, _, _, _, true, rfl, .lst hp, kit_list_list, true, rfl, iteT ?_⟩
    refine ⟨_, rfl, _, rfl, p, xs, rfl, .inl (SqL.of hp), a, _, rfl, rfl, _, rfl, ?_⟩
    refine ite2 (fun e => ?_) (fun e => ?_)
    · refine ⟨_, rfl, _, b, rfl, rfl, ?_⟩
      rw [e, Bool.true_and] at k
      exact k
    · have e' : decide (a ≤ (xs.length : Int)) = false := by simpa using e
      rw [e', Bool.false_and] at k
      exact k
theorem ok_is_count (T : Txt K mg A) : FnOk P w K mg base CX0 3 A.f_is_count A.d_is_count ["columns"] sp_is_count := by
  have G_is_number := ok_is_number (P := P) (w := w) (base := base) T
  refine T.F_is_count.ok sc_is_count (fun vs H Q E h => ?_) (fun cdv A' outer s H vs Q E hr h => ?_)
  · obtain ⟨v, rfl, _⟩ := h; rfl
  · obtain ⟨v, rfl, k⟩ := h
    refine ⟨_, (pss_one (ps_ret (pe_call G_is_number (hr.mono (by decide)) rfl T.m_is_number T.F_is_number.kp T.b_is_number .nil pass0 (pa_cons (pv 0) (pa_cons pe_int (pa_cons (pe_glob (v := .int 6) rfl T.g_MOST_COLUMNS.choose_spec ⟨_, rfl⟩) pa_nil)))))), ?_⟩
    exact ⟨_, rfl, v, 1, 6, rfl, k⟩
theorem ok_all_columns (T : Txt K mg A) : FnOk P w K mg base CX0 1 A.f_all_columns A.d_all_columns ["columns"] sp_all_columns := by
  refine T.F_all_columns.ok sc_all_columns (fun vs H Q E h => ?_) (fun cdv A' outer s H vs Q E hr h => ?_)
  · obtain ⟨v, rfl, _⟩ := h; rfl
  · obtain ⟨c, rfl, hc, k⟩ := h
    refine ⟨_, (pss_one (ps_ret (pe_op op_sub (pe_op op_shl pe_int (pv 0)) pe_int))), ?_⟩
    refine ⟨_, rfl, 1, (c : Int), rfl, rfl, ⟨Int.natCast_nonneg c, by omega, by decide⟩, _, 1, rfl, rfl, ?_⟩
    rw [shl_nat]
    exact k
theorem ok_is_set (T : Txt K mg A) : FnOk P w K mg base CX0 3 A.f_is_set A.d_is_set ["value", "columns"] sp_is_set := by
  have G_is_number := ok_is_number (P := P) (w := w) (base := base) T
  have G_all_columns := ok_all_columns (P := P) (w := w) (base := base) T
  refine T.F_is_set.ok sc_is_set (fun vs H Q E h => ?_) (fun cdv A' outer s H vs Q E hr h => ?_)
  · obtain ⟨v, c, rfl, _⟩ := h; rfl
  · obtain ⟨v, c, rfl, hc, k⟩ := h
    refine ⟨_, (pss_one (ps_ret (pe_call G_is_number (hr.mono (by decide)) rfl T.m_is_number T.F_is_number.kp T.b_is_number .nil pass0 (pa_cons (pv 0) (pa_cons pe_int (pa_cons (pe_call G_all_columns (hr.mono (by decide)) rfl T.m_all_columns T.F_all_columns.kp T.b_all_columns .nil pass0 (pa_cons (pv 1) pa_nil)) pa_nil)))))), ?_⟩
    exact ⟨_, rfl, _, rfl, c, rfl, hc, v, 0, _, rfl, k⟩
theorem ok_is_rule (T : Txt K mg A) : FnOk P w K mg base CX0 5 A.f_is_rule A.d_is_rule ["value", "columns"] sp_is_rule := by
  have G_is_set := ok_is_set (P := P) (w := w) (base := base) T
  refine T.F_is_rule.ok sc_is_rule (fun vs H Q E h => ?_) (fun cdv A' outer s H vs Q E hr h => ?_)
  · obtain ⟨t, a, b, c, rfl, _⟩ := h; rfl
  · obtain ⟨t, a, b, c, rfl, ht, hc, ha, hb, k⟩ := h
    refine ⟨_, (pss_cons (ps_if (PW.pt (pw_or (pt_not (pt_val (pe_callB (call_isinstK K) rfl T.z_isinstance bt_isinstance (pa_cons (pv 0) (pa_cons (pe_bltn (v := .ty "tuple") rfl T.z_tuple bt_tuple rfl) pa_nil))))) (pw_or1 (pt_cmpR op_ne (pe_callB (call_lenK K) rfl T.z_len bt_len (pa_cons (pv 0) pa_nil)) pe_int (nomark _))))) (pss_one (ps_ret pe_bl)) pss_nil)
      (pss_one (ps_ret (pe_and (pe_call G_is_set (hr.mono (by decide)) rfl T.m_is_set T.F_is_set.kp T.b_is_set .nil pass0 (pa_cons (pe_ix (ix_tupK K) (pv 0) pe_int (fun _ _ => rfl)) (pa_cons (pv 1) pa_nil))) (pe_one (pe_call G_is_set (hr.mono (by decide)) rfl T.m_is_set T.F_is_set.kp T.b_is_set .nil pass0 (pa_cons (pe_ix (ix_tupK K) (pv 0) pe_int (fun _ _ => rfl)) (pa_cons (pv 1) pa_nil)))))))), ?_⟩
    refine ⟨_, rfl, _, _, _, true, rfl, .tup ht, kit_tuple_tuple, true, rfl, iteF ?_⟩
    refine ⟨_, rfl, t, _, rfl, .inr (SqT.of ht), rfl, _, rfl, iteF ?_⟩
    refine ⟨_, rfl, t, _, 0, _, rfl, rfl, SqT.of ht, rfl, _, rfl, a, c, rfl, hc, _, rfl, ?_⟩
    have e1 := in_set ha
    have e2 := in_set hb
    rw [e1]
    refine iteT ⟨_, rfl, t, _, 1, _, rfl, rfl, SqT.of ht, rfl, _, rfl, b, c, rfl, hc, ?_⟩
    rw [e2]
    exact k
theorem ok_are_rules (T : Txt K mg A) : FnOk P w K mg base CX0 7 A.f_are_rules A.d_are_rules ["value", "columns"] sp_are_rules := by
  have G_is_list := ok_is_list (P := P) (w := w) (base := base) T
  have G_is_rule := ok_is_rule (P := P) (w := w) (base := base) T
  refine T.F_are_rules.ok sc_are_rules (fun vs H Q E h => ?_) (fun cdv A' outer s H vs Q E hr h => ?_)
  · obtain ⟨l, c, ps, rfl, _⟩ := h; rfl
  · obtain ⟨l, c, ps, rfl, ⟨ts, hl, htp⟩, ⟨hc1, hc6, hlen, hps⟩, k⟩ := h
    refine ⟨_, (pss_cons (ps_if (pt_not (pt_val (pe_call G_is_list (hr.mono (by decide)) rfl T.m_is_list T.F_is_list.kp T.b_is_list .nil pass0 (pa_cons (pv 0) (pa_cons pe_int (pa_cons (pe_glob (v := .int 64) rfl T.g_MOST_RULES.choose_spec ⟨_, rfl⟩) pa_nil)))))) (pss_one (ps_ret pe_bl)) pss_nil)
      (pss_one (ps_ret (pe_callB (call_allK K rfl) rfl T.z_all bt_all (pa_cons (pe_comp ["value", "columns"] (defScope s_are_rules) ["rule", "columns"] [none, some 1] ⟨rfl, by decide +kernel, by decide +kernel, by decide +kernel, by decide +kernel, by decide +kernel⟩ rfl (pi_listK K (pv 0)) (fun _ _ _ _ _ => (pg_name (i := 0) (by show List.Nodup (["rule", "columns"] : List Str); decide +kernel) rfl (Or.inl rfl) (Or.inr rfl))) (fun _ _ _ _ _ => pts_nil) (fun _ _ _ _ _ => (pe_call G_is_rule (hr.mono (by decide)) rfl T.m_is_rule T.F_is_rule.kp T.b_is_rule .nil pass0 (pa_cons (pv 0) (pa_cons (pv 1) pa_nil))))) pa_nil))))), ?_⟩
    refine ⟨_, rfl, l, ts.map V.ref, 0, 64, rfl, hl, _, rfl, ?_⟩
    have hln : (ts.map V.ref).length = ps.length := by rw [List.length_map]; exact htp.len
    have e : (decide ((0 : Int) ≤ ((ts.map V.ref).length : Int)) && decide (((ts.map V.ref).length : Int) ≤ 64)) = true := by
      rw [hln]; simp; omega
    rw [e]
    refine iteF ?_
    refine ⟨_, rfl, l, rfl, ⟨_, SqL.of hl⟩, fun D hD => comp_list (xs := ts.map V.ref) (fun i ys H' => Same H H' ∧ ys = List.replicate i (.bl true) ∧ i ≤ ps.length) ⟨Same.new hD, rfl, Nat.zero_le _⟩ (fun i ys H' _ ⟨e, _⟩ => SqL.of (e _ _ hl)) ?_ ?_⟩
    · rintro i x ys H' hx ⟨se, rfl, hi⟩ hDl
      obtain ⟨t, p, rfl, hp, ht⟩ := (htp.same se).get hx
      have hi' : i < ps.length := (List.getElem?_eq_some_iff.mp hp).1
      have hb := hps p (List.mem_of_getElem? hp)
      refine yes_mk ?_
      refine ⟨_, rfl, _, rfl, t, p.1, p.2, c, rfl, ht, hc6, hb.1, hb.2, CE1.mk hDl (small1000 (by rw [List.length_replicate]; omega)) ⟨Same.up se hD, ?_, hi'⟩⟩
      rw [List.replicate_succ']
    · rintro ys H' ⟨se, rfl, _⟩ hDl
      refine ⟨D, List.replicate _ true, rfl, SqL.of (by rw [List.map_replicate]; exact hDl), ?_⟩
      have e2 : (List.replicate (ts.map V.ref).length true).all id = true := by simp
      rw [e2]
      exact k H' se
theorem ok_Rules_init (T : Txt K mg A) : FnOk P w K mg base CX0 9 A.f_Rules_init A.d_Rules_init ["self", "columns", "rules"] (sp_Rules_init A.c_Rules) := by
  have G_is_count := ok_is_count (P := P) (w := w) (base := base) T
  have G_are_rules := ok_are_rules (P := P) (w := w) (base := base) T
  refine T.F_Rules_init.ok sc_Rules_init (fun vs H Q E h => ?_) (fun cdv A' outer s H vs Q E hr h => ?_)
  · obtain ⟨p, dx, l, c, ps, rfl, _⟩ := h; rfl
  · obtain ⟨p, dx, l, c, ps, rfl, hp, hP, hG, k⟩ := h
    obtain ⟨hc1, hc6, hlen, hps⟩ := id hG
    refine ⟨_, (pss_cons (ps_if (pt_not (pt_val (pe_call G_is_count (hr.mono (by decide)) rfl T.m_is_count T.F_is_count.kp T.b_is_count .nil pass0 (pa_cons (pv 1) pa_nil)))) (pss_one ps_never) pss_nil)
      (pss_cons (ps_if (pt_not (pt_val (pe_call G_are_rules (hr.mono (by decide)) rfl T.m_are_rules T.F_are_rules.kp T.b_are_rules .nil pass0 (pa_cons (pv 2) (pa_cons (pv 1) pa_nil))))) (pss_one ps_never) pss_nil)
      (pss_cons (ps_fldK K (pv 0) (pv 1))
      (pss_one (ps_fldK K (pv 0) (pe_comp ["self", "columns", "rules"] (defScope s_Rules_init) ["rule"] [none] ⟨rfl, by decide +kernel, by decide +kernel, by decide +kernel, by decide +kernel, by decide +kernel⟩ rfl (pi_listK K (pv 2)) (fun _ _ _ _ _ => (pg_name (i := 0) (by show List.Nodup (["rule"] : List Str); decide +kernel) rfl (Or.inl rfl) (Or.inr rfl))) (fun _ _ _ _ _ => pts_nil) (fun _ _ _ _ _ => (pe_tup (pa_cons (pe_ix (ix_tupK K) (pv 0) pe_int (fun _ _ => rfl)) (pa_cons (pe_ix (ix_tupK K) (pv 0) pe_int (fun _ _ => rfl)) pa_nil)))))))))), ?_⟩
    refine ⟨_, rfl, c, rfl, _, rfl, ?_⟩
    have e : (decide ((1 : Int) ≤ (c : Int)) && decide ((c : Int) ≤ 6)) = true := by simp; omega
    rw [e]
    refine iteF ?_
    refine ⟨_, rfl, _, rfl, l, c, ps, rfl, hP, hG, fun H1 s1 => ⟨_, rfl, iteF ?_⟩⟩
    obtain ⟨ts, hl, htp⟩ := hP.same s1
    have hp1 := s1 _ _ hp
    have npl : l ≠ p := ne_of hl hp1 (by intro z; cases z)
    refine ⟨_, rfl, _, rfl, p, A.c_Rules, dx, [], rfl, hp1, T.cl_Rules, T.na_Rules_columns, by show 0 < 1000; decide, ?_⟩
    -- self.pairs = [(rule[0], rule[1]) for rule in rules]
    have hl2 : (upd H1 p (.ins A.c_Rules dx (putF "columns" (.int (c : Nat)) []))) l = some (.lst (ts.map V.ref)) := by rw [upd_ne npl]; exact hl
    have hln : (ts.map V.ref).length = ps.length := by rw [List.length_map]; exact htp.len
    have htp2 : Tps (upd H1 p (.ins A.c_Rules dx (putF "columns" (.int (c : Nat)) []))) ts ps := by
      have : ∀ {ts : List Addr} {ps : List (Nat × Nat)}, Tps H1 ts ps → Tps (upd H1 p (.ins A.c_Rules dx (putF "columns" (.int (c : Nat)) []))) ts ps := by
        intro ts
        induction ts with
        | nil => intro ps h; cases ps with
          | nil => exact h
          | cons _ _ => exact h
        | cons t ts ih => intro ps h; cases ps with
          | nil => exact h
          | cons q ps => exact ⟨by rw [upd_ne (ne_of h.1 hp1 (by intro z; cases z))]; exact h.1, ih h.2⟩
      exact this htp
    refine ⟨_, rfl, l, rfl, ⟨_, SqL.of hl2⟩, fun D hD => comp_list (xs := ts.map V.ref) (fun i ys H' => Same (upd H1 p (.ins A.c_Rules dx (putF "columns" (.int (c : Nat)) []))) H' ∧ i ≤ ps.length ∧ ∃ qs : List Addr, ys = qs.map V.ref ∧ Tps H' qs (ps.take i)) ⟨Same.new hD, Nat.zero_le _, [], rfl, trivial⟩ (fun i ys H' _ ⟨e, _⟩ => SqL.of (e _ _ hl2)) ?_ ?_⟩
    · rintro i x ys H' hx ⟨se, hi, qs, rfl, hq⟩ hDl
      obtain ⟨t, q, rfl, hqe, ht⟩ := (htp2.same se).get hx
      have hi' : i < ps.length := (List.getElem?_eq_some_iff.mp hqe).1
      have hql : qs.length = i := by rw [hq.len, List.length_take]; omega
      refine yes_mk ?_
      refine ⟨_, rfl, t, _, 0, _, rfl, rfl, SqT.of ht, rfl, _, rfl, t, _, 1, _, rfl, rfl, SqT.of ht, rfl, by show 2 ≤ sizeLine; decide, fun n hn => ?_⟩
      have nD : D ≠ n := ne_of_none hDl hn
      have hDl2 : (upd H' n (.tup [.int (q.1 : Nat), .int (q.2 : Nat)])) D = some (.lst (qs.map V.ref)) := by rw [upd_ne nD]; exact hDl
      refine CE1.mk hDl2 (small1000 (by rw [List.length_map]; omega)) ⟨Same.up (Same.up se (se.free hn)) hD, hi', qs ++ [n], by rw [List.map_append]; rfl, ?_⟩
      have et : ps.take (i + 1) = ps.take i ++ [q] := by rw [List.take_succ, hqe]; rfl
      rw [et]
      exact Tps.snoc (by rw [upd_ne nD.symm, upd_same]) ((hq.same (Same.new hn)).upd hDl2)
    · rintro ys H' ⟨se, hi, qs, rfl, hq⟩ hDl
      rw [hln, List.take_length] at hq
      have hp3 := se p _ upd_same
      have nDp : D ≠ p := ne_of hDl hp3 (by intro z; cases z)
      refine ⟨_, rfl, p, A.c_Rules, dx, _, rfl, hp3, T.cl_Rules, T.na_Rules_pairs, by show 1 < 1000; decide, ?_⟩
      have hq2 : Tps (upd H' p (.ins A.c_Rules dx (flds c D))) qs ps := by
        have : ∀ {ts : List Addr} {ps : List (Nat × Nat)}, Tps H' ts ps → Tps (upd H' p (.ins A.c_Rules dx (flds c D))) ts ps := by
          intro ts
          induction ts with
          | nil => intro ps h; cases ps with
            | nil => exact h
            | cons _ _ => exact h
          | cons t ts ih => intro ps h; cases ps with
            | nil => exact h
            | cons q ps => exact ⟨by rw [upd_ne (ne_of h.1 hp3 (by intro z; cases z))]; exact h.1, ih h.2⟩
        exact this hq
      refine k D _ ?_ ⟨⟨dx, upd_same⟩, qs, by rw [upd_ne nDp]; exact hDl, hq2⟩ fun b o hb hbp => ?_
      · rw [upd_ne nDp] at hD
        exact s1.free hD
      · rw [upd_ne hbp]
        refine se _ _ ?_
        rw [upd_ne hbp]
        exact s1 _ _ hb
theorem ok_Rules_rules (T : Txt K mg A) : FnOk P w K mg base CX0 1 A.f_Rules_rules A.d_Rules_rules ["self"] (sp_Rules_rules A.c_Rules) := by
  refine T.F_Rules_rules.ok sc_Rules_rules (fun vs H Q E h => ?_) (fun cdv A' outer s H vs Q E hr h => ?_)
  · obtain ⟨p, m, c, ps, rfl, _⟩ := h; rfl
  · obtain ⟨p, m, c, ps, rfl, ⟨⟨dx, hp⟩, ts, hm, htp⟩, k⟩ := h
    refine ⟨_, (pss_one (ps_ret (pe_callTy (call_listK K) rfl T.z_list bt_list (pa_cons (pe_fldK K (pv 0)) pa_nil)))), ?_⟩
    exact ⟨_, rfl, p, A.c_Rules, dx, _, _, rfl, hp, T.cl_Rules, T.na_Rules_pairs, flds_pairs _ _, m, _, rfl, .inl (SqL.of hm), fun l hl => k l ts hl htp⟩
end
/-! ### the law -/
def pairD (p : Nat × Nat) : PyData := .tuple [.int (p.1 : Nat), .int (p.2 : Nat)]
theorem tps_dt {H : Hp} : ∀ {ts : List Addr} {ps : List (Nat × Nat)}, Tps H ts ps → Dts H (ts.map V.ref) (ps.map pairD)
  | [], [], _ => .nil
  | _ :: _, _ :: _, ⟨h, t⟩ => .cons (.tup h (.cons (.int _) (.cons (.int _) .nil))) (tps_dt t)
  | [], _ :: _, h => h.elim
  | _ :: _, [], h => h.elim
theorem prs_dt {H : Hp} {l : Addr} {ps : List (Nat × Nat)} : PrsAt H l ps → Dt H (.ref l) (.list (ps.map pairD)) := fun ⟨_, h, t⟩ => .lst h (tps_dt t)
theorem lay_pairs : ∀ ps : List (Nat × Nat), PyData.canLayAll0 (ps.map pairD) = true
  | [] => rfl
  | _ :: ps => by
    show (PyData.canLay0 (pairD _) && PyData.canLayAll0 (ps.map pairD)) = true
    rw [lay_pairs ps]; rfl
theorem depth_pairs : ∀ ps : List (Nat × Nat), PyData.depthAll (ps.map pairD) ≤ 1
  | [] => Nat.zero_le _
  | _ :: ps => Nat.max_le.mpr ⟨by show 1 ≤ 1; decide, depth_pairs ps⟩
theorem eqv_pairs : ∀ ps : List (Nat × Nat), PyData.eqvAll (ps.map pairD) (ps.map pairD) = true
  | [] => rfl
  | p :: ps => by
    show (PyData.eqv (pairD p) (pairD p) && PyData.eqvAll (ps.map pairD) (ps.map pairD)) = true
    rw [eqv_pairs ps]
    have : PyData.eqv (pairD p) (pairD p) = true := by
      show (((p.1 : Int) == (p.1 : Int)) && (((p.2 : Int) == (p.2 : Int)) && true)) = true
      simp
    rw [this]; rfl
theorem menu (x : Int) : ∃ c : Nat, 1 ≤ c ∧ c ≤ 6 ∧ atI [V.int 3, V.int 4, V.int 2, V.int 5, V.int 3, V.int 4, V.int 1, V.int 6] (x % 8) = some (.int (c : Nat)) := by
  have h : x % 8 = 0 ∨ x % 8 = 1 ∨ x % 8 = 2 ∨ x % 8 = 3 ∨ x % 8 = 4 ∨ x % 8 = 5 ∨ x % 8 = 6 ∨ x % 8 = 7 := by omega
  rcases h with h | h | h | h | h | h | h | h <;> rw [h]
  · exact ⟨3, by decide, by decide, rfl⟩
  · exact ⟨4, by decide, by decide, rfl⟩
  · exact ⟨2, by decide, by decide, rfl⟩
  · exact ⟨5, by decide, by decide, rfl⟩
  · exact ⟨3, by decide, by decide, rfl⟩
  · exact ⟨4, by decide, by decide, rfl⟩
  · exact ⟨1, by decide, by decide, rfl⟩
  · exact ⟨6, by decide, by decide, rfl⟩
def sp_cell_at (K : PySem.W.Frag) : Sp := fun vs H Q _ => ∃ (a : Addr) (ns : List Int) (k : Nat), vs = [.ref a, .int (k : Nat)] ∧ SqL K H a (ns.map V.int) ∧ ∀ x : Int, Q (.int x) H
def sp_draw : Sp := fun vs H Q _ => ∃ (x : Int) (k : Nat) (m : Nat), vs = [.int x, .int (k : Nat), .int (m : Nat)] ∧ 0 < m ∧ m < 1000 ∧ ∀ r : Nat, r < m → Q (.int (r : Nat)) H
def sp_set : Sp := fun vs H Q _ => ∃ (x : Int) (c : Nat), vs = [.int x, .int (c : Nat)] ∧ c ≤ 6 ∧ ∀ s : Nat, s < 2 ^ c → Q (.int (s : Nat)) H
def sp_pairs : Sp := fun vs H Q _ => ∃ (x : Int) (c m : Nat), vs = [.int x, .int (c : Nat), .int (m : Nat)] ∧ c ≤ 6 ∧ m ≤ 64 ∧
  ∀ (l : Addr) (ps : List (Nat × Nat)) (H' : Hp), H l = none → Same H H' → PrsAt H' l ps → ps.length ≤ m → (∀ p ∈ ps, p.1 < 2 ^ c ∧ p.2 < 2 ^ c) → Q (.ref l) H'
section
variable {P : Program} {w : World} {K : PySem.W.Frag} {mg : Str → Option Value} {base : Heap} {A : Adr}
/-! ### the law's own defs -/
theorem ok_law_cell_at (T : Txt K mg A) : FnOk P w K mg base CX0 1 A.f_law_cell_at A.d_law_cell_at ["_law_script", "_law_k"] (sp_cell_at K) := by
  refine T.F_law_cell_at.ok sc_law_cell_at (fun vs H Q E h => ?_) (fun cdv A' outer s H vs Q E hr h => ?_)
  · obtain ⟨a, ns, n, rfl, _⟩ := h; rfl
  · obtain ⟨a, ns, n, rfl, hS, k⟩ := h
    refine ⟨_, (pss_cons (ps_if (pt_cmpR op_lt (pv 1) (pe_callB (call_lenK K) rfl T.z_len bt_len (pa_cons (pv 0) pa_nil)) (nomark _)) (pss_one (ps_ret (pe_ix (ix_listK K) (pv 0) (pv 1) (fun _ _ => rfl)))) pss_nil)
      (pss_one (ps_ret pe_int))), ?_⟩
    refine ⟨_, rfl, _, rfl, a, _, rfl, .inl hS, _, _, rfl, rfl, _, rfl, ?_⟩
    refine ite2 (fun e => ?_) (fun e => ?_)
    · have e' := of_decide_eq_true e
      rw [List.length_map] at e'
      have hi : n < ns.length := by omega
      have hg : (ns.map V.int)[n]? = some (.int ns[n]) := by rw [List.getElem?_map, List.getElem?_eq_getElem hi]; rfl
      exact ⟨_, rfl, _, rfl, a, _, (n : Int), _, rfl, rfl, hS, atI_nat hg, k _⟩
    · exact k 0
theorem ok_law_draw (T : Txt K mg A) : FnOk P w K mg base CX0 1 A.f_law_draw A.d_law_draw ["_law_cell", "_law_k", "_law_many"] sp_draw := by
  refine T.F_law_draw.ok sc_law_draw (fun vs H Q E h => ?_) (fun cdv A' outer s H vs Q E hr h => ?_)
  · obtain ⟨x, n, m, rfl, _⟩ := h; rfl
  · obtain ⟨x, n, m, rfl, hm, hm2, k⟩ := h
    refine ⟨_, (pss_cons (ps_set (i := 3) sc_law_draw.nd rfl (Or.inl rfl) (pe_op op_mod (pe_op op_add (pe_op op_add (pe_op op_mul (pe_op op_mod (pv 0) pe_int) pe_int) (pe_op op_mul (pv 1) pe_int)) pe_int) pe_int))
      (pss_one (ps_ret (pe_op op_mod (pe_op op_mod (pe_op op_fdiv (pe_op op_mul (pv 3) (pv 3)) pe_int) pe_int) (pv 2))))), ?_⟩
    refine ⟨_, rfl, x, 1000000007, rfl, rfl, (by show (0 : Int) < 1000000007; decide), _, 48271, rfl, rfl, .inr ⟨by decide, by decide⟩, _, rfl, _, 69621, rfl, rfl, .inr ⟨by decide, by decide⟩, _, _, rfl, rfl, _, 7, rfl, rfl, _, 1000000007, rfl, rfl, (by show (0 : Int) < 1000000007; decide), ?_⟩
    have y0 : 0 ≤ (x % 1000000007 * 48271 + (n : Int) * 69621 + 7) % 1000000007 := Int.emod_nonneg _ (by decide)
    have y1 : (x % 1000000007 * 48271 + (n : Int) * 69621 + 7) % 1000000007 < 1000000007 := Int.emod_lt_of_pos _ (by decide)
    refine ⟨_, rfl, _, rfl, _, _, rfl, rfl, .inl ⟨by omega, by omega⟩, _, 1013, rfl, rfl, ⟨by decide, by decide⟩, _, 1000003, rfl, rfl, (by show (0 : Int) < 1000003; decide), _, rfl, _, (m : Int), rfl, rfl, (by show (0 : Int) < (m : Int); omega), ?_⟩
    generalize (x % 1000000007 * 48271 + (n : Int) * 69621 + 7) % 1000000007 = y
    show Q (V.int (y * y / 1013 % 1000003 % (m : Int))) H
    have z0 : 0 ≤ y * y / 1013 % 1000003 % (m : Int) := Int.emod_nonneg _ (by omega)
    have z1 : y * y / 1013 % 1000003 % (m : Int) < m := Int.emod_lt_of_pos _ (by omega)
    obtain ⟨r, hr'⟩ := Int.eq_ofNat_of_zero_le z0
    rw [hr'] at z1 ⊢
    exact k r (by omega)
theorem ok_law_set (T : Txt K mg A) : FnOk P w K mg base CX0 3 A.f_law_set A.d_law_set ["_law_cell", "_law_columns"] sp_set := by
  have G_law_draw := ok_law_draw (P := P) (w := w) (base := base) T
  refine T.F_law_set.ok sc_law_set (fun vs H Q E h => ?_) (fun cdv A' outer s H vs Q E hr h => ?_)
  · obtain ⟨x, c, rfl, _⟩ := h; rfl
  · obtain ⟨x, c, rfl, hc, k⟩ := h
    refine ⟨_, (pss_cons (ps_set (i := 2) sc_law_set.nd rfl (Or.inl rfl) pe_int)
      (pss_cons (ps_for PassesOwn.never rfl (pi_range1 rfl T.z_range (pa_cons (pv 1) pa_nil)) (pg_name (i := 3) sc_law_set.nd rfl (Or.inl rfl))
      (pss_one (ps_if (pt_cmpR op_eq (pe_call G_law_draw (hr.mono (by decide)) rfl T.m_law_draw T.F_law_draw.kp T.b_law_draw .nil pass0 (pa_cons (pe_op op_add (pv 0) (pe_op op_mul pe_int (pv 3))) (pa_cons pe_int (pa_cons pe_int pa_nil)))) pe_int (nomark _)) (pss_one (ps_set (i := 2) sc_law_set.nd rfl (Or.inl rfl) (pe_op op_or (pv 2) (pe_op op_shl pe_int (pv 3))))) pss_nil)))
      (pss_one (ps_ret (pv 2))))), ?_⟩
    refine ⟨_, rfl, _, rfl, by omega, by omega, for_range (lo := 0) (n := ((c : Nat) : Int).toNat) (fun i σ' H' => H' = H ∧ ∃ (s : Nat) (cv : Option V), σ' = [some (.int x), some (.int (c : Nat)), some (.int (s : Nat)), cv] ∧ s < 2 ^ c) ⟨rfl, 0, none, rfl, Nat.two_pow_pos c⟩ ?_ ?_⟩
    · rintro i σ' H' hi ⟨rfl, s, cv, rfl, hs⟩
      rw [Int.toNat_natCast] at hi
      rw [Int.zero_add]
      refine ⟨_, rfl, _, rfl, 31, (i : Int), rfl, rfl, .inl ⟨by decide, by decide⟩, _, _, rfl, rfl, _, 2, 3, rfl, by decide, by decide, fun r hr' => ⟨rfl, _, rfl, ?_⟩⟩
      refine ite2 (fun e => ?_) (fun e => ?_)
      · refine ⟨_, rfl, _, rfl, 1, (i : Int), rfl, rfl, ⟨Int.natCast_nonneg i, by omega, by decide⟩, (s : Int), _, rfl, rfl, ?_⟩
        refine ⟨rfl, s ||| 2 ^ i, some (.int (i : Nat)), ?_, Nat.or_lt_two_pow hs (Nat.pow_lt_pow_right (by decide) hi)⟩
        rw [← or_nat, ← shl_nat]; rfl
      · exact ⟨rfl, s, _, rfl, hs⟩
    · rintro σ' H' ⟨rfl, s, cv, rfl, hs⟩
      exact ⟨_, rfl, k s hs⟩
theorem ok_law_pairs (T : Txt K mg A) : FnOk P w K mg base CX0 5 A.f_law_pairs A.d_law_pairs ["_law_cell", "_law_columns", "_law_most"] sp_pairs := by
  have G_law_draw := ok_law_draw (P := P) (w := w) (base := base) T
  have G_law_set := ok_law_set (P := P) (w := w) (base := base) T
  refine T.F_law_pairs.ok sc_law_pairs (fun vs H Q E h => ?_) (fun cdv A' outer s H vs Q E hr h => ?_)
  · obtain ⟨x, c, m, rfl, _⟩ := h; rfl
  · obtain ⟨x, c, m, rfl, hc, hm, k⟩ := h
    refine ⟨_, (pss_cons (ps_set (i := 3) sc_law_pairs.nd rfl (Or.inl rfl) (pe_lst pa_nil))
      (pss_cons (ps_for PassesOwn.never rfl (pi_range1 rfl T.z_range (pa_cons (pe_call G_law_draw (hr.mono (by decide)) rfl T.m_law_draw T.F_law_draw.kp T.b_law_draw .nil pass0 (pa_cons (pv 0) (pa_cons pe_int (pa_cons (pe_op op_add (pv 2) pe_int) pa_nil)))) pa_nil)) (pg_name (i := 4) sc_law_pairs.nd rfl (Or.inl rfl))
      (pss_cons (ps_set (i := 5) sc_law_pairs.nd rfl (Or.inl rfl) (pe_call G_law_set (hr.mono (by decide)) rfl T.m_law_set T.F_law_set.kp T.b_law_set .nil pass0 (pa_cons (pe_op op_add (pe_op op_fdiv (pv 0) (pe_op op_add (pv 4) pe_int)) (pe_op op_mul pe_int (pv 4))) (pa_cons (pv 1) pa_nil))))
      (pss_cons (ps_set (i := 6) sc_law_pairs.nd rfl (Or.inl rfl) (pe_call G_law_set (hr.mono (by decide)) rfl T.m_law_set T.F_law_set.kp T.b_law_set .nil pass0 (pa_cons (pe_op op_add (pe_op op_add (pe_op op_fdiv (pv 0) (pe_op op_add (pv 4) pe_int)) (pe_op op_mul pe_int (pv 4))) pe_int) (pa_cons (pv 1) pa_nil))))
      (pss_cons (ps_if (PW.pt (pw_and (pt_cmpR op_eq (pe_call G_law_draw (hr.mono (by decide)) rfl T.m_law_draw T.F_law_draw.kp T.b_law_draw .nil pass0 (pa_cons (pe_op op_add (pv 0) (pv 4)) (pa_cons pe_int (pa_cons pe_int pa_nil)))) pe_int (nomark _)) (pw_and1 (pt_cmpR op_gt (pv 4) pe_int (nomark _))))) (pss_one (ps_set (i := 5) sc_law_pairs.nd rfl (Or.inl rfl) (pe_ix (ix_tupK K) (pe_ix (ix_listK K) (pv 3) (pe_un un_neg pe_int) (fun _ _ => rfl)) pe_int (fun _ _ => rfl)))) pss_nil)
      (pss_one (ps_expr (pe_appendK K (pv 3) (pa_cons (pe_tup (pa_cons (pv 5) (pa_cons (pv 6) pa_nil))) pa_nil))))))))
      (pss_one (ps_ret (pv 3))))), ?_⟩
    refine ⟨Nat.zero_le _, fun l hl => ?_⟩
    refine ⟨_, rfl, _, rfl, (m : Int), 1, rfl, rfl, x, 1, m + 1, rfl, by omega, by omega, fun n hn => ⟨(n : Int), rfl, by omega, by omega, ?_⟩⟩
    refine for_range (lo := 0) (n := ((n : Nat) : Int).toNat) (fun i σ' H' => ∃ (ps : List (Nat × Nat)) (kv lv rv : Option V), σ' = [some (.int x), some (.int (c : Nat)), some (.int (m : Nat)), some (.ref l), kv, lv, rv] ∧ Same H H' ∧ PrsAt H' l ps ∧ ps.length = i ∧ ∀ p ∈ ps, p.1 < 2 ^ c ∧ p.2 < 2 ^ c)
      ⟨[], none, none, none, rfl, Same.new hl, ⟨[], upd_same, trivial⟩, rfl, fun _ z => nomatch z⟩ ?_ ?_
    · rintro i σ' H' hi ⟨ps, kv, lv, rv, rfl, se, hP, hpl, hps⟩
      rw [Int.toNat_natCast] at hi
      rw [Int.zero_add]
      obtain ⟨ts, hL, htp⟩ := id hP
      have hlen := htp.len
      refine ⟨_, rfl, _, rfl, (i : Int), 3, rfl, rfl, x, _, rfl, rfl, ⟨by omega, by omega⟩, _, rfl, 977, (i : Int), rfl, rfl, .inl ⟨by decide, by decide⟩, _, _, rfl, rfl, _, rfl, _, c, rfl, hc, fun lf hlf => ?_⟩
      refine ⟨_, rfl, _, rfl, (i : Int), 7, rfl, rfl, x, _, rfl, rfl, ⟨by omega, by omega⟩, _, rfl, 977, (i : Int), rfl, rfl, .inl ⟨by decide, by decide⟩, _, _, rfl, rfl, _, 5, rfl, rfl, _, rfl, _, c, rfl, hc, fun rg hrg => ?_⟩
      -- the pair is put behind
      have tl : ∀ lf' : Nat, lf' < 2 ^ c → ∀ q, H' q = none → ∃ (ps' : List (Nat × Nat)), Same H (upd (upd H' q (.tup [.int (lf' : Nat), .int (rg : Nat)])) l (.lst (ts.map V.ref ++ [.ref q]))) ∧ PrsAt (upd (upd H' q (.tup [.int (lf' : Nat), .int (rg : Nat)])) l (.lst (ts.map V.ref ++ [.ref q]))) l ps' ∧ ps'.length = i + 1 ∧ ∀ p ∈ ps', p.1 < 2 ^ c ∧ p.2 < 2 ^ c := by
        intro lf' h1 q hq
        have nlq : l ≠ q := ne_of_none hL hq
        have hL2 : (upd H' q (.tup [.int (lf' : Nat), .int (rg : Nat)])) l = some (.lst (ts.map V.ref)) := by rw [upd_ne nlq]; exact hL
        refine ⟨ps ++ [(lf', rg)], Same.up (Same.up se (se.free hq)) hl, ⟨ts ++ [q], by rw [upd_same, List.map_append]; rfl, ?_⟩, by rw [List.length_append, hpl]; rfl, fun p hp => ?_⟩
        · exact Tps.snoc (by rw [upd_ne nlq.symm, upd_same]) ((htp.same (Same.new hq)).upd hL2)
        · rcases List.mem_append.mp hp with z | z
          · exact hps p z
          · have z' : p = (lf', rg) := by simpa using z
            subst z'
            exact ⟨h1, hrg⟩
      have hsz : (ts.map V.ref).length < sizeLine := small1000 (by rw [List.length_map]; omega)
      refine ⟨_, rfl, _, rfl, x, (i : Int), rfl, rfl, _, 4, 3, rfl, by decide, by decide, fun r hr' => ⟨rfl, _, rfl, ?_⟩⟩
      refine ite2 (fun e => ?_) (fun e => ?_)
      · refine ⟨_, rfl, (i : Int), 0, rfl, rfl, _, rfl, ?_⟩
        refine ite2 (fun e2 => ?_) (fun e2 => ?_)
        · have hi0 : 0 < i := by have := of_decide_eq_true e2; omega
          -- _law_left = _law_pairs_here[-1][1]
          obtain ⟨j, rfl⟩ : ∃ j, i = j + 1 := ⟨i - 1, by omega⟩
          have hjl : j < ps.length := by omega
          have hjt : j < ts.length := by omega
          have hgt : (ts.map V.ref)[j]? = some (.ref ts[j]) := by rw [List.getElem?_map, List.getElem?_eq_getElem hjt]; rfl
          obtain ⟨t, p, et, hp, ht⟩ := htp.get hgt
          injection et with et
          subst et
          have hat : atI (ts.map V.ref) (-1) = some (.ref ts[j]) := by
            have hll : (ts.map V.ref).length = j + 1 := by rw [List.length_map]; omega
            unfold atI ixN
            rw [hll, if_neg (by decide), if_pos (by omega)]
            show (ts.map V.ref)[((-1 : Int) + ((j + 1 : Nat) : Int)).toNat]? = _
            rw [show ((-1 : Int) + ((j + 1 : Nat) : Int)).toNat = j by omega]
            exact hgt
          refine ⟨_, rfl, 1, rfl, l, _, -1, _, rfl, rfl, SqL.of hL, hat, ts[j], _, 1, _, rfl, rfl, SqT.of ht, rfl, ?_⟩
          refine ⟨_, rfl, .inl ⟨rfl, _, SqL.of hL⟩, _, rfl, _, rfl, by show 2 ≤ sizeLine; decide, fun q hq => ⟨l, ts.map V.ref, .ref q, rfl, rfl, by rw [upd_ne (ne_of_none hL hq)]; exact hL, hsz, ?_⟩⟩
          obtain ⟨ps', a1, a2, a3, a4⟩ := tl p.2 (hps p (List.mem_of_getElem? hp)).2 q hq
          exact ⟨ps', _, _, _, rfl, a1, a2, a3, a4⟩
        · refine ⟨_, rfl, .inl ⟨rfl, _, SqL.of hL⟩, _, rfl, _, rfl, by show 2 ≤ sizeLine; decide, fun q hq => ⟨l, ts.map V.ref, .ref q, rfl, rfl, by rw [upd_ne (ne_of_none hL hq)]; exact hL, hsz, ?_⟩⟩
          obtain ⟨ps', a1, a2, a3, a4⟩ := tl lf hlf q hq
          exact ⟨ps', _, _, _, rfl, a1, a2, a3, a4⟩
      · refine iteF ?_
        refine ⟨_, rfl, .inl ⟨rfl, _, SqL.of hL⟩, _, rfl, _, rfl, by show 2 ≤ sizeLine; decide, fun q hq => ⟨l, ts.map V.ref, .ref q, rfl, rfl, by rw [upd_ne (ne_of_none hL hq)]; exact hL, hsz, ?_⟩⟩
        obtain ⟨ps', a1, a2, a3, a4⟩ := tl lf hlf q hq
        exact ⟨ps', _, _, _, rfl, a1, a2, a3, a4⟩
    · rintro σ' H' ⟨ps, kv, lv, rv, rfl, se, hP, hpl, hps⟩
      rw [Int.toNat_natCast] at hpl
      exact ⟨_, rfl, k l ps H' hl se hP (by omega) hps⟩
end
end K13

/-! ### rules as texts -/
namespace TC
open PySem
/-- a figure -/
def digT (n : Nat) : Str := Str.ofString (toString ((n : Nat) : Int))
/-- the text of a set -/
def figT (s : Nat) : Str := if s = 0 then Str.ofString "-" else Str.join (Str.ofString "") (((List.range 6).filter fun j => s.testBit j).map digT)
theorem fig_nodup : ((List.range 64).map figT).Nodup := by decide +kernel
theorem fig_bits : ∀ s, s < 64 → ((List.range (Builtin.Int.intBits ((s : Nat) : Int))).filter fun j => s.testBit j) = (List.range 6).filter fun j => s.testBit j := by decide +kernel
theorem fig_len : ∀ s, s < 64 → (figT s).length ≤ 6 := by decide +kernel
theorem dig_len : ∀ s, s < 7 → (digT s).length ≤ 1 := by decide +kernel
theorem fig_inj {a b : Nat} (ha : a < 64) (hb : b < 64) (h : figT a = figT b) : a = b := by
  have e : ∀ s, s < 64 → ((List.range 64).map figT)[s]? = some (figT s) := fun s hs => by
    rw [List.getElem?_map, List.getElem?_range hs]; rfl
  exact (List.getElem?_inj (i := a) (j := b) (by rw [List.length_map, List.length_range]; exact ha) fig_nodup).mp (by rw [e a ha, e b hb, h])
/-- which set a text is -/
def setT (c : Nat) (a : Str) : Option Nat := (List.range (2 ^ c)).find? fun s => decide (figT s = a)
theorem setT_some {c : Nat} {a : Str} {s : Nat} (h : setT c a = some s) : s < 2 ^ c ∧ figT s = a := by
  unfold setT at h
  have h1 := List.mem_of_find?_eq_some h
  have h2 := List.find?_some h
  exact ⟨List.mem_range.mp h1, of_decide_eq_true h2⟩
theorem setT_none {c : Nat} {a : Str} (h : setT c a = none) : ∀ s, s < 2 ^ c → figT s ≠ a := fun s hs z => by
  unfold setT at h
  have := List.find?_eq_none.mp h s (List.mem_range.mpr hs)
  exact this (decide_eq_true z)
/-- which rule a word is -/
def ruleT (c : Nat) (w : Str) : Option (Nat × Nat) := match Txt.split w (Str.ofString ">") with
  | [a, b] => match setT c a, setT c b with
    | some x, some y => some (x, y)
    | _, _ => none
  | _ => none
def wordT (p : Nat × Nat) : Str := figT p.1 ++ Str.ofString ">" ++ figT p.2
theorem ruleT_word {c : Nat} {w : Str} {p : Nat × Nat} (h : ruleT c w = some p) : wordT p = w ∧ p.1 < 2 ^ c ∧ p.2 < 2 ^ c := by
  unfold ruleT at h
  have hj := StrLaws.join_split w (Str.ofString ">")
  split at h
  · rename_i a b e
    rw [e] at hj
    split at h
    · rename_i x y e1 e2
      cases h
      obtain ⟨x1, x2⟩ := setT_some e1
      obtain ⟨y1, y2⟩ := setT_some e2
      refine ⟨?_, x1, y1⟩
      unfold wordT
      rw [x2, y2, ← hj]
      rfl
    · cases h
  · cases h
def rulesT (c : Nat) : List Str → Option (List (Nat × Nat))
  | [] => some []
  | w :: ws => match ruleT c w with
    | none => none
    | some p => match rulesT c ws with
      | none => none
      | some ps => some (p :: ps)
theorem rulesT_words {c : Nat} : ∀ {ws : List Str} {ps : List (Nat × Nat)}, rulesT c ws = some ps → ps.map wordT = ws ∧ ∀ p ∈ ps, p.1 < 2 ^ c ∧ p.2 < 2 ^ c
  | [], ps, h => by cases h; exact ⟨rfl, fun p hp => by cases hp⟩
  | w :: ws, ps, h => by
    unfold rulesT at h
    cases e1 : ruleT c w with
    | none => rw [e1] at h; cases h
    | some p =>
      rw [e1] at h
      dsimp only at h
      cases e2 : rulesT c ws with
      | none => rw [e2] at h; cases h
      | some qs =>
        rw [e2] at h
        cases h
        obtain ⟨a, b⟩ := ruleT_word e1
        obtain ⟨d, f⟩ := rulesT_words e2
        refine ⟨by rw [List.map_cons, a, d], fun q hq => ?_⟩
        rcases List.mem_cons.mp hq with rfl | hq
        · exact b
        · exact f q hq
/-- how many columns a head tells -/
def headT (h : Str) : Option Nat := ((List.range 6).find? fun j => decide (digT (j + 1) = h)).map (· + 1)
theorem headT_some {h : Str} {c : Nat} (e : headT h = some c) : digT c = h ∧ 1 ≤ c ∧ c ≤ 6 := by
  unfold headT at e
  cases q : (List.range 6).find? (fun j => decide (digT (j + 1) = h)) with
  | none => rw [q] at e; cases e
  | some j =>
    rw [q] at e
    cases e
    have h1 := List.mem_range.mp (List.mem_of_find?_eq_some q)
    have h2' := List.find?_some q
    have h2 : digT (j + 1) = h := of_decide_eq_true h2'
    exact ⟨h2, by show 1 ≤ j + 1; omega, by show j + 1 ≤ 6; omega⟩
theorem headT_none {h : Str} (e : headT h = none) : ∀ c, 1 ≤ c → c ≤ 6 → digT c ≠ h := fun c h1 h6 z => by
  unfold headT at e
  rw [Option.map_eq_none_iff] at e
  have := List.find?_eq_none.mp e (c - 1) (List.mem_range.mpr (by omega))
  rw [show c - 1 + 1 = c by omega] at this
  exact this (decide_eq_true z)
/-- what a text tells -/
def inT (t : Str) : Option (Nat × List (Nat × Nat)) := match Txt.split t (Str.ofString "; ") with
  | [] => none
  | h :: ws => match headT h with
    | none => none
    | some c => if ws.length ≤ 64 then (rulesT c ws).map fun ps => (c, ps) else none
def textT (c : Nat) (ps : List (Nat × Nat)) : Str := Str.join (Str.ofString "; ") (digT c :: ps.map wordT)
theorem inT_some {t : Str} {c : Nat} {ps : List (Nat × Nat)} (h : inT t = some (c, ps)) : textT c ps = t ∧ 1 ≤ c ∧ c ≤ 6 ∧ ps.length ≤ 64 ∧ ∀ p ∈ ps, p.1 < 2 ^ c ∧ p.2 < 2 ^ c := by
  unfold inT at h
  have hj := StrLaws.join_split t (Str.ofString "; ")
  split at h
  · cases h
  · rename_i hd ws e
    rw [e] at hj
    split at h
    · cases h
    · rename_i c' e1
      split at h
      · rename_i hl
        cases e2 : rulesT c' ws with
        | none => rw [e2] at h; cases h
        | some qs =>
          rw [e2] at h
          cases h
          obtain ⟨a, b, d⟩ := headT_some e1
          obtain ⟨f, g⟩ := rulesT_words e2
          refine ⟨?_, b, d, ?_, g⟩
          · unfold textT
            rw [a, f]
            exact hj
          · rw [← f, List.length_map] at hl
            exact hl
      · cases h
end TC

namespace K13
open PySem L2 TC
def sp_figures : Sp := fun vs H Q _ => ∃ s : Nat, vs = [.int (s : Nat)] ∧ s < 64 ∧ ∀ H', Same H H' → Q (.str (figT s)) H'
def figL (n i : Nat) : List V := (((List.range i).filter fun j => n.testBit j).map digT).map V.str
theorem figL_yes {n i : Nat} (h : n.testBit i = true) : figL n (i + 1) = figL n i ++ [.str (digT i)] := by
  unfold figL
  rw [List.range_succ, List.filter_append, List.map_append, List.map_append]
  simp [h]
theorem figL_no {n i : Nat} (h : ¬ n.testBit i = true) : figL n (i + 1) = figL n i := by
  unfold figL
  rw [List.range_succ, List.filter_append, List.map_append, List.map_append]
  simp [h]
theorem figL_len (n i : Nat) : (figL n i).length ≤ i := by
  unfold figL
  rw [List.length_map, List.length_map]
  exact Nat.le_trans (List.length_filter_le _ _) (by rw [List.length_range]; exact Nat.le_refl _)
theorem bits6 : ∀ s, s < 64 → Builtin.Int.intBits ((s : Nat) : Int) ≤ 6 := by decide +kernel
theorem shr_bit : ∀ n, n < 64 → ∀ j, j < 6 → (n / 2 ^ j &&& 1 = 1 ↔ n.testBit j = true) := by decide +kernel
theorem log_small {i : Nat} (h : i < 100) : (((i : Nat) : Int)).natAbs.log2 < 1920 := by
  rw [Int.natAbs_natCast]
  exact Nat.lt_of_le_of_lt (Nat.log2_le_self i) (by omega)
theorem and_bit : ∀ n, n < 64 → ∀ j, j < 6 → (n &&& 2 ^ j ≠ 0 ↔ n.testBit j = true) := by decide +kernel
theorem fig_short {b n : Nat} (hb : b ≤ 6) {y : Str} (h : y ∈ ((List.range b).filter fun j => n.testBit j).map digT) : y.length ≤ 9000 := by
  obtain ⟨j, hj, rfl⟩ := List.mem_map.mp h
  have := dig_len j (by have := List.mem_range.mp (List.mem_filter.mp hj).1; omega)
  omega
theorem fig_few {b n : Nat} (hb : b ≤ 6) : (((List.range b).filter fun j => n.testBit j).map digT).length ≤ 900 := by
  rw [List.length_map]
  exact Nat.le_trans (List.length_filter_le _ _) (by rw [List.length_range]; omega)
theorem figT_ne {n : Nat} (h : n ≠ 0) : figT n = Str.join (Str.ofString "") (((List.range 6).filter fun j => n.testBit j).map digT) := by
  unfold figT
  rw [if_neg h]
section
variable {P : Program} {w : World} {K : PySem.W.Frag} {mg : Str → Option Value} {base : Heap} {A : Adr}
theorem ok_figures (T : Txt K mg A) : FnOk P w K mg base CX0 1 A.f_figures A.d_figures ["some"] sp_figures := by
  refine T.F_figures.ok sc_figures (fun vs H Q E h => ?_) (fun cdv A' outer s H vs Q E hr h => ?_)
  · obtain ⟨s, rfl, _⟩ := h; rfl
  · obtain ⟨n, rfl, hn, k⟩ := h
    refine ⟨_, (pss_cons (ps_if (pt_cmpR op_eq (pv 0) pe_int (nomark _)) (pss_one (ps_ret pe_str)) pss_nil)
      (pss_one (ps_ret (pe_joinK K pe_str (pa_cons (pe_comp ["some"] (defScope s_figures) ["column", "some"] [none, some 0] ⟨rfl, by decide +kernel, by decide +kernel, by decide +kernel, by decide +kernel, by decide +kernel⟩ rfl (pi_range1 rfl T.z_range (pa_cons (pe_bitlenK K (pv 0)) pa_nil)) (fun _ _ _ _ _ => (pg_name (i := 0) (by show List.Nodup (["column", "some"] : List Str); decide +kernel) rfl (Or.inl rfl) (Or.inr rfl))) (fun _ _ _ _ _ => pts_one (pt_truthK K (pe_op op_and (pv 1) (pe_op op_shl pe_int (pv 0))))) (fun _ _ _ _ _ => (pe_callTy call_str_int rfl T.z_str bt_str (pa_cons (pv 0) pa_nil)))) pa_nil))))), ?_⟩
    refine ⟨_, rfl, rfl, _, rfl, ?_⟩
    refine ite2 (fun e => ?_) (fun e => ?_)
    · have e0 : n = 0 := by have z := of_decide_eq_true e; injection z with z; omega
      subst e0
      exact k H (Same.refl _)
    · have e0 : n ≠ 0 := fun z => e (decide_eq_true (by rw [z]; rfl))
      have hb := bits6 n hn
      refine ⟨rfl, _, rfl, rfl, (n : Int), rfl, rfl, _, rfl, by omega, by omega, fun D hD => ?_⟩
      rw [Int.toNat_natCast]
      refine comp_range (lo := 0) (n := Builtin.Int.intBits ((n : Nat) : Int)) (fun i ys H' => Same H H' ∧ ys = figL n i) ⟨Same.new hD, rfl⟩ ?_ ?_
      · rintro i ys H' hi ⟨se, rfl⟩ hDl
        rw [Int.zero_add]
        have hll := figL_len n i
        refine ⟨_, rfl, _, rfl, 1, (i : Int), rfl, rfl, ⟨Int.natCast_nonneg i, by omega, by decide⟩, (n : Int), _, rfl, rfl, _, rfl, ?_⟩
        have ea : Builtin.bitAnd ((n : Nat) : Int) (1 * 2 ^ ((i : Int)).toNat) = ((n &&& 2 ^ i : Nat) : Int) := by rw [shl_nat, and_nat]
        dsimp only
        rw [ea]
        refine ite2 (fun e => ?_) (fun e => ?_)
        · have e1 : n.testBit i = true := (and_bit n hn i (by omega)).mp (by
            intro z
            rw [z] at e
            exact absurd e (by decide))
          refine ⟨_, rfl, (i : Int), rfl, log_small (by omega), CE1.mk hDl (small1000 (by omega)) ⟨Same.up se hD, ?_⟩⟩
          exact (figL_yes e1).symm
        · have e1 : ¬ n.testBit i = true := fun z => e (by
            have := (and_bit n hn i (by omega)).mpr z
            simpa using this)
          exact CN.mk hDl ⟨se, (figL_no e1).symm⟩
      · rintro ys H' ⟨se, rfl⟩ hDl
        refine ⟨Str.ofString "", D, ((List.range (Builtin.Int.intBits ((n : Nat) : Int))).filter fun j => n.testBit j).map digT, rfl, rfl, hDl, fun y hy => fig_short hb hy, fig_few hb, by decide, ?_⟩
        rw [fig_bits n hn, ← figT_ne e0]
        exact k H' se
theorem ok_law_word (T : Txt K mg A) : FnOk P w K mg base CX0 1 A.f_law_word A.d_law_word ["_law_some"] sp_figures := by
  refine T.F_law_word.ok sc_law_word (fun vs H Q E h => ?_) (fun cdv A' outer s H vs Q E hr h => ?_)
  · obtain ⟨s, rfl, _⟩ := h; rfl
  · obtain ⟨n, rfl, hn, k⟩ := h
    refine ⟨_, (pss_one (ps_ret (pe_ifExp (pt_cmpR op_gt (pv 0) pe_int (nomark _)) (pe_joinK K pe_str (pa_cons (pe_comp ["_law_some"] (defScope s_law_word) ["_law_column", "_law_some"] [none, some 0] ⟨rfl, by decide +kernel, by decide +kernel, by decide +kernel, by decide +kernel, by decide +kernel⟩ rfl (pi_range1 rfl T.z_range (pa_cons pe_int pa_nil)) (fun _ _ _ _ _ => (pg_name (i := 0) (by show List.Nodup (["_law_column", "_law_some"] : List Str); decide +kernel) rfl (Or.inl rfl) (Or.inr rfl))) (fun _ _ _ _ _ => pts_one (pt_cmpR op_eq (pe_op op_and (pe_op op_shr (pv 1) (pv 0)) pe_int) pe_int (nomark _))) (fun _ _ _ _ _ => (pe_callTy call_str_int rfl T.z_str bt_str (pa_cons (pv 0) pa_nil)))) pa_nil)) pe_str))), ?_⟩
    refine ⟨_, rfl, (n : Int), 0, rfl, rfl, _, rfl, ?_⟩
    refine ite2 (fun e => ?_) (fun e => ?_)
    · have e0 : n ≠ 0 := by have z := of_decide_eq_true e; omega
      refine ⟨rfl, 6, rfl, by decide, by decide, fun D hD => ?_⟩
      refine comp_range (lo := 0) (n := 6) (fun i ys H' => Same H H' ∧ ys = figL n i) ⟨Same.new hD, rfl⟩ ?_ ?_
      · rintro i ys H' hi ⟨se, rfl⟩ hDl
        rw [Int.zero_add]
        have hll := figL_len n i
        refine ⟨_, rfl, _, rfl, (n : Int), (i : Int), rfl, rfl, Int.natCast_nonneg i, _, 1, rfl, rfl, rfl, _, rfl, ?_⟩
        have ed : (n : Int) / 2 ^ ((i : Int)).toNat = ((n / 2 ^ i : Nat) : Int) := by
          rw [Int.toNat_natCast]
          simp
        rw [ed]
        have ea : Builtin.bitAnd ((n / 2 ^ i : Nat) : Int) 1 = ((n / 2 ^ i &&& 1 : Nat) : Int) := and_nat _ 1
        refine ite2 (fun e => ?_) (fun e => ?_)
        · have e1 : n.testBit i = true := (shr_bit n hn i (by omega)).mp (by have z := of_decide_eq_true e; injection z with z; rw [ea] at z; omega)
          refine ⟨_, rfl, (i : Int), rfl, log_small (by omega), CE1.mk hDl (small1000 (by omega)) ⟨Same.up se hD, ?_⟩⟩
          exact (figL_yes e1).symm
        · have e1 : ¬ n.testBit i = true := fun z => e (decide_eq_true (by dsimp only; rw [ea, (shr_bit n hn i (by omega)).mpr z]; rfl))
          exact CN.mk hDl ⟨se, (figL_no e1).symm⟩
      · rintro ys H' ⟨se, rfl⟩ hDl
        refine ⟨Str.ofString "", D, ((List.range 6).filter fun j => n.testBit j).map digT, rfl, rfl, hDl, fun y hy => fig_short (Nat.le_refl 6) hy, fig_few (Nat.le_refl 6), by decide, ?_⟩
        rw [← figT_ne e0]
        exact k H' se
    · have e0 : n = 0 := by
        rcases Nat.eq_zero_or_pos n with z | z
        · exact z
        · exact absurd (decide_eq_true (by omega)) e
      subst e0
      exact k H (Same.refl _)
end
end K13

namespace K13
open PySem L2 TC
def sp_written (C : Addr) : Sp := fun vs H Q _ => ∃ (p m : Addr) (c : Nat) (ps : List (Nat × Nat)), vs = [.ref p] ∧ RulesAt C H p m c ps ∧ Good c ps ∧ ∀ H', Same H H' → Q (.str (textT c ps)) H'
section
variable {P : Program} {w : World} {K : PySem.W.Frag} {mg : Str → Option Value} {base : Heap} {A : Adr}
theorem ok_written (T : Txt K mg A) : FnOk P w K mg base CX0 3 A.f_written A.d_written ["rules"] (sp_written A.c_Rules) := by
  have G_figures := ok_figures (P := P) (w := w) (base := base) T
  have G_Rules_rules := ok_Rules_rules (P := P) (w := w) (base := base) T
  refine T.F_written.ok sc_written (fun vs H Q E h => ?_) (fun cdv A' outer s H vs Q E hr h => ?_)
  · obtain ⟨p, m, c, ps, rfl, _⟩ := h; rfl
  · obtain ⟨p, m, c, ps, rfl, hR, ⟨hc1, hc6, hlen, hps⟩, k⟩ := h
    obtain ⟨⟨dx, hp⟩, _⟩ := id hR
    refine ⟨_, (pss_cons (ps_setC (i := 1) ["rules", "words"] (defScope s_written) ["rule"] [none] ⟨rfl, by decide +kernel, by decide +kernel, by decide +kernel, by decide +kernel, by decide +kernel⟩ rfl sc_written.nd rfl rfl (pi_listK K (pe_meth0 (pv 0) T.cl_Rules T.mt_Rules_rules G_Rules_rules (hr.mono (by decide)) T.b_Rules_rules .nil pass0)) (fun _ _ _ _ _ => (pg_name (i := 0) (by show List.Nodup (["rule"] : List Str); decide +kernel) rfl (Or.inl rfl) (Or.inr rfl))) (fun _ _ _ _ _ => pts_nil) (fun _ _ _ _ _ => (pe_op op_add_str (pe_op op_add_str (pe_call G_figures (hr.mono (by decide)) rfl T.m_figures T.F_figures.kp T.b_figures .nil pass0 (pa_cons (pe_ix (ix_tupK K) (pv 0) pe_int (fun _ _ => rfl)) pa_nil)) pe_str) (pe_call G_figures (hr.mono (by decide)) rfl T.m_figures T.F_figures.kp T.b_figures .nil pass0 (pa_cons (pe_ix (ix_tupK K) (pv 0) pe_int (fun _ _ => rfl)) pa_nil)))))
      (pss_one (ps_ret (pe_joinK K pe_str (pa_cons (pe_op op_cat (pe_lst (pa_cons (pe_callTy call_str_int rfl T.z_str bt_str (pa_cons (pe_fldK K (pv 0)) pa_nil)) pa_nil)) (pv 1)) pa_nil))))), ?_⟩
    have h64 : 2 ^ c ≤ 64 := Nat.pow_le_pow_right (by decide) hc6
    refine ⟨_, rfl, p, dx, _, rfl, hp, flds_no _ _ (by decide +kernel) (by decide +kernel), p, m, c, ps, rfl, hR, fun l ts hl htp => ?_⟩
    have s1 : Same H (upd H l (.lst (ts.map V.ref))) := Same.new hl
    have hl1 : (upd H l (.lst (ts.map V.ref))) l = some (.lst (ts.map V.ref)) := upd_same
    have htp1 := htp.same s1
    generalize upd H l (.lst (ts.map V.ref)) = H1 at s1 hl1 htp1 ⊢
    have hln : (ts.map V.ref).length = ps.length := by rw [List.length_map]; exact htp1.len
    refine ⟨l, rfl, ⟨_, SqL.of hl1⟩, fun D hD => comp_list (xs := ts.map V.ref) (fun i ys H' => Same H1 H' ∧ i ≤ ps.length ∧ ys = ((ps.take i).map wordT).map V.str) ⟨Same.new hD, Nat.zero_le _, rfl⟩ (fun i ys H' _ ⟨e, _⟩ => SqL.of (e _ _ hl1)) ?_ ?_⟩
    · rintro i v ys H' hx ⟨se, hi, rfl⟩ hDl
      obtain ⟨t, r, rfl, hri, ht⟩ := (htp1.same se).get hx
      have hi' : i < ps.length := (List.getElem?_eq_some_iff.mp hri).1
      have hb := hps r (List.mem_of_getElem? hri)
      have l1 := fig_len r.1 (by omega)
      have l2 := fig_len r.2 (by omega)
      have l3 : (figT r.1 ++ Str.ofString ">").length = (figT r.1).length + 1 := by rw [Str.length_append]; rfl
      refine yes_mk ?_
      refine ⟨_, rfl, t, _, 0, _, rfl, rfl, SqT.of ht, rfl, r.1, rfl, by omega, fun H2 s2 => ⟨_, _, rfl, rfl, ?_, _, rfl, t, _, 1, _, rfl, rfl, SqT.of (s2 _ _ ht), rfl, r.2, rfl, by omega, fun H3 s3 => ⟨_, _, rfl, rfl, ?_, CE1.mk (s3 _ _ (s2 _ _ hDl)) (small1000 (by rw [List.length_map, List.length_map, List.length_take]; omega)) ⟨Same.up (se.trans (s2.trans s3)) hD, hi', ?_⟩⟩⟩⟩
      · show (figT r.1).length + 1 ≤ sizeLine
        rw [sizeLine_eq]; omega
      · rw [l3, sizeLine_eq]; omega
      · rw [List.take_add_one, hri, List.map_append, List.map_append]; rfl
    · rintro ys H2 ⟨s2, _, rfl⟩ hD2
      rw [hln, List.take_length] at hD2
      have hp2 := s2 _ _ (s1 _ _ hp)
      refine ⟨rfl, _, rfl, p, A.c_Rules, dx, _, _, rfl, hp2, T.cl_Rules, T.na_Rules_columns, flds_columns _ _, (c : Int), rfl, log_small (by omega), by show 1 ≤ sizeLine; decide, fun q hq => ?_⟩
      have s3 : Same H2 (upd H2 q (.lst [.str (digT c)])) := Same.new hq
      refine ⟨_, rfl, q, D, [.str (digT c)], (ps.map wordT).map V.str, rfl, rfl, upd_same, s3 _ _ hD2, by rw [List.length_map, List.length_map, sizeLine_eq]; show 1 + ps.length ≤ _; omega, fun d hd => ?_⟩
      refine ⟨Str.ofString "; ", d, digT c :: ps.map wordT, rfl, rfl, upd_same, fun y hy => ?_, ?_, by decide, k _ ((s1.trans s2).trans (s3.trans (Same.new hd)))⟩
      · rcases List.mem_cons.mp hy with rfl | hy
        · have := dig_len c (by omega)
          omega
        · obtain ⟨r, hr', rfl⟩ := List.mem_map.mp hy
          have hb := hps r hr'
          have l1 := fig_len r.1 (by omega)
          have l2 := fig_len r.2 (by omega)
          unfold wordT
          rw [Str.length_append, Str.length_append]
          show (figT r.1).length + 1 + (figT r.2).length ≤ 9000
          omega
      · rw [List.length_cons, List.length_map]; omega
end
end K13

namespace K13
open PySem L2 TC
def kvT (c : Nat) : List (Key × V) := (List.range (2 ^ c)).map fun s => (Sum.inr (figT s), V.int ((s : Nat) : Int))
def kvI (i : Nat) : List (Key × V) := (List.range i).map fun s => (Sum.inr (figT s), V.int ((s : Nat) : Int))
theorem kvI_put {i : Nat} (hi : i < 64) : putK (kvI i) (Sum.inr (figT i)) (.int ((i : Nat) : Int)) = kvI (i + 1) := by
  unfold putK
  have hn : ¬ ((kvI i).any fun kv => decide (kv.1 = Sum.inr (figT i))) = true := fun z => by
    obtain ⟨kv, h1, h2⟩ := List.any_eq_true.mp z
    unfold kvI at h1
    obtain ⟨j, hj, rfl⟩ := List.mem_map.mp h1
    have hj' := List.mem_range.mp hj
    have e := of_decide_eq_true h2
    injection e with e
    have := fig_inj (by omega) hi e
    omega
  rw [if_neg hn]
  unfold kvI
  rw [List.range_succ, List.map_append]; rfl
theorem val_kvT (c : Nat) (a : Str) : valV (kvT c) (Sum.inr a) = (setT c a).map fun s => V.int ((s : Nat) : Int) := by
  unfold valV kvT setT
  generalize List.range (2 ^ c) = l
  induction l with
  | nil => rfl
  | cons s l ih =>
    rw [List.map_cons, List.find?_cons, List.find?_cons]
    have e : decide ((Sum.inr (figT s) : Key) = Sum.inr a) = decide (figT s = a) := decide_eq_decide.mpr ⟨fun h => by injection h, fun h => by rw [h]⟩
    rw [e]
    cases decide (figT s = a) with
    | true => rfl
    | false => exact ih
theorem ruleT_parts {c : Nat} {w : Str} {p : Nat × Nat} (h : ruleT c w = some p) : ∃ x y, Txt.split w (Str.ofString ">") = [x, y] ∧ setT c x = some p.1 ∧ setT c y = some p.2 := by
  unfold ruleT at h
  split at h
  · rename_i a b e
    split at h
    · rename_i x y e1 e2
      cases h
      exact ⟨a, b, e, e1, e2⟩
    · cases h
  · cases h
def sp_sets : Sp := fun vs H Q _ => ∃ c : Nat, vs = [.int (c : Nat)] ∧ c ≤ 6 ∧ ∀ (d : Addr) (H' : Hp), H d = none → Same H H' → H' d = some (.dK (kvT c)) → Q (.ref d) H'
def sp_rule_in : Sp := fun vs H Q _ => ∃ (a : Str) (d : Addr) (c : Nat) (p : Nat × Nat), vs = [.str a, .ref d] ∧ a.length ≤ 900 ∧ H d = some (.dK (kvT c)) ∧ c ≤ 6 ∧ ruleT c a = some p ∧ ∀ (t : Addr) (H' : Hp), H t = none → Same H H' → H' t = some (.tup [.int (p.1 : Nat), .int (p.2 : Nat)]) → Q (.ref t) H'
section
variable {P : Program} {w : World} {K : PySem.W.Frag} {mg : Str → Option Value} {base : Heap} {A : Adr}
theorem ok_sets_by_figures (T : Txt K mg A) : FnOk P w K mg base CX0 3 A.f_sets_by_figures A.d_sets_by_figures ["columns"] sp_sets := by
  have G_figures := ok_figures (P := P) (w := w) (base := base) T
  refine T.F_sets_by_figures.ok sc_sets_by_figures (fun vs H Q E h => ?_) (fun cdv A' outer s H vs Q E hr h => ?_)
  · obtain ⟨c, rfl, _⟩ := h; rfl
  · obtain ⟨c, rfl, hc6, k⟩ := h
    have h64 : 2 ^ c ≤ 64 := Nat.pow_le_pow_right (by decide) hc6
    refine ⟨_, (pss_cons (ps_set (i := 1) sc_sets_by_figures.nd rfl (Or.inl rfl) pe_dnewK)
      (pss_cons (ps_for PassesOwn.never rfl (pi_range1 rfl T.z_range (pa_cons (pe_op op_shl pe_int (pv 0)) pa_nil)) (pg_name (i := 2) sc_sets_by_figures.nd rfl (Or.inl rfl))
      (pss_one (ps_dput (hu_of hr) (pv 1) (pe_call G_figures (hr.mono (by decide)) rfl T.m_figures T.F_figures.kp T.b_figures .nil pass0 (pa_cons (pv 2) pa_nil)) (pv 2) rfl)))
      (pss_one (ps_ret (pv 1))))), ?_⟩
    intro d hd
    refine ⟨_, rfl, 1, (c : Int), rfl, rfl, ⟨Int.natCast_nonneg c, by omega, by decide⟩, ((2 ^ c : Nat) : Int), (by dsimp only; rw [shl_nat]), (by generalize 2 ^ c = z at h64 ⊢; omega), (by generalize 2 ^ c = z at h64 ⊢; omega), ?_⟩
    rw [Int.toNat_natCast]
    refine for_range (lo := 0) (n := 2 ^ c) (fun i σ' H' => Same H H' ∧ H' d = some (.dK (kvI i)) ∧ ∃ sv : Option V, σ' = [some (.int (c : Nat)), some (.ref d), sv]) ⟨Same.new hd, upd_same, none, rfl⟩ ?_ ?_
    · rintro i σ' H' hi ⟨se, hdd, sv, rfl⟩
      rw [Int.zero_add]
      refine ⟨_, rfl, _, rfl, _, rfl, i, rfl, by omega, fun H2 s2 => ⟨d, _, rfl, DPut.k (k := Sum.inr (figT i)) (s2 _ _ hdd) (small1000 (by unfold kvI; rw [List.length_map, List.length_range]; omega)), ?_⟩⟩
      refine ⟨Same.up (se.trans s2) hd, ?_, _, rfl⟩
      rw [upd_same, kvI_put (by omega)]
    · rintro σ' H' ⟨se, hdd, sv, rfl⟩
      exact ⟨_, rfl, k d H' hd se hdd⟩
theorem ok_rule_in (T : Txt K mg A) : FnOk P w K mg base CX0 1 A.f_rule_in A.d_rule_in ["word", "sets"] sp_rule_in := by
  refine T.F_rule_in.ok sc_rule_in (fun vs H Q E h => ?_) (fun cdv A' outer s H vs Q E hr h => ?_)
  · obtain ⟨a, d, c, p, rfl, _⟩ := h; rfl
  · obtain ⟨a, d, c, p, rfl, hz, hd, hc6, hr', k⟩ := h
    obtain ⟨x, y, hsp, hx, hy⟩ := ruleT_parts hr'
    refine ⟨_, (pss_cons (ps_set (i := 2) sc_rule_in.nd rfl (Or.inl rfl) (pe_splitK K (pv 0) (pa_cons pe_str pa_nil)))
      (pss_cons (ps_if (PW.pt (pw_or (pt_cmpR op_ne (pe_callB (call_lenK K) rfl T.z_len bt_len (pa_cons (pv 2) pa_nil)) pe_int (nomark _)) (pw_or (pt_cmp (pc_dnotin (hu_of hr) (pe_ix (ix_listK K) (pv 2) pe_int (fun _ _ => rfl)) (pv 1)) (by with_unfolding_all rfl)) (pw_or1 (pt_cmp (pc_dnotin (hu_of hr) (pe_ix (ix_listK K) (pv 2) pe_int (fun _ _ => rfl)) (pv 1)) (by with_unfolding_all rfl)))))) (pss_one ps_never) pss_nil)
      (pss_one (ps_ret (pe_tup (pa_cons (pe_dget (hu_of hr) (pv 1) (pe_ix (ix_listK K) (pv 2) pe_int (fun _ _ => rfl)) (fun _ _ => rfl)) (pa_cons (pe_dget (hu_of hr) (pv 1) (pe_ix (ix_listK K) (pv 2) pe_int (fun _ _ => rfl)) (fun _ _ => rfl)) pa_nil))))))), ?_⟩
    refine ⟨_, rfl, rfl, a, Str.ofString ">", rfl, rfl, by decide, by omega, fun l hl => ?_⟩
    rw [hsp]
    have s1 : Same H (upd H l (.lst ([x, y].map V.str))) := Same.new hl
    have hl1 : (upd H l (.lst ([x, y].map V.str))) l = some (.lst [.str x, .str y]) := upd_same
    generalize upd H l (.lst ([x, y].map V.str)) = H1 at s1 hl1 ⊢
    have g1 : DGet H1 d (.str x) (some (.int (p.1 : Nat))) := by
      have z := DGet.k (k := Sum.inr x) (s1 _ _ hd)
      rw [val_kvT, hx] at z
      exact z
    have g2 : DGet H1 d (.str y) (some (.int (p.2 : Nat))) := by
      have z := DGet.k (k := Sum.inr y) (s1 _ _ hd)
      rw [val_kvT, hy] at z
      exact z
    refine ⟨_, rfl, l, _, rfl, .inl (SqL.of hl1), rfl, _, rfl, iteF ?_⟩
    refine ⟨_, rfl, l, _, 0, _, rfl, rfl, SqL.of hl1, rfl, _, rfl, d, _, rfl, g1, _, rfl, iteF ?_⟩
    refine ⟨_, rfl, l, _, 1, _, rfl, rfl, SqL.of hl1, rfl, _, rfl, d, _, rfl, g2, _, rfl, iteF ?_⟩
    refine ⟨_, rfl, _, rfl, l, _, 0, _, rfl, rfl, SqL.of hl1, rfl, d, _, rfl, g1, _, rfl, _, rfl, l, _, 1, _, rfl, rfl, SqL.of hl1, rfl, d, _, rfl, g2, by show 2 ≤ sizeLine; decide, fun q hq => ?_⟩
    exact k q _ (s1.free hq) (s1.trans (Same.new hq)) upd_same
end
end K13

/-! ### rules as texts: by places -/
namespace TC
open PySem L2
theorem split_ne (x y : Str) : ∃ h ws, Txt.split x y = h :: ws := by
  have hl : 0 < (Txt.split x y).length := by
    unfold Txt.split
    split
    · exact Nat.zero_lt_one
    · split
      · exact Nat.zero_lt_one
      · rw [length_partsBetween]; omega
  cases e : Txt.split x y with
  | nil => rw [e] at hl; exact absurd hl (Nat.lt_irrefl _)
  | cons h ws => exact ⟨h, ws, rfl⟩
theorem inT_parts {t : Str} {c : Nat} {ps : List (Nat × Nat)} (h : inT t = some (c, ps)) : ∃ hd ws, Txt.split t (Str.ofString "; ") = hd :: ws ∧ headT hd = some c ∧ ws.length ≤ 64 ∧ rulesT c ws = some ps := by
  unfold inT at h
  split at h
  · cases h
  · rename_i hd ws e
    split at h
    · cases h
    · rename_i c' e1
      split at h
      · rename_i hl
        cases e2 : rulesT c' ws with
        | none => rw [e2] at h; cases h
        | some qs =>
          rw [e2] at h
          cases h
          exact ⟨hd, ws, e, e1, hl, e2⟩
      · cases h
theorem inT_bad {t : Str} (h : inT t = none) : ∃ hd ws, Txt.split t (Str.ofString "; ") = hd :: ws ∧ (headT hd = none ∨ ∃ c, headT hd = some c ∧ (64 < ws.length ∨ (ws.length ≤ 64 ∧ rulesT c ws = none))) := by
  obtain ⟨hd, ws, e⟩ := split_ne t (Str.ofString "; ")
  refine ⟨hd, ws, e, ?_⟩
  unfold inT at h
  rw [e] at h
  dsimp only at h
  cases e1 : headT hd with
  | none => exact .inl rfl
  | some c =>
    rw [e1] at h
    dsimp only at h
    by_cases hl : ws.length ≤ 64
    · rw [if_pos hl] at h
      cases e2 : rulesT c ws with
      | none => exact .inr ⟨c, rfl, .inr ⟨hl, e2⟩⟩
      | some qs => rw [e2] at h; cases h
    · exact .inr ⟨c, rfl, .inl (by omega)⟩
theorem rulesT_cons {c : Nat} {w : Str} {ws : List Str} {ps : List (Nat × Nat)} (h : rulesT c (w :: ws) = some ps) : ∃ p qs, ps = p :: qs ∧ ruleT c w = some p ∧ rulesT c ws = some qs := by
  unfold rulesT at h
  cases e1 : ruleT c w with
  | none => rw [e1] at h; cases h
  | some p =>
    rw [e1] at h
    dsimp only at h
    cases e2 : rulesT c ws with
    | none => rw [e2] at h; cases h
    | some qs =>
      rw [e2] at h
      cases h
      exact ⟨p, qs, rfl, rfl, rfl⟩
theorem rulesT_at {c : Nat} : ∀ {ws : List Str} {ps : List (Nat × Nat)}, rulesT c ws = some ps → ∀ {i : Nat} {w : Str}, ws[i]? = some w → ∃ p, ps[i]? = some p ∧ ruleT c w = some p
  | [], _, _, i, w, hw => by simp at hw
  | v :: ws, ps, h, i, w, hw => by
    obtain ⟨p, qs, rfl, e1, e2⟩ := rulesT_cons h
    cases i with
    | zero =>
      have : v = w := by simpa using hw
      subst this
      exact ⟨p, rfl, e1⟩
    | succ i =>
      obtain ⟨q, h1, h2⟩ := rulesT_at e2 (i := i) (by simpa using hw)
      exact ⟨q, by simpa using h1, h2⟩
theorem rulesT_len {c : Nat} {ws : List Str} {ps : List (Nat × Nat)} (h : rulesT c ws = some ps) : ps.length = ws.length := by
  rw [← (rulesT_words h).1, List.length_map]
theorem rulesT_bad {c : Nat} : ∀ {ws : List Str}, rulesT c ws = none → ∃ (i : Nat) (w : Str), ws[i]? = some w ∧ ruleT c w = none ∧ ∀ (j : Nat) (v : Str), j < i → ws[j]? = some v → ∃ p, ruleT c v = some p
  | [], h => by cases h
  | w :: ws, h => by
    cases e1 : ruleT c w with
    | none => exact ⟨0, w, rfl, e1, fun j v hj => absurd hj (Nat.not_lt_zero _)⟩
    | some p =>
      have e2 : rulesT c ws = none := by
        unfold rulesT at h
        rw [e1] at h
        dsimp only at h
        cases e : rulesT c ws with
        | none => rfl
        | some qs => rw [e] at h; cases h
      obtain ⟨i, w', h1, h2, h3⟩ := rulesT_bad e2
      refine ⟨i + 1, w', by simpa using h1, h2, fun j v hj hv => ?_⟩
      cases j with
      | zero =>
        have : w = v := by simpa using hv
        subst this
        exact ⟨p, e1⟩
      | succ j => exact h3 j v (by omega) (by simpa using hv)
/-- the texts of the counts -/
def cntL (i : Nat) : List V := ((List.range i).map fun j => digT (j + 1)).map V.str
theorem flat_strs (l : List Str) : (l.map V.str).all flatV = true := by
  rw [List.all_map, List.all_eq_true]
  intro _ _
  rfl
theorem in_strs (a : Str) : ∀ l : List Str, inV (.str a) (l.map V.str) = decide (a ∈ l)
  | [] => by simp [inV]
  | b :: l => by
    have ih := in_strs a l
    unfold inV at ih ⊢
    rw [List.map_cons, List.any_cons, ih]
    by_cases h : a = b
    · subst h; simp [eqV]
    · have h' : ¬ b = a := fun z => h z.symm
      simp [eqV, h, h']
theorem cnt_in {h : Str} : inV (.str h) (cntL 6) = (headT h).isSome := by
  unfold cntL
  rw [in_strs]
  cases e : headT h with
  | none =>
    refine decide_eq_false fun z => ?_
    obtain ⟨j, hj, ej⟩ := List.mem_map.mp z
    exact headT_none e (j + 1) (by omega) (by have := List.mem_range.mp hj; omega) ej
  | some c =>
    obtain ⟨a, b, d⟩ := headT_some e
    refine decide_eq_true (List.mem_map.mpr ⟨c - 1, List.mem_range.mpr (by omega), ?_⟩)
    rw [show c - 1 + 1 = c by omega]
    exact a
theorem int_dig : ∀ c, c < 7 → intText? (digT c) = some ((c : Nat) : Int) := by decide +kernel
theorem cut_one (x : V) (xs : List V) : cutV (x :: xs) (some 1) none = xs := by
  unfold cutV
  have e : (1 : Int) = ((1 : Nat) : Int) := rfl
  rw [e, HT.sIx_none, HT.sIx_nat, Nat.min_eq_left (by rw [List.length_cons]; omega)]
  show (xs.take ((x :: xs).length - 1)) = xs
  exact List.take_of_length_le (by rw [List.length_cons]; omega)
end TC

/-! ### the sort's own way, with keys that differ -/
namespace SortQ
open PySem PySem.W PyProof.Rows
def run {α : Type} (b : Nat → Nat → Bool) : KasT α → α
  | .ret a => a
  | .ask i j f => run b (f (b i j))
section
variable (k : Nat → Nat)
def at' (p : Array Nat) (t : Nat) : Nat := k (p.getD t 0)
def Nd (p : Array Nat) : Prop := (p.toList.map k).Nodup
def Up (p : Array Nat) (m : Nat) : Prop := ∀ t, 0 < t → t < m → at' k p (t - 1) < at' k p t
variable {k}
theorem Nd.ne {p : Array Nat} (h : Nd k p) {t u : Nat} (htu : t < u) (hu : u < p.size) : at' k p t ≠ at' k p u := by
  intro z
  have e1 : (p.toList.map k)[t]? = some (at' k p t) := by
    rw [List.getElem?_map, Array.getElem?_toList, Array.getElem?_eq_getElem (by omega)]
    unfold at'; simp [Array.getD, (by omega : t < p.size)]
  have e2 : (p.toList.map k)[u]? = some (at' k p u) := by
    rw [List.getElem?_map, Array.getElem?_toList, Array.getElem?_eq_getElem hu]
    unfold at'; simp [Array.getD, hu]
  have hl : t < (p.toList.map k).length := by rw [List.length_map, Array.length_toList]; omega
  have := (List.getElem?_inj (i := t) (j := u) hl h).mp (by rw [e1, e2, z])
  omega
theorem Up.lt {p : Array Nat} {m : Nat} (h : Up k p m) : ∀ {t u : Nat}, t < u → u < m → at' k p t < at' k p u
  | t, 0, htu, _ => absurd htu (Nat.not_lt_zero _)
  | t, u + 1, htu, hu => by
    have h1 := h (u + 1) (Nat.succ_pos _) hu
    rw [Nat.add_sub_cancel] at h1
    rcases Nat.lt_or_eq_of_le (Nat.le_of_lt_succ htu) with z | z
    · exact Nat.lt_trans (h.lt z (by omega)) h1
    · subst z; exact h1
end
end SortQ

namespace SortQ
open PySem PySem.W PyProof.Rows
/-! ### what the sort asks of -/
def BT (n : Nat) {α : Type} (Q : α → Prop) : KasT α → Prop
  | .ret a => Q a
  | .ask i j f => i < n ∧ j < n ∧ ∀ b, BT n Q (f b)
theorem BT.bind {n : Nat} {α β : Type} {f : α → KasT β} {Q : β → Prop} : ∀ {t : KasT α}, BT n (fun a => BT n Q (f a)) t → BT n Q (t.bind f)
  | .ret _, h => h
  | .ask _ _ _, ⟨h1, h2, h3⟩ => ⟨h1, h2, fun b => BT.bind (h3 b)⟩
section
variable {n : Nat}
def PB (n : Nat) (p : Array Nat) : Prop := ∀ x ∈ p.toList, x < n
theorem PB.at {p : Array Nat} (h : PB n p) (h0 : 0 < n) (t : Nat) : p.getD t 0 < n := by
  by_cases ht : t < p.size
  · have : p.getD t 0 = p[t] := by simp [Array.getD, ht]
    rw [this]
    exact h _ (by simp)
  · have : p.getD t 0 = 0 := by simp [Array.getD, ht]
    rw [this]; exact h0
end
/-! ### pairs of numbers in the heap -/
section
variable {prog : Program} {w : World} {A : Around} {E : Value → Shared → Prop} {s : Shared} {vs : List Value} {ps : List (Nat × Nat)}
end
end SortQ

namespace SetP
open PySem
/-! ### a table's slots are all met -/
def fL (N i : Nat) : Nat := (i * 5 + 1) % N
def fN (N : Nat) : Nat → Nat → Nat
  | 0, i => i
  | r + 1, i => fN N r (fL N i)
theorem fN_add (N : Nat) : ∀ (a b i : Nat), fN N (a + b) i = fN N b (fN N a i)
  | 0, b, i => by rw [Nat.zero_add]; rfl
  | a + 1, b, i => by rw [Nat.succ_add]; exact fN_add N a b (fL N i)
/-- from 0 all are met, and then 0 again -/
structure Per (N : Nat) : Prop where
  all : ∀ e, e < N → ∃ m, m < N ∧ fN N m 0 = e
  back : fN N N 0 = 0
def meets (N e : Nat) : Bool := (List.range N).any fun m => fN N m 0 == e
theorem Per.of {N : Nat} (h : ((List.range N).all (meets N) && (fN N N 0 == 0)) = true) : Per N := by
  rw [Bool.and_eq_true] at h
  refine ⟨fun e he => ?_, beq_iff_eq.mp h.2⟩
  have := List.all_eq_true.mp h.1 e (List.mem_range.mpr he)
  unfold meets at this
  obtain ⟨m, hm, q⟩ := List.any_eq_true.mp this
  exact ⟨m, List.mem_range.mp hm, beq_iff_eq.mp q⟩
theorem Per.reach {N : Nat} (P : Per N) {i e : Nat} (hi : i < N) (he : e < N) : ∃ r, r < N ∧ fN N r i = e := by
  obtain ⟨a, ha, rfl⟩ := P.all i hi
  obtain ⟨b, hb, rfl⟩ := P.all e he
  by_cases q : a ≤ b
  · exact ⟨b - a, by omega, by rw [← fN_add]; congr 1; omega⟩
  · refine ⟨N + b - a, by omega, ?_⟩
    rw [← fN_add, show a + (N + b - a) = N + b by omega, fN_add, P.back]
/-! ### the search -/
def seg (M i pt : Nat) : SetTable.Probe := { j := i, more := SetTable.runEnd M i - i, i := i, perturb := pt, dummy := none }
section
variable {t : SetTable} {f : Nat → Int} {h : Int}
abbrev go (t : SetTable) (f : Nat → Int) (h : Int) := SetTable.probe.go t f h
end
/-! ### an empty slot -/
end SetP

namespace SetP
open PySem
/-! ### a table laid anew -/
abbrev free (M : Nat) (owner : Array (Option Nat)) := SetTable.layClean.free M owner
theorem getD_none {owner : Array (Option Nat)} {j : Nat} (h : (owner.getD j (some 0)).isNone = true) : owner.toList[j]? = some none := by
  rw [Array.getElem?_toList]
  by_cases hj : j < owner.size
  · have : owner.getD j (some 0) = owner[j] := by simp [Array.getD, hj]
    rw [this] at h
    rw [Array.getElem?_eq_getElem hj]
    cases e : owner[j] with
    | none => rfl
    | some v => rw [e] at h; cases h
  · have : owner.getD j (some 0) = some 0 := by simp [Array.getD, hj]
    rw [this] at h; cases h
end SetP

namespace SetP
open PySem
/-! ### the way of a search -/
def advM (M : Nat) (p : SetTable.Probe) : SetTable.Probe :=
  if p.more > 0 then { p with j := p.j + 1, more := p.more - 1 } else
  { p with j := (SetTable.leap M p.i p.perturb).1, more := SetTable.runEnd M (SetTable.leap M p.i p.perturb).1 - (SetTable.leap M p.i p.perturb).1, i := (SetTable.leap M p.i p.perturb).1, perturb := (SetTable.leap M p.i p.perturb).2 }
def advN (M : Nat) : Nat → SetTable.Probe → SetTable.Probe
  | 0, p => p
  | n + 1, p => advN M n (advM M p)
def st0 (M : Nat) (h : Int) : SetTable.Probe := seg M (SetTable.bits h % (M + 1)) (SetTable.bits h)
def pth (M : Nat) (h : Int) (n : Nat) : Nat := (advN M n (st0 M h)).j
/-- a slot that a search comes to over slots that are taken -/
def Occ (M : Nat) (occ : Nat → Prop) (h : Int) (j : Nat) : Prop := ∃ n, pth M h n = j ∧ ∀ m, m < n → occ (pth M h m)
theorem Occ.mono {M : Nat} {o o' : Nat → Prop} {h : Int} {j : Nat} (k : ∀ s, o s → o' s) : Occ M o h j → Occ M o' h j := fun ⟨n, e, q⟩ => ⟨n, e, fun m hm => k _ (q m hm)⟩
/-! ### the way of a laying -/
def taken (owner : Array (Option Nat)) (s : Nat) : Prop := ∃ y, owner.toList[s]? = some (some y)
end SetP

namespace SetP
open PySem
def OcAll (M : Nat) (es : List (Int × Value)) (pl : List Nat) : Prop := ∀ (i : Nat) (e : Int × Value) (j : Nat), es[i]? = some e → pl[i]? = some j → Occ M (· ∈ pl) e.1 j
end SetP

namespace SetP
open PySem
def TabOk (t : SetTable) (n : Nat) : Prop := (t.mask = 7 ∧ n ≤ 4) ∨ (t.mask = 31 ∧ n ≤ 18) ∨ (t.mask = 127 ∧ n ≤ 76)
theorem TabOk.lt {t : SetTable} {n : Nat} (h : TabOk t n) : n + 1 ≤ t.mask := by
  rcases h with ⟨h, q⟩ | ⟨h, q⟩ | ⟨h, q⟩ <;> rw [h] <;> omega
theorem TabOk.way {t : SetTable} {n : Nat} (h : TabOk t n) : t.gaveWay = false := by
  unfold SetTable.gaveWay
  rcases h with ⟨h, q⟩ | ⟨h, q⟩ | ⟨h, q⟩ <;> rw [h] <;> rfl
abbrev TK (prog : Program) (w : World) : HeapKind prog w (List Int) := tupleKind (intKind prog w)
structure RowT (prog : Program) (w : World) (h : Heap) (es : Array (Int × Value)) (t : SetTable) (L : List (List Int × Addr)) : Prop where
  el : es.toList = L.map fun x => ((TK prog w).hash x.1, Value.ref x.2)
  ks : ∀ x ∈ L, (TK prog w).is h x.1 x.2
  nd : (L.map (·.1)).Nodup
  tb : TabOk t L.length
  pl : t.plain = true
  oc : OcAll t.mask es.toList t.place.toList
  fits : t.fits es.size = true
  good : SetQ.Good (!w.params.followText "set-order") t
section
variable {prog : Program} {w : World} {A : Around} {E : Value → Shared → Prop} {s : Shared}
theorem RowT.sz {h : Heap} {es : Array (Int × Value)} {t : SetTable} {L : List (List Int × Addr)} (r : RowT prog w h es t L) : es.size = L.length := by
  have := congrArg List.length r.el
  rw [List.length_map, Array.length_toList] at this
  exact this
end
end SetP

namespace SetP
open PySem
section
variable {prog : Program} {w : World} {A : Around} {E : Value → Shared → Prop} {s : Shared}
/-- what is put in at a place -/
def putAt {α : Type} (l : List α) (p : Nat) (x : α) : List α := l.take p ++ x :: l.drop p
end
end SetP

namespace SetP
open PySem PySem.Spec PyProof.Rows
section
variable {prog : Program} {w : World} {A : Around} {R : Result → Shared → Prop} {J : Addr} {fp wr : List Addr} {G : Array GenState → Array GenState → Prop} {n : Nat} {P : Nat → Value → Prop} {St : Nat → Shared → Prop}
end
section
variable {prog : Program} {w : World} {A : Around} {E : Value → Shared → Prop} {s : Shared}
end
end SetP

namespace SortQ
open PySem PySem.W PyProof.Rows
section
variable {prog : Program} {w : World} {A : Around} {E : Value → Shared → Prop} {s : Shared} {vs : List Value} {ps : List (Nat × Nat)}
end
end SortQ

namespace L2
open PySem PySem.Spec PyProof.Rows
section
variable {X : Cx}
end
end L2

namespace SortQ
open PySem PySem.W PySem.Spec PyProof.Rows SetP
section
variable {prog : Program} {w : World} {A : Around} {E : Value → Shared → Prop} {s : Shared}
end
end SortQ

namespace SortQ
open PySem PySem.W PySem.Spec PyProof.Rows SetP
/-! ### no two of these pairs have one hash -/
def h2 (x y : Nat) : Int := reduceHash (Builtin.Tuple.tupleHashOf [hashInt ((x : Nat) : Int), hashInt ((y : Nat) : Int)])
end SortQ
namespace L2
open PySem PySem.Spec PyProof.Rows SortQ SetP
def TpL (H : Hp) : List Addr → List (Nat × Nat) → Prop
  | [], [] => True
  | t :: ts, p :: ps => H t = some (.tup [.int (p.1 : Nat), .int (p.2 : Nat)]) ∧ TpL H ts ps
  | _, _ => False
theorem TpL.len {H : Hp} : ∀ {ts : List Addr} {ps : List (Nat × Nat)}, TpL H ts ps → ts.length = ps.length
  | [], [], _ => rfl
  | _ :: _, _ :: _, ⟨_, t⟩ => congrArg (· + 1) (TpL.len t)
  | [], _ :: _, h => h.elim
  | _ :: _, [], h => h.elim
theorem TpL.get {H : Hp} : ∀ {ts : List Addr} {ps : List (Nat × Nat)} {i : Nat} {t : Addr}, TpL H ts ps → ts[i]? = some t → ∃ p, ps[i]? = some p ∧ H t = some (.tup [.int (p.1 : Nat), .int (p.2 : Nat)])
  | [], [], i, t, _, h => by simp at h
  | t :: _, p :: _, 0, u, ⟨h, _⟩, e => ⟨p, rfl, by have : t = u := by simpa using e
                                                   rw [← this]; exact h⟩
  | _ :: _, _ :: _, i + 1, u, ⟨_, t⟩, e => by
    obtain ⟨p, h1, h2⟩ := TpL.get (i := i) t (by simpa using e)
    exact ⟨p, by simpa using h1, h2⟩
  | [], _ :: _, _, _, h, _ => h.elim
  | _ :: _, [], _, _, h, _ => h.elim
theorem TpL.of {H : Hp} : ∀ {M : List ((Nat × Nat) × Addr)}, (∀ q ∈ M, H q.2 = some (.tup [.int (q.1.1 : Nat), .int (q.1.2 : Nat)])) → TpL H (M.map (·.2)) (M.map (·.1))
  | [], _ => trivial
  | q :: M, h => ⟨h q List.mem_cons_self, TpL.of fun x hx => h x (List.mem_cons_of_mem _ hx)⟩
section
variable {X : Cx}
end
end L2

/-! ### sorted(d.items()) -/
namespace L2
open PySem PySem.W PySem.Spec PyProof.Rows SortQ SetP
/-- many new objects at once -/
theorem Inv.grow {X : Cx} {pins : List (Addr × Obj)} {σ : St} {H H' : Hp} {s : Shared} {h' : Heap} {t' : Nat} (I : Inv X pins σ H s) (k : ∀ b u, s.heap.get? b = some u → h'.get? b = some u)
    (ext : ∀ b u, H b = some u → H' b = some u) (free : ∀ b o, s.heap.get? b = some o → H b = none → H' b = none) (new : ∀ b u, H b = none → H' b = some u → ObjOk X.prog X.w H' h' b u) :
    Inv X pins σ H' { s with heap := h', toks := t' } := by
  refine I.un ⟨fun b o e _ _ _ => k b o e, fun b o e _ _ _ => ⟨o.slots, k b o e⟩, fun b o e n _ => free b o e n, fun b o e _ => ⟨o, k b o e⟩, fun b xs e => ext b _ e, fun b o u e => ext b _ e, fun b ps e => ⟨#[], by rw [ext b _ e]; simp⟩⟩ fun b u e => ?_
  cases q : H b with
  | none => exact new b u q e
  | some u' =>
    have z := ext b u' q
    rw [e] at z
    cases z
    exact (I.hok b u q).stay (fun c v _ z => k c v z) (fun c z => ext c _ z) fun c xs z => ext c _ z
section
variable {X : Cx} {pins : List (Addr × Obj)} {σ : St} {H : Hp} {s : Shared} {a v : Addr} {A : Around} {E : Value → Shared → Prop} {ps : List (Nat × Nat)}
theorem sl_listK (K : PySem.W.Frag) (h : X.K = K := by rfl) : SlR X (rSlL K) := by subst h; exact sl_list
end
end L2

namespace K13
open PySem L2 TC
def sp_read (C : Addr) : Sp := fun vs H Q _ => ∃ (t : Str) (c : Nat) (ps : List (Nat × Nat)), vs = [.str t] ∧ t.length ≤ 900 ∧ inT t = some (c, ps) ∧ ∀ (p m : Addr) (H' : Hp), H p = none → Same H H' → RulesAt C H' p m c ps → Q (.ref p) H'
theorem atI0 (x : V) (xs : List V) : atI (x :: xs) 0 = some x := atI_nat (xs := x :: xs) (j := 0) rfl
section
variable {P : Program} {w : World} {K : PySem.W.Frag} {mg : Str → Option Value} {base : Heap} {A : Adr}
theorem kit_str_str : PySem.W.kitOne K (.type "str") (.type "str") = some true := by kernel_rfl
theorem ok_read (T : Txt K mg A) : FnOk P w K mg base CX0 12 A.f_read A.d_read ["text"] (sp_read A.c_Rules) := by
  have G_sets_by_figures := ok_sets_by_figures (P := P) (w := w) (base := base) T
  have G_rule_in := ok_rule_in (P := P) (w := w) (base := base) T
  have G_Rules_init := ok_Rules_init (P := P) (w := w) (base := base) T
  refine T.F_read.ok sc_read (fun vs H Q E h => ?_) (fun cdv A' outer s H vs Q E hr h => ?_)
  · obtain ⟨t, c, ps, rfl, _⟩ := h; rfl
  · obtain ⟨t, c, ps, rfl, hz, hin, k⟩ := h
    obtain ⟨hd, ws, hsp, hhd, hwl, hrs⟩ := inT_parts hin
    obtain ⟨ehd, hc1, hc6⟩ := headT_some hhd
    obtain ⟨_, _, _, hpl, hps⟩ := inT_some hin
    have hshort : ∀ w ∈ (hd :: ws), w.length ≤ 900 := fun w hw => Nat.le_trans (PyProof.Rows.part_short (x := t) (y := Str.ofString "; ") (by rw [hsp]; exact hw)) hz
    subst ehd
    refine ⟨_, (pss_cons (ps_if (pt_not (pt_val (pe_callB (call_isinstK K) rfl T.z_isinstance bt_isinstance (pa_cons (pv 0) (pa_cons (pe_bltn (v := .ty "str") rfl T.z_str bt_str rfl) pa_nil))))) (pss_one ps_never) pss_nil)
      (pss_cons (ps_set (i := 1) sc_read.nd rfl (Or.inl rfl) (pe_splitK K (pv 0) (pa_cons pe_str pa_nil)))
      (pss_cons (ps_if (pt_cmpR (op_notInK K) (pe_ix (ix_listK K) (pv 1) pe_int (fun _ _ => rfl)) (pe_comp ["text", "words", "columns", "sets"] (defScope s_read) ["count"] [none] ⟨rfl, by decide +kernel, by decide +kernel, by decide +kernel, by decide +kernel, by decide +kernel⟩ rfl (pi_range2 rfl T.z_range (pa_cons pe_int (pa_cons (pe_op op_add (pe_glob (v := .int 6) rfl T.g_MOST_COLUMNS.choose_spec ⟨_, rfl⟩) pe_int) pa_nil))) (fun _ _ _ _ _ => (pg_name (i := 0) (by show List.Nodup (["count"] : List Str); decide +kernel) rfl (Or.inl rfl) (Or.inr rfl))) (fun _ _ _ _ _ => pts_nil) (fun _ _ _ _ _ => (pe_callTy call_str_int rfl T.z_str bt_str (pa_cons (pv 0) pa_nil)))) (by with_unfolding_all rfl)) (pss_one ps_never) pss_nil)
      (pss_cons (ps_if (pt_cmpR op_gt (pe_callB (call_lenK K) rfl T.z_len bt_len (pa_cons (pv 1) pa_nil)) (pe_op op_add (pe_glob (v := .int 64) rfl T.g_MOST_RULES.choose_spec ⟨_, rfl⟩) pe_int) (nomark _)) (pss_one ps_never) pss_nil)
      (pss_cons (ps_set (i := 2) sc_read.nd rfl (Or.inl rfl) (pe_callTy call_int_text rfl T.z_int bt_int (pa_cons (pe_ix (ix_listK K) (pv 1) pe_int (fun _ _ => rfl)) pa_nil)))
      (pss_cons (ps_set (i := 3) sc_read.nd rfl (Or.inr rfl) (pe_call G_sets_by_figures (hr.mono (by decide)) rfl T.m_sets_by_figures T.F_sets_by_figures.kp T.b_sets_by_figures .nil pass0 (pa_cons (pv 2) pa_nil)))
      (pss_one (ps_ret (pe_make T.mk_Rules G_Rules_init (hr.mono (by decide)) rfl T.m_Rules T.b_Rules_init .nil pass0 (pa_cons (pv 2) (pa_cons (pe_comp ["text", "words", "columns", "sets"] (defScope s_read) ["word", "sets"] [none, some 3] ⟨rfl, by decide +kernel, by decide +kernel, by decide +kernel, by decide +kernel, by decide +kernel⟩ rfl (pi_listK K (pe_slice (sl_listK K) (pv 1) (po_some pe_int) po_none)) (fun _ _ _ _ _ => (pg_name (i := 0) (by show List.Nodup (["word", "sets"] : List Str); decide +kernel) rfl (Or.inl rfl) (Or.inr rfl))) (fun _ _ _ _ _ => pts_nil) (fun _ _ _ _ _ => (pe_call G_rule_in (hr.mono (by decide)) rfl T.m_rule_in T.F_rule_in.kp T.b_rule_in .nil pass0 (pa_cons (pv 0) (pa_cons (pv 1) pa_nil))))) pa_nil))))))))))), ?_⟩
    refine ⟨_, rfl, _, _, _, true, rfl, .str _, kit_str_str, true, rfl, iteF ?_⟩
    refine ⟨_, rfl, rfl, t, Str.ofString "; ", rfl, rfl, by decide, by omega, fun l hl => ?_⟩
    rw [hsp]
    have s1 : Same H (upd H l (.lst ((digT c :: ws).map V.str))) := Same.new hl
    have hl1 : (upd H l (.lst ((digT c :: ws).map V.str))) l = some (.lst (.str (digT c) :: ws.map V.str)) := upd_same
    generalize upd H l (.lst ((digT c :: ws).map V.str)) = H1 at s1 hl1 ⊢
    refine ⟨_, rfl, l, _, 0, _, rfl, rfl, SqL.of hl1, atI0 _ _, 6, 1, rfl, rfl, 1, 6 + 1, rfl, ⟨by decide, by decide, by decide, by decide⟩, fun D hD => ?_⟩
    refine comp_range (lo := 1) (n := 6) (fun i ys H' => Same H1 H' ∧ ys = cntL i) ⟨Same.new hD, rfl⟩ ?_ ?_
    · rintro i ys H' hi ⟨se, rfl⟩ hDl
      rw [show (1 : Int) + (i : Int) = ((i + 1 : Nat) : Int) by omega]
      refine yes_mk ?_
      refine ⟨_, rfl, ((i + 1 : Nat) : Int), rfl, log_small (by omega), CE1.mk hDl (small1000 (by unfold cntL; rw [List.length_map, List.length_map, List.length_range]; omega)) ⟨Same.up se hD, ?_⟩⟩
      unfold cntL
      rw [List.range_succ, List.map_append, List.map_append]; rfl
    rintro ys H2 ⟨s2, rfl⟩ hD2
    refine ⟨D, _, rfl, .inl (SqL.of hD2), rfl, flat_strs _, _, rfl, ?_⟩
    have eI : (if true = true then !inV (.str (digT c)) (cntL 6) else inV (.str (digT c)) (cntL 6)) = false := by rw [if_pos rfl, cnt_in, hhd]; rfl
    rw [eI]
    refine iteF ?_
    have hl2 := s2 _ _ hl1
    refine ⟨_, rfl, l, _, rfl, .inl (SqL.of hl2), 64, 1, rfl, rfl, _, _, rfl, rfl, _, rfl, ?_⟩
    refine ite2 (fun e => absurd (of_decide_eq_true e) (by rw [List.length_cons, List.length_map]; omega)) (fun _ => ?_)
    have hdl := dig_len c (by omega)
    refine ⟨_, rfl, l, _, 0, _, rfl, rfl, SqL.of hl2, atI0 _ _, digT c, (c : Int), rfl, int_dig c (by omega), by omega, ?_⟩
    refine ⟨_, rfl, c, rfl, hc6, fun d H3 hd3 s3 hdd => ?_⟩
    have hl3 := s3 _ _ hl2
    refine ⟨_, rfl, _, rfl, 1, rfl, l, _, rfl, SqL.of hl3, fun q hq => ?_⟩
    rw [cut_one]
    have s4 : Same H3 (upd H3 q (.lst (ws.map V.str))) := Same.new hq
    have hq4 : (upd H3 q (.lst (ws.map V.str))) q = some (.lst (ws.map V.str)) := upd_same
    generalize upd H3 q (.lst (ws.map V.str)) = H4 at s4 hq4 ⊢
    have hdd4 := s4 _ _ hdd
    have hwn : (ws.map V.str).length = ws.length := List.length_map _
    refine ⟨q, rfl, ⟨_, SqL.of hq4⟩, fun D2 hD2' => comp_list (xs := ws.map V.str) (fun i ys H' => Same H4 H' ∧ i ≤ ws.length ∧ ∃ us : List Addr, ys = us.map V.ref ∧ Tps H' us (ps.take i)) ⟨Same.new hD2', Nat.zero_le _, [], rfl, trivial⟩ (fun i ys H' _ ⟨e, _⟩ => SqL.of (e _ _ hq4)) ?_ ?_⟩
    · rintro i v ys H' hx ⟨se, hi, us, rfl, htp⟩ hDl
      rw [List.getElem?_map] at hx
      cases hw : ws[i]? with
      | none => rw [hw] at hx; cases hx
      | some w' =>
        rw [hw] at hx
        cases hx
        have hi' : i < ws.length := (List.getElem?_eq_some_iff.mp hw).1
        obtain ⟨p, hp1, hp2⟩ := rulesT_at hrs hw
        have hul : us.length ≤ 64 := by rw [htp.len, List.length_take]; omega
        refine yes_mk ?_
        refine ⟨_, rfl, _, rfl, w', d, c, p, rfl, hshort w' (List.mem_cons_of_mem _ (List.mem_of_getElem? hw)), se _ _ hdd4, hc6, hp2, fun tq H5 htq s5 htt => ?_⟩
        have hD5 := s5 _ _ hDl
        have nD : D2 ≠ tq := fun z => by rw [← z, hDl] at htq; cases htq
        refine CE1.mk hD5 (small1000 (by rw [List.length_map]; omega)) ⟨Same.up (se.trans s5) hD2', hi', us ++ [tq], by rw [List.map_append]; rfl, ?_⟩
        rw [List.take_add_one, hp1]
        exact Tps.snoc (by rw [upd_ne nD.symm]; exact htt) ((htp.same s5).upd hD5)
    · rintro ys H5 ⟨s5, _, us, rfl, htp⟩ hD5
      rw [hwn, ← rulesT_len hrs, List.take_length] at htp
      have hP : PrsAt H5 D2 ps := ⟨us, hD5, htp⟩
      have hGd : Good c ps := ⟨hc1, hc6, hpl, hps⟩
      refine fun x dx nx ndx nex => ?_
      have s6' : Same H5 (upd (upd H5 dx (.own x)) x (.ins A.c_Rules dx [])) := Same.up (Same.new ndx) nx
      refine ⟨x, dx, D2, c, ps, rfl, upd_same, hP.same s6', hGd, fun m H6 hm hR kp => ⟨rfl, ?_⟩⟩
      have s6 : Same H5 H6 := fun b o e => kp b o (s6' b o e) (ne_of_none e nx)
      have sA : Same H H5 := s1.trans (s2.trans (s3.trans (s4.trans s5)))
      exact k x m H6 (sA.free nx) (sA.trans s6) hR
end
end K13

namespace K13
open PySem L2 TC
def sp_rule_in_x (Cb : Addr) : Sp := fun vs H _ E => ∃ (a : Str) (d : Addr) (c : Nat), vs = [.str a, .ref d] ∧ a.length ≤ 900 ∧ H d = some (.dK (kvT c)) ∧ c ≤ 6 ∧ ruleT c a = none ∧ ∀ H', Same H H' → ∀ e, E e (some Cb) H'
def sp_read_x (K : PySem.W.Frag) (Cb : Addr) : Sp := fun vs H _ E => ∃ v : V, vs = [v] ∧ ((∃ (ty : Value), TyOf K H v ty ∧ PySem.W.kitOne K ty (.type "str") = some false) ∨ ∃ t : Str, v = .str t ∧ t.length ≤ 900 ∧ inT t = none) ∧ ∀ H', Same H H' → ∀ e, E e (some Cb) H'
theorem ruleT_bad {c : Nat} {w : Str} (h : ruleT c w = none) : (Txt.split w (Str.ofString ">")).length ≠ 2 ∨ ∃ x y, Txt.split w (Str.ofString ">") = [x, y] ∧ (setT c x = none ∨ ∃ n, setT c x = some n ∧ setT c y = none) := by
  unfold ruleT at h
  split at h
  · rename_i a b e
    refine .inr ⟨a, b, e, ?_⟩
    cases e1 : setT c a with
    | none => exact .inl rfl
    | some n =>
      cases e2 : setT c b with
      | none => exact .inr ⟨n, rfl, rfl⟩
      | some m => rw [e1, e2] at h; cases h
  · rename_i e
    refine .inl fun z => ?_
    match hq : Txt.split w (Str.ofString ">"), z with
    | [a, b], _ => exact e a b hq
section
variable {P : Program} {w : World} {K : PySem.W.Frag} {mg : Str → Option Value} {base : Heap} {A : Adr}
theorem ok_rule_in_x (T : Txt K mg A) : FnOk P w K mg base (CXE P w) 1 A.f_rule_in A.d_rule_in ["word", "sets"] (sp_rule_in_x A.c_BadText) := by
  refine T.F_rule_in.okE sc_rule_in (fun vs H Q E h => ?_) (fun cdv A' outer s H vs Q E hr h => ?_)
  · obtain ⟨a, d, c, rfl, _⟩ := h; rfl
  · obtain ⟨a, d, c, rfl, hz, hd, hc6, hbad, k⟩ := h
    refine ⟨_, (pss_cons (ps_set (i := 2) sc_rule_in.nd rfl (Or.inl rfl) (pe_splitK K (pv 0) (pa_cons pe_str pa_nil)))
      (pss_cons (ps_if (PW.pt (pw_or (pt_cmpR op_ne (pe_callB (call_lenK K) rfl T.z_len bt_len (pa_cons (pv 2) pa_nil)) pe_int (nomark _)) (pw_or (pt_cmp (pc_dnotin (hu_of hr) (pe_ix (ix_listK K) (pv 2) pe_int (fun _ _ => rfl)) (pv 1)) (by with_unfolding_all rfl)) (pw_or1 (pt_cmp (pc_dnotin (hu_of hr) (pe_ix (ix_listK K) (pv 2) pe_int (fun _ _ => rfl)) (pv 1)) (by with_unfolding_all rfl)))))) (pss_one (ps_raise (C := A.c_BadText) rfl rfl T.m_BadText T.xi_BadText PySem.F.excBase_ValueError (by decide +kernel) PySem.F.excBase_ValueError raises_cx (pa_cons pe_str pa_nil))) pss_nil)
      pss_never)), ?_⟩
    refine ⟨_, rfl, rfl, a, Str.ofString ">", rfl, rfl, by decide, by omega, fun l hl => ?_⟩
    have s1 : Same H (upd H l (.lst ((Txt.split a (Str.ofString ">")).map V.str))) := Same.new hl
    have hl1 : (upd H l (.lst ((Txt.split a (Str.ofString ">")).map V.str))) l = some (.lst ((Txt.split a (Str.ofString ">")).map V.str)) := upd_same
    generalize upd H l (.lst ((Txt.split a (Str.ofString ">")).map V.str)) = H1 at s1 hl1 ⊢
    refine ⟨_, rfl, l, _, rfl, .inl (SqL.of hl1), rfl, _, rfl, ?_⟩
    rcases ruleT_bad hbad with h2 | ⟨x, y, hsp, hxy⟩
    · refine ite2 (fun _ => ⟨by show 1 ≤ sizeLine; decide, fun e => k H1 s1 e⟩) (fun e => absurd ?_ e)
      rw [List.length_map]
      simp
      omega
    · rw [hsp] at hl1 ⊢
      refine iteF ?_
      have gx := DGet.k (k := Sum.inr x) (s1 _ _ hd)
      have gy := DGet.k (k := Sum.inr y) (s1 _ _ hd)
      rw [val_kvT] at gx gy
      refine ⟨_, rfl, l, _, 0, _, rfl, rfl, SqL.of hl1, rfl, _, rfl, d, _, rfl, gx, _, rfl, ?_⟩
      rcases hxy with hx | ⟨n, hx, hy⟩
      · rw [hx]
        exact iteT ⟨by show 1 ≤ sizeLine; decide, fun e => k H1 s1 e⟩
      · rw [hx]
        refine iteF ?_
        refine ⟨_, rfl, l, _, 1, _, rfl, rfl, SqL.of hl1, rfl, _, rfl, d, _, rfl, gy, _, rfl, ?_⟩
        rw [hy]
        exact iteT ⟨by show 1 ≤ sizeLine; decide, fun e => k H1 s1 e⟩
theorem ok_read_x (T : Txt K mg A) : FnOk P w K mg base (CXE P w) 12 A.f_read A.d_read ["text"] (sp_read_x K A.c_BadText) := by
  have G_sets_by_figures := ok_sets_by_figures (P := P) (w := w) (base := base) T
  have G_rule_in := ok_rule_in (P := P) (w := w) (base := base) T
  have G_rule_in_x := ok_rule_in_x (P := P) (w := w) (base := base) T
  have G_Rules_init := ok_Rules_init (P := P) (w := w) (base := base) T
  refine T.F_read.okE sc_read (fun vs H Q E h => ?_) (fun cdv A' outer s H vs Q E hr h => ?_)
  · obtain ⟨v, rfl, _⟩ := h; rfl
  · obtain ⟨v, rfl, hv, k⟩ := h
    refine ⟨_, (pss_cons (ps_if (pt_not (pt_val (pe_callB (call_isinstK K) rfl T.z_isinstance bt_isinstance (pa_cons (pv 0) (pa_cons (pe_bltn (v := .ty "str") rfl T.z_str bt_str rfl) pa_nil))))) (pss_one (ps_raise (C := A.c_BadText) rfl rfl T.m_BadText T.xi_BadText PySem.F.excBase_ValueError (by decide +kernel) PySem.F.excBase_ValueError raises_cx (pa_cons pe_str pa_nil))) pss_nil)
      (pss_cons (ps_set (i := 1) sc_read.nd rfl (Or.inl rfl) (pe_splitK K (pv 0) (pa_cons pe_str pa_nil)))
      (pss_cons (ps_if (pt_cmpR (op_notInK K) (pe_ix (ix_listK K) (pv 1) pe_int (fun _ _ => rfl)) (PE.nox (pe_comp ["text", "words", "columns", "sets"] (defScope s_read) ["count"] [none] ⟨rfl, by decide +kernel, by decide +kernel, by decide +kernel, by decide +kernel, by decide +kernel⟩ rfl (pi_range2 rfl T.z_range (pa_cons pe_int (pa_cons (pe_op op_add (pe_glob (v := .int 6) rfl T.g_MOST_COLUMNS.choose_spec ⟨_, rfl⟩) pe_int) pa_nil))) (fun _ _ _ _ _ => (pg_name (i := 0) (by show List.Nodup (["count"] : List Str); decide +kernel) rfl (Or.inl rfl) (Or.inr rfl))) (fun _ _ _ _ _ => pts_nil) (fun _ _ _ _ _ => (pe_callTy call_str_int rfl T.z_str bt_str (pa_cons (pv 0) pa_nil))))) (by with_unfolding_all rfl)) (pss_one (ps_raise (C := A.c_BadText) rfl rfl T.m_BadText T.xi_BadText PySem.F.excBase_ValueError (by decide +kernel) PySem.F.excBase_ValueError raises_cx (pa_cons pe_str pa_nil))) pss_nil)
      (pss_cons (ps_if (pt_cmpR op_gt (pe_callB (call_lenK K) rfl T.z_len bt_len (pa_cons (pv 1) pa_nil)) (pe_op op_add (pe_glob (v := .int 64) rfl T.g_MOST_RULES.choose_spec ⟨_, rfl⟩) pe_int) (nomark _)) (pss_one (ps_raise (C := A.c_BadText) rfl rfl T.m_BadText T.xi_BadText PySem.F.excBase_ValueError (by decide +kernel) PySem.F.excBase_ValueError raises_cx (pa_cons pe_str pa_nil))) pss_nil)
      (pss_cons (ps_set (i := 2) sc_read.nd rfl (Or.inl rfl) (pe_callTy call_int_text rfl T.z_int bt_int (pa_cons (pe_ix (ix_listK K) (pv 1) pe_int (fun _ _ => rfl)) pa_nil)))
      (pss_cons (ps_set (i := 3) sc_read.nd rfl (Or.inr rfl) (pe_call G_sets_by_figures (hr.mono (by decide)) rfl T.m_sets_by_figures T.F_sets_by_figures.kp T.b_sets_by_figures .nil pass0 (pa_cons (pv 2) pa_nil)))
      (pss_one (ps_ret (pe_make T.mk_Rules G_Rules_init (hr.mono (by decide)) rfl T.m_Rules T.b_Rules_init .nil pass0 (pa_cons (pv 2) (pa_cons (pe_compE ["text", "words", "columns", "sets"] (defScope s_read) ["word", "sets"] [none, some 3] ⟨rfl, by decide +kernel, by decide +kernel, by decide +kernel, by decide +kernel, by decide +kernel⟩ (fun _ _ _ h => h) (pi_listK K (pe_slice (sl_listK K) (pv 1) (po_some pe_int) po_none)) (fun _ _ _ _ _ => (pg_name (i := 0) (by show List.Nodup (["word", "sets"] : List Str); decide +kernel) rfl (Or.inl rfl) (Or.inr rfl))) (fun _ _ _ _ _ => pts_nil) (fun _ _ _ _ _ _ hp => (pe_either (pe_call G_rule_in (hr.mono (by decide)) rfl T.m_rule_in T.F_rule_in.kp T.b_rule_in .nil pass0 (pa_cons (pv 0) (pa_cons (pv 1) pa_nil))) (pe_call G_rule_in_x (hr.mono (by decide)) rfl T.m_rule_in T.F_rule_in.kp T.b_rule_in .nil hp (pa_cons (pv 0) (pa_cons (pv 1) pa_nil)))))) pa_nil))))))))))), ?_⟩
    rcases hv with ⟨ty, hty, hkit⟩ | ⟨t, rfl, hz, hin⟩
    · exact ⟨_, rfl, _, ty, _, false, rfl, hty, hkit, false, rfl, iteT ⟨by show 1 ≤ sizeLine; decide, fun e => k H (Same.refl H) e⟩⟩
    obtain ⟨hd, ws, hsp, hbad⟩ := inT_bad hin
    have hshort : ∀ w ∈ (hd :: ws), w.length ≤ 900 := fun w hw => Nat.le_trans (PyProof.Rows.part_short (x := t) (y := Str.ofString "; ") (by rw [hsp]; exact hw)) hz
    have hmany : ws.length ≤ 900 := by
      have hw := PyProof.Rows.split_weight t (Str.ofString "; ") (by decide)
      rw [hsp, List.length_cons] at hw
      omega
    refine ⟨_, rfl, _, _, _, true, rfl, .str _, kit_str_str, true, rfl, iteF ?_⟩
    refine ⟨_, rfl, rfl, t, Str.ofString "; ", rfl, rfl, by decide, by omega, fun l hl => ?_⟩
    rw [hsp]
    have s1 : Same H (upd H l (.lst ((hd :: ws).map V.str))) := Same.new hl
    have hl1 : (upd H l (.lst ((hd :: ws).map V.str))) l = some (.lst (.str hd :: ws.map V.str)) := upd_same
    generalize upd H l (.lst ((hd :: ws).map V.str)) = H1 at s1 hl1 ⊢
    refine ⟨_, rfl, l, _, 0, _, rfl, rfl, SqL.of hl1, atI0 _ _, 6, 1, rfl, rfl, 1, 6 + 1, rfl, ⟨by decide, by decide, by decide, by decide⟩, fun D hD => ?_⟩
    refine comp_range (lo := 1) (n := 6) (fun i ys H' => Same H1 H' ∧ ys = cntL i) ⟨Same.new hD, rfl⟩ ?_ ?_
    · rintro i ys H' hi ⟨se, rfl⟩ hDl
      rw [show (1 : Int) + (i : Int) = ((i + 1 : Nat) : Int) by omega]
      refine yes_mk ?_
      refine ⟨_, rfl, ((i + 1 : Nat) : Int), rfl, log_small (by omega), CE1.mk hDl (small1000 (by unfold cntL; rw [List.length_map, List.length_map, List.length_range]; omega)) ⟨Same.up se hD, ?_⟩⟩
      unfold cntL
      rw [List.range_succ, List.map_append, List.map_append]; rfl
    rintro ys H2 ⟨s2, rfl⟩ hD2
    refine ⟨D, _, rfl, .inl (SqL.of hD2), rfl, flat_strs _, _, rfl, ?_⟩
    have s12 := s1.trans s2
    have hl2 := s2 _ _ hl1
    rcases hbad with hh | ⟨c, hhd, hrest⟩
    · have eI : (if true = true then !inV (.str hd) (cntL 6) else inV (.str hd) (cntL 6)) = true := by rw [if_pos rfl, cnt_in, hh]; rfl
      rw [eI]
      exact iteT ⟨by show 1 ≤ sizeLine; decide, fun e => k H2 s12 e⟩
    have eI : (if true = true then !inV (.str hd) (cntL 6) else inV (.str hd) (cntL 6)) = false := by rw [if_pos rfl, cnt_in, hhd]; rfl
    rw [eI]
    refine iteF ?_
    refine ⟨_, rfl, l, _, rfl, .inl (SqL.of hl2), 64, 1, rfl, rfl, _, _, rfl, rfl, _, rfl, ?_⟩
    obtain ⟨ehd, hc1, hc6⟩ := headT_some hhd
    subst ehd
    rcases hrest with hlong | ⟨hwl, hrs⟩
    · refine ite2 (fun _ => ⟨by show 1 ≤ sizeLine; decide, fun e => k H2 s12 e⟩) (fun e => absurd (decide_eq_true ?_) e)
      rw [List.length_cons, List.length_map]
      omega
    refine ite2 (fun e => absurd (of_decide_eq_true e) (by rw [List.length_cons, List.length_map]; omega)) (fun _ => ?_)
    obtain ⟨i0, w0, hw0, hb0, hgood⟩ := rulesT_bad hrs
    have hdl := dig_len c (by omega)
    refine ⟨_, rfl, l, _, 0, _, rfl, rfl, SqL.of hl2, atI0 _ _, digT c, (c : Int), rfl, int_dig c (by omega), by omega, ?_⟩
    refine ⟨_, rfl, c, rfl, hc6, fun d H3 hd3 s3 hdd => ?_⟩
    have hl3 := s3 _ _ hl2
    refine ⟨_, rfl, _, rfl, 1, rfl, l, _, rfl, SqL.of hl3, fun q hq => ?_⟩
    rw [cut_one]
    have s4 : Same H3 (upd H3 q (.lst (ws.map V.str))) := Same.new hq
    have hq4 : (upd H3 q (.lst (ws.map V.str))) q = some (.lst (ws.map V.str)) := upd_same
    generalize upd H3 q (.lst (ws.map V.str)) = H4 at s4 hq4 ⊢
    have hdd4 := s4 _ _ hdd
    have hwn : (ws.map V.str).length = ws.length := List.length_map _
    have hi0 : i0 < ws.length := (List.getElem?_eq_some_iff.mp hw0).1
    refine ⟨q, rfl, ⟨_, SqL.of hq4⟩, fun D2 hD2' => comp_list (xs := ws.map V.str) (fun i ys H' => Same H4 H' ∧ i ≤ i0 ∧ ys.length ≤ i) ⟨Same.new hD2', Nat.zero_le _, Nat.zero_le _⟩ (fun i ys H' _ ⟨e, _⟩ => SqL.of (e _ _ hq4)) ?_ ?_⟩
    · rintro i v ys H' hx ⟨se, hi, hyl⟩ hDl
      rw [List.getElem?_map] at hx
      cases hw : ws[i]? with
      | none => rw [hw] at hx; cases hx
      | some w' =>
        rw [hw] at hx
        cases hx
        have hsh := hshort w' (List.mem_cons_of_mem _ (List.mem_of_getElem? hw))
        refine yes_mk ?_
        rcases Nat.lt_or_eq_of_le hi with hlt | heq
        · obtain ⟨p, hp2⟩ := hgood i w' hlt hw
          refine .inl ⟨_, rfl, _, rfl, w', d, c, p, rfl, hsh, se _ _ hdd4, hc6, hp2, fun tq H5 htq s5 htt => ?_⟩
          refine CE1.mk (s5 _ _ hDl) (small1000 (by omega)) ⟨Same.up (se.trans s5) hD2', by omega, by rw [List.length_append]; show ys.length + 1 ≤ i + 1; omega⟩
        · subst heq
          rw [hw0] at hw
          cases hw
          exact .inr ⟨_, rfl, _, rfl, w0, d, c, rfl, hsh, se _ _ hdd4, hc6, hb0, fun H5 s5 e => k H5 (s12.trans (s3.trans (s4.trans (se.trans s5)))) e⟩
    · rintro ys H5 ⟨s5, hle, _⟩ hD5
      rw [hwn] at hle
      omega
end
end K13

namespace K13
open PySem L2 TC
def sp_law_in : Sp := fun vs H Q _ => ∃ t : Str, vs = [.str t] ∧ t.length ≤ 900 ∧ (inT t = none → ∀ H', Same H H' → Q .non H') ∧ ∀ c ps, inT t = some (c, ps) → ∀ (tp l : Addr) (H' : Hp), H tp = none → Same H H' → H' tp = some (.tup [.int ((c : Nat) : Int), .ref l]) → PrsAt H' l ps → Q (.ref tp) H'
theorem cnt_lit : [V.str (Str.ofString "1"), V.str (Str.ofString "2"), V.str (Str.ofString "3"), V.str (Str.ofString "4"), V.str (Str.ofString "5"), V.str (Str.ofString "6")] = cntL 6 := by decide +kernel
theorem inT_of {t hd : Str} {ws : List Str} (hsp : Txt.split t (Str.ofString "; ") = hd :: ws) : inT t = match headT hd with
    | none => none
    | some c => if ws.length ≤ 64 then (rulesT c ws).map fun ps => (c, ps) else none := by
  unfold inT
  first
    | (rw [hsp]; done)
    | (rw [hsp]; dsimp only; done)
    | (rw [hsp]; dsimp only; cases headT hd <;> rfl)
theorem rulesT_snoc {c : Nat} {w : Str} {p : Nat × Nat} (hp : ruleT c w = some p) : ∀ {ws : List Str} {qs : List (Nat × Nat)}, rulesT c ws = some qs → rulesT c (ws ++ [w]) = some (qs ++ [p])
  | [], qs, h => by
    cases h
    show rulesT c [w] = some [p]
    unfold rulesT
    rw [hp]
    rfl
  | v :: ws, qs, h => by
    obtain ⟨p', qs', rfl, e1, e2⟩ := rulesT_cons h
    have ih := rulesT_snoc hp e2
    show rulesT c (v :: (ws ++ [w])) = some (p' :: (qs' ++ [p]))
    unfold rulesT
    rw [e1]
    dsimp only
    rw [ih]
theorem rulesT_no {c : Nat} {ws : List Str} {i : Nat} {w : Str} (hw : ws[i]? = some w) (h : ruleT c w = none) : rulesT c ws = none := by
  cases e : rulesT c ws with
  | none => rfl
  | some ps =>
    obtain ⟨p, _, h2⟩ := rulesT_at e hw
    rw [h] at h2; cases h2
theorem words_at {c s : Nat} (hs : s < 2 ^ c) : ((List.range (2 ^ c)).map figT)[s]? = some (figT s) := by
  rw [List.getElem?_map, List.getElem?_range hs]; rfl
theorem words_in {c : Nat} {a : Str} : inV (.str a) (((List.range (2 ^ c)).map figT).map V.str) = (setT c a).isSome := by
  rw [in_strs]
  cases e : setT c a with
  | none =>
    refine decide_eq_false fun z => ?_
    obtain ⟨j, hj, ej⟩ := List.mem_map.mp z
    exact setT_none e j (List.mem_range.mp hj) ej
  | some s =>
    obtain ⟨a1, a2⟩ := setT_some e
    exact decide_eq_true (List.mem_map.mpr ⟨s, List.mem_range.mpr a1, a2⟩)
theorem words_first {c s : Nat} {a : Str} (hc : c ≤ 6) (h : setT c a = some s) : ((List.range (2 ^ c)).map figT)[s]? = some a ∧ ∀ m y, m < s → ((List.range (2 ^ c)).map figT)[m]? = some y → y ≠ a := by
  have h64 : 2 ^ c ≤ 64 := Nat.pow_le_pow_right (by decide) hc
  obtain ⟨a1, a2⟩ := setT_some h
  refine ⟨by rw [words_at a1, a2], fun m y hm hy z => ?_⟩
  rw [words_at (by omega)] at hy
  cases hy
  have := fig_inj (a := m) (b := s) (by omega) (by omega) (z.trans a2.symm)
  omega
section
variable {P : Program} {w : World} {K : PySem.W.Frag} {mg : Str → Option Value} {base : Heap} {A : Adr}
theorem ok_law_in (T : Txt K mg A) : FnOk P w K mg base CX0 3 A.f_law_in A.d_law_in ["_law_text"] sp_law_in := by
  have G_law_word := ok_law_word (P := P) (w := w) (base := base) T
  refine T.F_law_in.ok sc_law_in (fun vs H Q E h => ?_) (fun cdv A' outer s H vs Q E hr h => ?_)
  · obtain ⟨t, rfl, _⟩ := h; rfl
  · obtain ⟨t, rfl, hz, kn, ks⟩ := h
    refine ⟨_, (pss_cons (ps_set (i := 1) sc_law_in.nd rfl (Or.inl rfl) (pe_splitK K (pv 0) (pa_cons pe_str pa_nil)))
      (pss_cons (ps_if (PW.pt (pw_or (pt_cmpR (op_notInK K) (pe_ix (ix_listK K) (pv 1) pe_int (fun _ _ => rfl)) (pe_lst (pa_cons pe_str (pa_cons pe_str (pa_cons pe_str (pa_cons pe_str (pa_cons pe_str (pa_cons pe_str pa_nil))))))) (by with_unfolding_all rfl)) (pw_or1 (pt_cmpR op_gt (pe_callB (call_lenK K) rfl T.z_len bt_len (pa_cons (pv 1) pa_nil)) pe_int (nomark _))))) (pss_one (ps_ret pe_non)) pss_nil)
      (pss_cons (ps_set (i := 2) sc_law_in.nd rfl (Or.inl rfl) (pe_callTy call_int_text rfl T.z_int bt_int (pa_cons (pe_ix (ix_listK K) (pv 1) pe_int (fun _ _ => rfl)) pa_nil)))
      (pss_cons (ps_setC (i := 3) ["_law_text", "_law_parts", "_law_columns", "_law_words", "_law_pairs_here", "_law_part", "_law_sides"] (defScope s_law_in) ["_law_some"] [none] ⟨rfl, by decide +kernel, by decide +kernel, by decide +kernel, by decide +kernel, by decide +kernel⟩ rfl sc_law_in.nd rfl rfl (pi_range1 rfl T.z_range (pa_cons (pe_op op_shl pe_int (pv 2)) pa_nil)) (fun _ _ _ _ _ => (pg_name (i := 0) (by show List.Nodup (["_law_some"] : List Str); decide +kernel) rfl (Or.inl rfl) (Or.inr rfl))) (fun _ _ _ _ _ => pts_nil) (fun _ _ _ _ _ => (pe_call G_law_word (hr.mono (by decide)) rfl T.m_law_word T.F_law_word.kp T.b_law_word .nil pass0 (pa_cons (pv 0) pa_nil))))
      (pss_cons (ps_set (i := 4) sc_law_in.nd rfl (Or.inl rfl) (pe_lst pa_nil))
      (pss_cons (ps_for PassesOwn.never rfl (pi_listK K (pe_slice (sl_listK K) (pv 1) (po_some pe_int) po_none)) (pg_name (i := 5) sc_law_in.nd rfl (Or.inl rfl))
      (pss_cons (ps_set (i := 6) sc_law_in.nd rfl (Or.inl rfl) (pe_splitK K (pv 5) (pa_cons pe_str pa_nil)))
      (pss_cons (ps_if (PW.pt (pw_or (pt_cmpR op_ne (pe_callB (call_lenK K) rfl T.z_len bt_len (pa_cons (pv 6) pa_nil)) pe_int (nomark _)) (pw_or (pt_cmpR (op_notInK K) (pe_ix (ix_listK K) (pv 6) pe_int (fun _ _ => rfl)) (pv 3) (by with_unfolding_all rfl)) (pw_or1 (pt_cmpR (op_notInK K) (pe_ix (ix_listK K) (pv 6) pe_int (fun _ _ => rfl)) (pv 3) (by with_unfolding_all rfl)))))) (pss_one (ps_ret pe_non)) pss_nil)
      (pss_one (ps_expr (pe_appendK K (pv 4) (pa_cons (pe_tup (pa_cons (pe_indexSK K (pv 3) (pa_cons (pe_ix (ix_listK K) (pv 6) pe_int (fun _ _ => rfl)) pa_nil)) (pa_cons (pe_indexSK K (pv 3) (pa_cons (pe_ix (ix_listK K) (pv 6) pe_int (fun _ _ => rfl)) pa_nil)) pa_nil))) pa_nil)))))))
      (pss_one (ps_ret (pe_tup (pa_cons (pv 2) (pa_cons (pv 4) pa_nil))))))))))), ?_⟩
    obtain ⟨hd, ws, hsp⟩ := split_ne t (Str.ofString "; ")
    have hinT := inT_of hsp
    have hshort : ∀ w ∈ (hd :: ws), w.length ≤ 900 := fun w hw => Nat.le_trans (PyProof.Rows.part_short (x := t) (y := Str.ofString "; ") (by rw [hsp]; exact hw)) hz
    have hmany : ws.length ≤ 900 := by
      have hw := PyProof.Rows.split_weight t (Str.ofString "; ") (by decide)
      rw [hsp, List.length_cons] at hw
      omega
    refine ⟨_, rfl, rfl, t, Str.ofString "; ", rfl, rfl, by decide, by omega, fun l hl => ?_⟩
    rw [hsp]
    have s1 : Same H (upd H l (.lst ((hd :: ws).map V.str))) := Same.new hl
    have hl1 : (upd H l (.lst ((hd :: ws).map V.str))) l = some (.lst (.str hd :: ws.map V.str)) := upd_same
    generalize upd H l (.lst ((hd :: ws).map V.str)) = H1 at s1 hl1 ⊢
    refine ⟨_, rfl, l, _, 0, _, rfl, rfl, SqL.of hl1, atI0 _ _, by show 6 ≤ sizeLine; decide, fun D hD => ?_⟩
    refine ⟨D, _, rfl, .inl (SqL.of upd_same), rfl, rfl, _, rfl, ?_⟩
    rw [cnt_lit]
    have s2 : Same H1 (upd H1 D (.lst (cntL 6))) := Same.new hD
    generalize upd H1 D (.lst (cntL 6)) = H2 at s2 ⊢
    have s12 := s1.trans s2
    have hl2 := s2 _ _ hl1
    have eI : (if true = true then !inV (.str hd) (cntL 6) else inV (.str hd) (cntL 6)) = !(headT hd).isSome := by rw [if_pos rfl, cnt_in]
    rw [eI]
    cases hh : headT hd with
    | none =>
      rw [hh] at hinT
      exact iteT (kn hinT H2 s12)
    | some c =>
    rw [hh] at hinT
    obtain ⟨ehd, hc1, hc6⟩ := headT_some hh
    subst ehd
    have h64 : 2 ^ c ≤ 64 := Nat.pow_le_pow_right (by decide) hc6
    refine iteF ?_
    refine ⟨_, rfl, l, _, rfl, .inl (SqL.of hl2), _, 65, rfl, rfl, _, rfl, ?_⟩
    refine ite2 (fun e => ?_) (fun e => ?_)
    · have e' := of_decide_eq_true e
      rw [List.length_cons, List.length_map] at e'
      dsimp only at hinT
      rw [if_neg (by omega)] at hinT
      exact kn hinT H2 s12
    have hwl : ws.length ≤ 64 := by
      have e' : ¬ ((65 : Int) < ((V.str (digT c) :: ws.map V.str).length : Int)) := fun z => e (decide_eq_true z)
      rw [List.length_cons, List.length_map] at e'
      omega
    dsimp only at hinT
    rw [if_pos hwl] at hinT
    have hdl := dig_len c (by omega)
    refine ⟨_, rfl, l, _, 0, _, rfl, rfl, SqL.of hl2, atI0 _ _, digT c, (c : Int), rfl, int_dig c (by omega), by omega, ?_⟩
    -- the words
    refine ⟨_, rfl, 1, (c : Int), rfl, rfl, ⟨Int.natCast_nonneg c, by omega, by decide⟩, ((2 ^ c : Nat) : Int), (by dsimp only; rw [shl_nat]), (by generalize 2 ^ c = z at h64 ⊢; omega), (by generalize 2 ^ c = z at h64 ⊢; omega), fun wl hwl0 => ?_⟩
    rw [Int.toNat_natCast]
    refine comp_range (lo := 0) (n := 2 ^ c) (fun i ys H' => Same H2 H' ∧ ys = ((List.range i).map figT).map V.str) ⟨Same.new hwl0, rfl⟩ ?_ ?_
    · rintro i ys H' hi ⟨se, rfl⟩ hDl
      rw [Int.zero_add]
      refine yes_mk ?_
      refine ⟨_, rfl, i, rfl, by omega, fun H5 s5 => CE1.mk (s5 _ _ hDl) (small1000 (by rw [List.length_map, List.length_map, List.length_range]; omega)) ⟨Same.up (se.trans s5) hwl0, ?_⟩⟩
      rw [List.range_succ, List.map_append, List.map_append]; rfl
    rintro ys H3 ⟨s3, rfl⟩ hwl3
    refine ⟨Nat.zero_le _, fun pl hpl => ?_⟩
    have hl3 := s3 _ _ hl2
    refine ⟨_, rfl, 1, rfl, l, _, rfl, SqL.of ((Same.new hpl) _ _ hl3), fun q hq => ?_⟩
    rw [cut_one]
    have npq : pl ≠ q := ne_of_none upd_same hq
    have hwn : (ws.map V.str).length = ws.length := List.length_map _
    refine ⟨q, rfl, ⟨_, SqL.of upd_same⟩, for_list (K := K) (a := q) (xs := ws.map V.str) (fun i σ' H' => Same H3 H' ∧ H' q = some (.lst (ws.map V.str)) ∧ (∃ o5 o6 : Option V, σ' = [some (.str t), some (.ref l), some (.int (c : Nat)), some (.ref wl), some (.ref pl), o5, o6]) ∧ ∃ qs : List (Nat × Nat), PrsAt H' pl qs ∧ rulesT c (ws.take i) = some qs)
      ⟨Same.up (Same.new hpl) (by cases hq3 : H3 q with
        | none => rfl
        | some o => rw [upd_ne npq.symm, hq3] at hq; cases hq), upd_same, ⟨none, none, rfl⟩, [], ⟨[], by rw [upd_ne npq, upd_same]; rfl, trivial⟩, rfl⟩ (fun i σ' H' _ ⟨_, e, _⟩ => SqL.of e) ?_ ?_⟩
    · rintro i v σ' H' hx ⟨se, hq', ⟨o5, o6, rfl⟩, qs, hP, hqs⟩
      rw [List.getElem?_map] at hx
      cases hw : ws[i]? with
      | none => rw [hw] at hx; cases hx
      | some w' =>
      rw [hw] at hx
      cases hx
      have hi' : i < ws.length := (List.getElem?_eq_some_iff.mp hw).1
      have hsh := hshort w' (List.mem_cons_of_mem _ (List.mem_of_getElem? hw))
      refine ⟨_, rfl, rfl, w', Str.ofString ">", rfl, rfl, by decide, by omega, fun l6 hl6 => ?_⟩
      have s6 : Same H' (upd H' l6 (.lst ((Txt.split w' (Str.ofString ">")).map V.str))) := Same.new hl6
      have hl61 : (upd H' l6 (.lst ((Txt.split w' (Str.ofString ">")).map V.str))) l6 = some (.lst ((Txt.split w' (Str.ofString ">")).map V.str)) := upd_same
      generalize upd H' l6 (.lst ((Txt.split w' (Str.ofString ">")).map V.str)) = H6 at s6 hl61 ⊢
      have sH6 : Same H H6 := s12.trans (s3.trans (se.trans s6))
      have hwl6 := s6 _ _ (se _ _ hwl3)
      refine ⟨_, rfl, l6, _, rfl, .inl (SqL.of hl61), rfl, _, rfl, ?_⟩
      cases hr2 : ruleT c w' with
      | none =>
        rw [rulesT_no hw hr2] at hinT
        have no : ∀ H'', Same H H'' → Q .non H'' := fun H'' s'' => kn hinT H'' s''
        rcases ruleT_bad hr2 with h2 | ⟨x, y, hxy, hb⟩
        · refine ite2 (fun _ => no H6 sH6) (fun e => absurd ?_ e)
          rw [List.length_map]
          simp
          omega
        · rw [hxy] at hl61 ⊢
          refine iteF ?_
          have e1 : (if true = true then !inV (.str x) (((List.range (2 ^ c)).map figT).map V.str) else inV (.str x) (((List.range (2 ^ c)).map figT).map V.str)) = !(setT c x).isSome := by rw [if_pos rfl, words_in]
          have e2 : (if true = true then !inV (.str y) (((List.range (2 ^ c)).map figT).map V.str) else inV (.str y) (((List.range (2 ^ c)).map figT).map V.str)) = !(setT c y).isSome := by rw [if_pos rfl, words_in]
          refine ⟨_, rfl, l6, _, 0, _, rfl, rfl, SqL.of hl61, rfl, _, rfl, wl, _, rfl, .inl (SqL.of hwl6), rfl, flat_strs _, _, rfl, ?_⟩
          rw [e1]
          rcases hb with hx | ⟨n, hx, hy⟩
          · rw [hx]
            exact iteT (no H6 sH6)
          · rw [hx]
            refine iteF ?_
            refine ⟨_, rfl, l6, _, 1, _, rfl, rfl, SqL.of hl61, rfl, _, rfl, wl, _, rfl, .inl (SqL.of hwl6), rfl, flat_strs _, _, rfl, ?_⟩
            rw [e2, hy]
            exact iteT (no H6 sH6)
      | some p =>
        obtain ⟨x, y, hxy, hx, hy⟩ := ruleT_parts hr2
        rw [hxy] at hl61 ⊢
        refine iteF ?_
        have e1 : (if true = true then !inV (.str x) (((List.range (2 ^ c)).map figT).map V.str) else inV (.str x) (((List.range (2 ^ c)).map figT).map V.str)) = false := by rw [if_pos rfl, words_in, hx]; rfl
        have e2 : (if true = true then !inV (.str y) (((List.range (2 ^ c)).map figT).map V.str) else inV (.str y) (((List.range (2 ^ c)).map figT).map V.str)) = false := by rw [if_pos rfl, words_in, hy]; rfl
        refine ⟨_, rfl, l6, _, 0, _, rfl, rfl, SqL.of hl61, rfl, _, rfl, wl, _, rfl, .inl (SqL.of hwl6), rfl, flat_strs _, _, rfl, ?_⟩
        rw [e1]
        refine iteF ?_
        refine ⟨_, rfl, l6, _, 1, _, rfl, rfl, SqL.of hl61, rfl, _, rfl, wl, _, rfl, .inl (SqL.of hwl6), rfl, flat_strs _, _, rfl, ?_⟩
        rw [e2]
        refine iteF ?_
        obtain ⟨fx1, fx2⟩ := words_first hc6 hx
        obtain ⟨fy1, fy2⟩ := words_first hc6 hy
        obtain ⟨tp, hp', htp⟩ := hP
        have hp6 := s6 _ _ hp'
        have htl := htp.len
        have hql : qs.length ≤ 64 := by
          have := rulesT_len hqs
          rw [List.length_take] at this
          omega
        refine ⟨_, rfl, .inl ⟨rfl, _, SqL.of hp6⟩, ?_⟩
        refine ⟨_, rfl, .inl ⟨rfl, _, SqL.of hwl6⟩, _, rfl, l6, _, 0, _, rfl, rfl, SqL.of hl61, rfl, wl, x, _, p.1, rfl, rfl, hwl6, fx1, fx2, _, rfl, .inl ⟨rfl, _, SqL.of hwl6⟩, _, rfl, l6, _, 1, _, rfl, rfl, SqL.of hl61, rfl, wl, y, _, p.2, rfl, rfl, hwl6, fy1, fy2, by show 2 ≤ sizeLine; decide, fun tq htq => ?_⟩
        have npt : pl ≠ tq := ne_of_none hp6 htq
        refine ⟨pl, tp.map V.ref, .ref tq, rfl, rfl, by rw [upd_ne npt]; exact hp6, small1000 (by rw [List.length_map]; omega), ?_⟩
        have hL7 : (upd H6 tq (.tup [.int ((p.1 : Nat) : Int), .int ((p.2 : Nat) : Int)])) pl = some (.lst (tp.map V.ref)) := by rw [upd_ne npt]; exact hp6
        have sq7 : Same H6 (upd H6 tq (.tup [.int ((p.1 : Nat) : Int), .int ((p.2 : Nat) : Int)])) := Same.new htq
        have nqp : q ≠ pl := npq.symm
        refine ⟨Same.up (se.trans (s6.trans sq7)) hpl, by rw [upd_ne nqp]; exact sq7 _ _ (s6 _ _ hq'), ⟨_, _, rfl⟩, qs ++ [p], ⟨tp ++ [tq], by rw [upd_same, List.map_append]; rfl, Tps.snoc (by rw [upd_ne npt.symm, upd_same]) (((htp.same s6).same sq7).upd hL7)⟩, ?_⟩
        rw [List.take_add_one, hw]
        exact rulesT_snoc hr2 hqs
    · rintro σ' H' ⟨se, hq', ⟨o5, o6, rfl⟩, qs, hP, hqs⟩
      rw [hwn, List.take_length] at hqs
      rw [hqs] at hinT
      refine ⟨_, rfl, _, rfl, by show 2 ≤ sizeLine; decide, fun tp htp => ?_⟩
      exact ks c qs hinT tp pl _ ((s12.trans (s3.trans se)).free htp) ((s12.trans (s3.trans se)).trans (Same.new htp)) upd_same (hP.same (Same.new htp))
end
end K13

namespace K13
open PySem L2 TC
def sp_law_asked (K : PySem.W.Frag) : Sp := fun vs H Q _ => ∃ v : V, vs = [v] ∧ ((∃ (t : Str) (c : Nat) (ps : List (Nat × Nat)), v = .str t ∧ t.length ≤ 900 ∧ inT t = some (c, ps) ∧ ∀ (tp tq l : Addr) (H' : Hp), H tp = none → Same H H' → H' tp = some (.tup [.str (Str.ofString "made"), .ref tq]) → H' tq = some (.tup [.int ((c : Nat) : Int), .ref l]) → PrsAt H' l ps → Q (.ref tp) H') ∨
  (((∃ (ty : Value), TyOf K H v ty ∧ PySem.W.kitOne K ty (.type "str") = some false) ∨ ∃ t : Str, v = .str t ∧ t.length ≤ 900 ∧ inT t = none) ∧ ∀ (tp : Addr) (H' : Hp), H tp = none → Same H H' → H' tp = some (.tup [.str (Str.ofString "refused"), .non]) → Q (.ref tp) H'))
section
variable {P : Program} {w : World} {K : PySem.W.Frag} {mg : Str → Option Value} {base : Heap} {A : Adr}
theorem ok_law_asked (T : Txt K mg A) : FnOk P w K mg base CX0 14 A.f_law_asked A.d_law_asked ["_law_text"] (sp_law_asked K) := by
  have G_read := ok_read (P := P) (w := w) (base := base) T
  have G_read_x := ok_read_x (P := P) (w := w) (base := base) T
  have G_Rules_rules := ok_Rules_rules (P := P) (w := w) (base := base) T
  refine T.F_law_asked.ok sc_law_asked (fun vs H Q E h => ?_) (fun cdv A' outer s H vs Q E hr h => ?_)
  · obtain ⟨t, rfl, _⟩ := h; rfl
  · obtain ⟨v, rfl, h⟩ := h
    refine ⟨_, (pss_cons (ps_try2 (C := A.c_BadText) (D := A.c_TellError) (i := 2) rfl rfl rfl T.m_TellError T.xi_BadText T.xi_TellError (by decide +kernel) T.up_BadText_TellError sc_law_asked.nd rfl rfl (fun a => (pss_cons (ps_set (i := 3) sc_law_asked.nd rfl (Or.inl rfl) (pe_lst (pa_cons (pe_callB (call_isinstEK K) rfl T.z_isinstance bt_isinstance (pa_cons (pv 2) (pa_cons (pe_glob (v := .ref A.c_BadRules) rfl T.m_BadRules rfl) pa_nil))) (pa_cons (pe_callB (call_isinstEK K) rfl T.z_isinstance bt_isinstance (pa_cons (pv 2) (pa_cons (pe_glob (v := .ref A.c_BadSet) rfl T.m_BadSet rfl) pa_nil))) (pa_cons (pe_callB (call_isinstEK K) rfl T.z_isinstance bt_isinstance (pa_cons (pv 2) (pa_cons (pe_glob (v := .ref A.c_BadParts) rfl T.m_BadParts rfl) pa_nil))) pa_nil)))))
      (pss_cons (ps_set (i := 3) sc_law_asked.nd rfl (Or.inl rfl) (pe_op op_cat (pv 3) (pe_lst (pa_cons (pe_callB (call_isinstEK K) rfl T.z_isinstance bt_isinstance (pa_cons (pv 2) (pa_cons (pe_glob (v := .ref A.c_BadTable) rfl T.m_BadTable rfl) pa_nil))) (pa_cons (pe_callB (call_isinstEK K) rfl T.z_isinstance bt_isinstance (pa_cons (pv 2) (pa_cons (pe_glob (v := .ref A.c_Unlike) rfl T.m_Unlike rfl) pa_nil))) pa_nil)))))
      (pss_one (ps_if (PW.pt (pw_or (pt_val (pe_callB (call_anyHK K (a := a) rfl) rfl T.z_any bt_any (pa_cons (pv 3) pa_nil))) (pw_or1 (pt_not (pt_val (pe_callB (call_isinstEK K) rfl T.z_isinstance bt_isinstance (pa_cons (pv 2) (pa_cons (pe_glob (v := .ref A.c_BadText) rfl T.m_BadText rfl) pa_nil)))))))) (pss_one (ps_ret (pe_tup (pa_cons pe_str (pa_cons pe_non pa_nil))))) pss_nil)))))
      (fun _ _ _ hp => (pss_cons (ps_set (i := 1) sc_law_asked.nd rfl (Or.inl rfl) (pe_either (pe_call G_read (hr.mono (by decide)) rfl T.m_read T.F_read.kp T.b_read .nil pass0 (pa_cons (pv 0) pa_nil)) (pe_call G_read_x (hr.mono (by decide)) rfl T.m_read T.F_read.kp T.b_read .nil hp (pa_cons (pv 0) pa_nil))))
      (pss_one (ps_ret (pe_tup (pa_cons pe_str (pa_cons (pe_tup (pa_cons (pe_fldK K (pv 1)) (pa_cons (pe_meth0 (pv 1) T.cl_Rules T.mt_Rules_rules G_Rules_rules (hr.mono (by decide)) T.b_Rules_rules .nil pass0) pa_nil))) pa_nil))))))))
      (pss_one (ps_ret (pe_tup (pa_cons pe_str (pa_cons pe_non pa_nil)))))), ?_⟩
    rcases h with ⟨t, c, ps, rfl, hz, hin, k⟩ | ⟨hbad, k⟩
    · refine .inl ⟨_, rfl, t, c, ps, rfl, hz, hin, fun p m H1 hp s1 hR => ?_⟩
      obtain ⟨⟨dx, hp1⟩, _⟩ := id hR
      refine ⟨_, rfl, p, A.c_Rules, dx, _, _, rfl, hp1, T.cl_Rules, T.na_Rules_columns, flds_columns _ _, _, rfl, p, dx, _, rfl, hp1, flds_no _ _ (by decide +kernel) (by decide +kernel), p, m, c, ps, rfl, hR, fun l ts hl htp => ?_⟩
      have s2 : Same H1 (upd H1 l (.lst (ts.map V.ref))) := Same.new hl
      have hP : PrsAt (upd H1 l (.lst (ts.map V.ref))) l ps := ⟨ts, upd_same, htp.same s2⟩
      generalize upd H1 l (.lst (ts.map V.ref)) = H2 at s2 hP ⊢
      refine ⟨by show 2 ≤ sizeLine; decide, fun tq htq => ⟨by show 2 ≤ sizeLine; decide, fun tp htp' => ?_⟩⟩
      have s3 : Same H2 (upd H2 tq (.tup [.int ((c : Nat) : Int), .ref l])) := Same.new htq
      have sA := s1.trans (s2.trans s3)
      exact k tp tq l _ (sA.free htp') (sA.trans (Same.new htp')) upd_same ((Same.new htp') _ _ upd_same) ((hP.same s3).same (Same.new htp'))
    · refine .inr ⟨_, rfl, v, rfl, hbad, fun H1 s1 e => ?_⟩
      refine ⟨rfl, fun a ea hna => ?_⟩
      have sE : Same H1 (upd H1 a (ErrO a A.c_BadText)) := Same.new hna
      have he : (upd H1 a (ErrO a A.c_BadText)) a = some (ErrO a A.c_BadText) := upd_same
      generalize upd H1 a (ErrO a A.c_BadText) = H2 at sE he ⊢
      refine ⟨_, rfl, a, _, _, _, false, rfl, he, T.et_BadText, .inr ⟨_, rfl, rfl⟩, T.ki_BadText_BadRules, _, rfl, a, _, _, _, false, rfl, he, T.et_BadText, .inr ⟨_, rfl, rfl⟩, T.ki_BadText_BadSet,
        _, rfl, a, _, _, _, false, rfl, he, T.et_BadText, .inr ⟨_, rfl, rfl⟩, T.ki_BadText_BadParts, by show 3 ≤ sizeLine; decide, fun l1 hl1 => ?_⟩
      have t1 : Same H2 (upd H2 l1 (.lst [.bl false, .bl false, .bl false])) := Same.new hl1
      have g1 : (upd H2 l1 (.lst [.bl false, .bl false, .bl false])) l1 = some (.lst [.bl false, .bl false, .bl false]) := upd_same
      generalize upd H2 l1 (.lst [.bl false, .bl false, .bl false]) = H3 at t1 g1 ⊢
      have he1 := t1 _ _ he
      refine ⟨_, rfl, _, rfl, a, _, _, _, false, rfl, he1, T.et_BadText, .inr ⟨_, rfl, rfl⟩, T.ki_BadText_BadTable, _, rfl, a, _, _, _, false, rfl, he1, T.et_BadText, .inr ⟨_, rfl, rfl⟩, T.ki_BadText_Unlike, by show 2 ≤ sizeLine; decide, fun l2 hl2 => ?_⟩
      have t2 : Same H3 (upd H3 l2 (.lst [.bl false, .bl false])) := Same.new hl2
      have g2 : (upd H3 l2 (.lst [.bl false, .bl false])) l2 = some (.lst [.bl false, .bl false]) := upd_same
      generalize upd H3 l2 (.lst [.bl false, .bl false]) = H4 at t2 g2 ⊢
      refine ⟨l1, l2, _, _, rfl, rfl, t2 _ _ g1, g2, by show 5 ≤ sizeLine; decide, fun l3 hl3 => ?_⟩
      have t3 : Same H4 (upd H4 l3 (.lst ([.bl false, .bl false, .bl false] ++ [.bl false, .bl false]))) := Same.new hl3
      have g3 : (upd H4 l3 (.lst ([.bl false, .bl false, .bl false] ++ [.bl false, .bl false]))) l3 = some (.lst ([false, false, false, false, false].map V.bl)) := upd_same
      generalize upd H4 l3 (.lst ([.bl false, .bl false, .bl false] ++ [.bl false, .bl false])) = H5 at t3 g3 ⊢
      have he5 := t3 _ _ (t2 _ _ he1)
      refine ⟨_, rfl, l3, _, _, rfl, SqL.of g3, he5, _, rfl, iteF ?_⟩
      refine ⟨_, rfl, a, _, _, _, true, rfl, he5, T.et_BadText, .inr ⟨_, rfl, rfl⟩, T.ki_BadText_BadText, true, rfl, iteF ?_⟩
      refine ⟨by show 2 ≤ sizeLine; decide, fun tp htp => ?_⟩
      have sA := s1.trans (sE.trans (t1.trans (t2.trans t3)))
      exact k tp _ (sA.free htp) (sA.trans (Same.new htp)) upd_same
end
end K13

namespace K13
open PySem L2 TC
def sp_law_other : Sp := fun vs H Q _ => ∃ (t : Str) (x : Int), vs = [.str t, .int x] ∧ t.length ≤ 300 ∧ ∀ (t' : Str) (H' : Hp), t'.length ≤ 900 → Same H H' → Q (.str t') H'
def strShort : PyData → Bool
  | .str s => Nat.ble s.length 20
  | _ => false
theorem dys_short {H : Hp} : ∀ {xs : List V} {ds : List PyData}, Dys H xs ds → ds.all strShort = true → ∃ ss : List Str, xs = ss.map V.str ∧ ∀ s ∈ ss, s.length ≤ 20
  | _, _, .nil, _ => ⟨[], rfl, fun s hs => by cases hs⟩
  | _, _, .cons (d := d) h hs, ha => by
    rw [List.all_cons, Bool.and_eq_true] at ha
    obtain ⟨ss, rfl, hss⟩ := dys_short hs ha.2
    cases d with
    | str sg =>
      cases h
      refine ⟨sg :: ss, rfl, fun s hs' => ?_⟩
      rcases List.mem_cons.mp hs' with rfl | hs'
      · exact Nat.le_of_ble_eq_true ha.1
      · exact hss s hs'
    | _ => exact absurd ha.1 (by simp [strShort])
section
variable {P : Program} {w : World} {K : PySem.W.Frag} {mg : Str → Option Value} {base : Heap} {A : Adr}
theorem ok_law_other (T : Txt K mg A) : FnOk P w K mg base CX0 3 A.f_law_other A.d_law_other ["_law_text", "_law_cell"] sp_law_other := by
  have G_law_draw := ok_law_draw (P := P) (w := w) (base := base) T
  refine T.F_law_other.ok sc_law_other (fun vs H Q E h => ?_) (fun cdv A' outer s H vs Q E hr h => ?_)
  · obtain ⟨t, x, rfl, _⟩ := h; rfl
  · obtain ⟨t, x, rfl, hz, k⟩ := h
    refine ⟨_, (PSso.out (psso_cons (PSo.mk (ps_set (i := 2) sc_law_other.nd rfl (Or.inl rfl) (pe_call G_law_draw (hr.mono (by decide)) rfl T.m_law_draw T.F_law_draw.kp T.b_law_draw .nil pass0 (pa_cons (pv 1) (pa_cons pe_int (pa_cons (pe_op op_add (pe_callB call_len_str rfl T.z_len bt_len (pa_cons (pv 0) pa_nil)) pe_int) pa_nil))))))
      (psso_cons (pso_setD (i := 3) sc_law_other.nd rfl (Or.inl rfl) (pd_lst (c0 := fun _ => True) (pda_cons pd_str (pda_cons pd_str (pda_cons pd_str (pda_cons pd_str (pda_cons pd_str (pda_cons pd_str (pda_cons pd_str (pda_cons pd_str (pda_cons pd_str (pda_cons pd_str (pda_cons pd_str (pda_cons pd_str pda_nil))))))))))))))
      (psso_cons (PSo.mk (ps_set (i := 4) sc_law_other.nd rfl (Or.inl rfl) (pe_ix (ix_listK K) (pv 3) (pe_call G_law_draw (hr.mono (by decide)) rfl T.m_law_draw T.F_law_draw.kp T.b_law_draw .nil pass0 (pa_cons (pv 1) (pa_cons pe_int (pa_cons (pe_callB (call_lenK K) rfl T.z_len bt_len (pa_cons (pv 3) pa_nil)) pa_nil)))) (fun _ _ => rfl))))
      (psso_cons (PSo.mk (ps_set (i := 5) sc_law_other.nd rfl (Or.inl rfl) (pe_call G_law_draw (hr.mono (by decide)) rfl T.m_law_draw T.F_law_draw.kp T.b_law_draw .nil pass0 (pa_cons (pv 1) (pa_cons pe_int (pa_cons pe_int pa_nil))))))
      (psso_cons (PSo.mk (ps_if (pt_cmpR op_eq (pv 5) pe_int (nomark _)) (pss_one (ps_ret (pe_op op_add_str (pe_op op_add_str (pe_slice sl_str (pv 0) po_none (po_some (pv 2))) (pv 4)) (pe_slice sl_str (pv 0) (po_some (pv 2)) po_none)))) pss_nil))
      (psso_one (PSo.mk (ps_ret (pe_op op_add_str (pe_op op_add_str (pe_slice sl_str (pv 0) po_none (po_some (pv 2))) (pe_ix (ix_listK K) (pe_lst (pa_cons pe_str (pa_cons (pv 4) pa_nil))) (pe_op op_sub (pv 5) pe_int) (fun _ _ => rfl))) (pe_slice sl_str (pv 0) (po_some (pe_op op_add (pv 2) pe_int)) po_none))))))))))), ?_⟩
    refine ⟨_, rfl, _, rfl, t, rfl, by rw [sizeLine_eq]; omega, (t.length : Int), 1, rfl, rfl, x, 1, t.length + 1, rfl, by omega, by omega, fun at_ hat => ⟨trivial, fun v H2 s2 dy => ?_⟩⟩
    obtain ⟨l, xs, rfl, hl2, hdx⟩ := dy.lst'
    have hx12 : xs.length = 12 := hdx.len
    obtain ⟨ss, rfl, hss⟩ := dys_short hdx rfl
    refine ⟨_, rfl, _, rfl, _, rfl, l, _, rfl, .inl (SqL.of hl2), x, 2, (ss.map V.str).length, rfl, by omega, by omega, fun j hj => ?_⟩
    have hj' : j < ss.length := by rw [List.length_map] at hj; exact hj
    obtain ⟨sg, hsg⟩ : ∃ sg, ss[j]? = some sg := ⟨_, List.getElem?_eq_getElem hj'⟩
    have hsl := hss sg (List.mem_of_getElem? hsg)
    refine ⟨l, _, (j : Int), .str sg, rfl, rfl, SqL.of hl2, atI_nat (by rw [List.getElem?_map, hsg]; rfl), ?_⟩
    refine ⟨_, rfl, x, 3, 3, rfl, by decide, by decide, fun wy hwy => ?_⟩
    refine ⟨_, rfl, rfl, _, rfl, ?_⟩
    have sle := Txt.slice_le t
    refine ite2 (fun e => ?_) (fun e => ?_)
    · have a1 := sle none (some (at_ : Int))
      have a2 := sle (some (at_ : Int)) none
      have a3 : (Txt.slice t none (some (at_ : Int)) ++ sg).length = (Txt.slice t none (some (at_ : Int))).length + sg.length := Str.length_append _ _
      refine ⟨_, rfl, _, rfl, (at_ : Int), rfl, t, rfl, by omega, _, rfl, _, _, rfl, rfl, by rw [sizeLine_eq]; omega, _, rfl, _, rfl, (at_ : Int), rfl, t, rfl, by omega, _, _, rfl, rfl, by rw [a3, sizeLine_eq]; omega, ?_⟩
      exact k _ H2 (by rw [Str.length_append, a3]; omega) s2
    · have hw0 : wy = 1 ∨ wy = 2 := by
        have : wy ≠ 0 := fun z => e (decide_eq_true (by rw [z]; rfl))
        omega
      have a1 := sle none (some (at_ : Int))
      have a2 := sle (some ((at_ : Int) + 1)) none
      obtain ⟨sg2, hs2, hat2⟩ : ∃ sg2 : Str, sg2.length ≤ 20 ∧ atI [V.str (Str.ofString ""), V.str sg] ((wy : Int) - 1) = some (.str sg2) := by
        rcases hw0 with rfl | rfl
        · exact ⟨_, by decide, rfl⟩
        · exact ⟨sg, hsl, rfl⟩
      have a3 : (Txt.slice t none (some (at_ : Int)) ++ sg2).length = (Txt.slice t none (some (at_ : Int))).length + sg2.length := Str.length_append _ _
      refine ⟨_, rfl, _, rfl, (at_ : Int), rfl, t, rfl, by omega, _, rfl, by show 2 ≤ sizeLine; decide, fun q hq => ?_⟩
      refine ⟨_, rfl, (wy : Int), 1, rfl, rfl, q, _, (wy : Int) - 1, _, rfl, rfl, SqL.of upd_same, hat2, _, _, rfl, rfl, by rw [sizeLine_eq]; omega, _, rfl, _, rfl, (at_ : Int), 1, rfl, rfl, (at_ : Int) + 1, rfl, t, rfl, by omega, _, _, rfl, rfl, by rw [a3, sizeLine_eq]; omega, ?_⟩
      exact k _ _ (by rw [Str.length_append, a3]; omega) (s2.trans (Same.new hq))
end
end K13

/-! ### long displays, closed -/
namespace L2
open PySem PySem.Spec PyProof.Rows
section
variable {X : Cx} {e : Expr} {es : List Expr} {te : TE} {t : TA} {pos : Pos}
theorem pao_nil : PAo X [] tNil := .mk pa_nil
theorem pao_cons (ha : PEo X e te) (hr : PAo X es t) (hn : isStar e = false := by rfl) : PAo X (e :: es) (tCons te t) := .mk (pa_cons ha.out hr.out (star1 _ _ _ hn))
theorem peo_lst (h : PAo X es t) : PEo X (.List es pos) (tLst t) := .mk (pe_lst h.out)
theorem peo_str {x j} : PEo X (.Constant (.str x) j pos) (tC (.str x)) := .mk pe_str
end
end L2

namespace K13
open PySem L2 TC
theorem comp_tups {K : PySem.W.Frag} {a D : Addr} {ts : List Addr} {ps : List (Nat × Nat)} {tt : TT} {te : TE} {σ0 : St} {H1 : Hp} {Q : VK} (Pv : Nat → List V → Hp → Prop) (h0 : Pv 0 [] (upd H1 D (.lst [])))
    (hl : ∀ i ys H, i ≤ ps.length → Pv i ys H → H a = some (.lst (ts.map V.ref)) ∧ Tps H ts ps)
    (hs : ∀ i p ys H, ps[i]? = some p → Pv i ys H → H D = some (.lst ys) → tt ((σ0.set 0 (some (.int (p.1 : Nat)))).set 1 (some (.int (p.2 : Nat)))) H fun b H4 =>
      if b = true then te ((σ0.set 0 (some (.int (p.1 : Nat)))).set 1 (some (.int (p.2 : Nat)))) H4 (CE2 σ0 D Pv (i + 1) ((σ0.set 0 (some (.int (p.1 : Nat)))).set 1 (some (.int (p.2 : Nat))))) else CN2 σ0 D Pv (i + 1) ((σ0.set 0 (some (.int (p.1 : Nat)))).set 1 (some (.int (p.2 : Nat)))) H4)
    (hd : ∀ ys H, Pv ps.length ys H → H D = some (.lst ys) → Q (.ref D) H) :
    CompRun (Itl K a) (gTup K 2 (gCons (gName 0) (gCons (gName 1) gNil))) tt te Q σ0 H1 D := by
  refine ⟨fun i m σ H => m = ps.length - i ∧ i ≤ ps.length ∧ (σ = σ0 ∨ ∃ v u, σ = (σ0.set 0 v).set 1 u) ∧ ∃ ys, H D = some (.lst ys) ∧ Pv i ys H, ⟨ps.length, by simp, Nat.zero_le _, .inl rfl, [], upd_same, h0⟩, ?_⟩
  rintro i m σ H ⟨rfl, hi, hσ, ys, hD, p⟩
  obtain ⟨q, tp⟩ := hl i ys H hi p
  have hln : (ts.map V.ref).length = ps.length := by rw [List.length_map]; exact tp.len
  by_cases hlt : i < ps.length
  · refine .inr ⟨⟨ts.map V.ref, (ts.map V.ref)[i]'(by omega), SqL.of q, List.getElem?_eq_getElem (by omega)⟩, CN2 σ0 D Pv (i + 1), fun σ' H' ⟨a1, a2⟩ => ⟨ps.length - (i + 1), by omega, rfl, hlt, .inr a1, a2⟩, fun x H' y => ?_⟩
    obtain ⟨e, y⟩ := y
    subst e
    have hx := y _ (SqL.of q)
    obtain ⟨t, r, rfl, hr, ht⟩ := tp.get hx
    have eσ : (σ.set 0 (some (.int (r.1 : Nat)))).set 1 (some (.int (r.2 : Nat))) = (σ0.set 0 (some (.int (r.1 : Nat)))).set 1 (some (.int (r.2 : Nat))) := by
      rcases hσ with rfl | ⟨v, u, rfl⟩
      · rfl
      · exact set_again _ _ _ _ _
    refine ⟨t, _, rfl, SqT.of ht, rfl, _, _, rfl, ?_⟩
    refine ⟨_, _, rfl, rfl, ?_⟩
    show tt ((σ.set 0 (some (.int (r.1 : Nat)))).set 1 (some (.int (r.2 : Nat)))) _ _
    rw [eσ]
    exact hs i r ys _ hr p hD
  · have e : i = ps.length := by omega
    subst e
    exact .inl ⟨⟨ts.map V.ref, SqL.of q, by omega⟩, hd ys H p hD⟩
def strLe (n : Nat) : PyData → Bool
  | .str s => Nat.ble s.length n
  | _ => false
theorem dys_le {H : Hp} {n : Nat} : ∀ {xs : List V} {ds : List PyData}, Dys H xs ds → ds.all (strLe n) = true → ∃ ss : List Str, xs = ss.map V.str ∧ ∀ s ∈ ss, s.length ≤ n
  | _, _, .nil, _ => ⟨[], rfl, fun s hs => by cases hs⟩
  | _, _, .cons (d := d) h hs, ha => by
    rw [List.all_cons, Bool.and_eq_true] at ha
    obtain ⟨ss, rfl, hss⟩ := dys_le hs ha.2
    cases d with
    | str sg =>
      cases h
      refine ⟨sg :: ss, rfl, fun s hs' => ?_⟩
      rcases List.mem_cons.mp hs' with rfl | hs'
      · exact Nat.le_of_ble_eq_true ha.1
      · exact hss s hs'
    | _ => exact absurd ha.1 (by simp [strLe])
theorem join_le {y a : Str} {l : List Str} {B n : Nat} (hB : ∀ s ∈ a :: l, s.length ≤ B) (hl : l.length ≤ n) (hy : y.length ≤ 2) : (Str.join y (a :: l)).length ≤ (n + 1) * B + n * 2 := by
  rw [PyProof.Rows.len_join_cons]
  have h1 := StrLaws.sumLen_le (a :: l) hB
  have h2 : (a :: l).length * B ≤ (n + 1) * B := Nat.mul_le_mul_right _ (by rw [List.length_cons]; omega)
  have h3 : l.length * y.length ≤ n * 2 := Nat.mul_le_mul hl hy
  omega
theorem word_le {p : Nat × Nat} (h1 : p.1 < 64) (h2 : p.2 < 64) : (wordT p).length ≤ 13 := by
  have l1 := fig_len p.1 h1
  have l2 := fig_len p.2 h2
  unfold wordT
  rw [Str.length_append, Str.length_append]
  show (figT p.1).length + 1 + (figT p.2).length ≤ 13
  omega
theorem rep_le : ((List.replicate 64 [PyData.str (Str.ofString "0>0")]).flatten).all (strLe 3) = true ∧ ((List.replicate 65 [PyData.str (Str.ofString "0>0")]).flatten).all (strLe 3) = true := by decide +kernel
theorem rep_len : ((List.replicate 64 [PyData.str (Str.ofString "0>0")]).flatten).length = 64 ∧ ((List.replicate 65 [PyData.str (Str.ofString "0>0")]).flatten).length = 65 := by simp
section
variable {K : PySem.W.Frag}
theorem kit_non_str : PySem.W.kitOne K (.type "NoneType") (.type "str") = some false := by kernel_rfl
theorem kit_int_str : PySem.W.kitOne K (.type "int") (.type "str") = some false := by kernel_rfl
theorem kit_bool_str : PySem.W.kitOne K (.type "bool") (.type "str") = some false := by kernel_rfl
theorem kit_list_str : PySem.W.kitOne K (.type "list") (.type "str") = some false := by kernel_rfl
theorem kit_tuple_str : PySem.W.kitOne K (.type "tuple") (.type "str") = some false := by kernel_rfl
end
end K13

namespace K13 -- LAW
open PySem L2 TC
section
variable {P : Program} {w : World} {K : PySem.W.Frag} {mg : Str → Option Value} {base : Heap} {A : Adr}
theorem law_tree (T : Txt K mg A) {Q : VK} {a : Addr} {ns : List Int} {H : Hp} (hS : SqL K H a (ns.map V.int)) (hlen : ns.length ≤ 63) (k : ∀ H', Q (.bl true) H') :
    tSeq
    (tAsg
      (tOp (rIxT K)
        (tTup
          (tCons (tC (V.int 3))
            (tCons (tC (V.int 4))
              (tCons (tC (V.int 2))
                (tCons (tC (V.int 5))
                  (tCons (tC (V.int 3)) (tCons (tC (V.int 4)) (tCons (tC (V.int 1)) (tCons (tC (V.int 6)) tNil)))))))))
        (tOp (rI (fun x j => 0 < j) fun i j => V.int (i % j))
          (tCall (sp_cell_at K) [] E0 (tCons (tVar 0) (tCons (tC (V.int 0)) tNil))) (tC (V.int 8))))
      (gName 1))
    (tSeq
      (tAsg
        (tCall sp_pairs [] E0
          (tCons (tCall (sp_cell_at K) [] E0 (tCons (tVar 0) (tCons (tC (V.int 1)) tNil)))
            (tCons (tVar 1) (tCons (tC (V.int 8)) tNil))))
        (gName 2))
      (tSeq
        (tAsg
          (tBM K "str" rJoin (tC (V.str (Str.ofString "; ")))
            (tCons
              (tOp rCat
                (tLst
                  (tCons
                    (tCB
                      (fun xs H Q =>
                        ∃ i, xs = [V.int i] ∧ i.natAbs.log2 < 1920 ∧ Q (V.str (Str.ofString (toString i))) H)
                      (tCons (tVar 1) tNil))
                    tNil))
                (tComp [none, none] (iList K (tVar 2)) (gTup K 2 (gCons (gName 0) (gCons (gName 1) gNil))) tYes
                  (tOp
                    (fun x y H Q =>
                      ∃ i j, x = V.str i ∧ y = V.str j ∧ i.length + j.length ≤ sizeLine ∧ Q (V.str (i ++ j)) H)
                    (tOp
                      (fun x y H Q =>
                        ∃ i j, x = V.str i ∧ y = V.str j ∧ i.length + j.length ≤ sizeLine ∧ Q (V.str (i ++ j)) H)
                      (tCall sp_figures [] E0 (tCons (tVar 0) tNil)) (tC (V.str (Str.ofString ">"))))
                    (tCall sp_figures [] E0 (tCons (tVar 1) tNil)))))
              tNil))
          (gName 3))
        (tSeq
          (tIfS
            (tTest
              (tOp rNe
                (tCall (sp_written A.c_Rules) [] E0
                  (tCons (tMake A.c_Rules (sp_Rules_init A.c_Rules) [] E0 (tCons (tVar 1) (tCons (tVar 2) tNil))) tNil))
                (tVar 3)))
            (tRet (tC (V.bl false))) tNext)
          (tSeq
            (tAsg
              (tD (fun x => True)
                (PyData.list
                  [PyData.str (Str.ofString ""), PyData.str (Str.ofString "0"), PyData.str (Str.ofString "7"),
                    PyData.str (Str.ofString "3"), PyData.str (Str.ofString "3; "), PyData.str (Str.ofString "3;0>1"),
                    PyData.str (Str.ofString "3; 0>1"), PyData.str (Str.ofString "3; 10>2"),
                    PyData.str (Str.ofString "3; 00>1"), PyData.str (Str.ofString "3; 0>3"),
                    PyData.str (Str.ofString "3; >1"), PyData.str (Str.ofString "3; 0>"),
                    PyData.str (Str.ofString "3; ->-")]))
              (gName 4))
            (tSeq
              (tAsg
                (tOp rCat (tVar 4)
                  (tLst
                    (tCons (tC (V.str (Str.ofString "3; 0>1>2")))
                      (tCons (tC (V.str (Str.ofString "3; 0-1")))
                        (tCons (tC (V.str (Str.ofString "3; 01>2; ")))
                          (tCons (tC (V.str (Str.ofString "3; 0 1>2")))
                            (tCons (tC (V.str (Str.ofString "03; 0>1")))
                              (tCons (tC (V.str (Str.ofString "3 ; 0>1")))
                                (tCons (tC (V.str (Str.ofString "3; 0>1\n")))
                                  (tCons (tC (V.str (Str.ofString "3; -0>1"))) (tCons (tVar 3) tNil)))))))))))
                (gName 4))
              (tSeq
                (tAsg
                  (tOp rCat (tVar 4)
                    (tLst
                      (tCons
                        (tBM K "str" rJoin (tC (V.str (Str.ofString "; ")))
                          (tCons
                            (tOp rCat (tLst (tCons (tC (V.str (Str.ofString "1"))) tNil))
                              (tD (fun x => True)
                                (PyData.list (List.replicate 64 [PyData.str (Str.ofString "0>0")]).flatten)))
                            tNil))
                        (tCons
                          (tBM K "str" rJoin (tC (V.str (Str.ofString "; ")))
                            (tCons
                              (tOp rCat (tLst (tCons (tC (V.str (Str.ofString "1"))) tNil))
                                (tD (fun x => True)
                                  (PyData.list (List.replicate 65 [PyData.str (Str.ofString "0>0")]).flatten)))
                              tNil))
                          tNil))))
                  (gName 4))
                (tSeq
                  (tFor (iRng1 (tCons (tC (V.int 5)) tNil)) (gName 5)
                    (tDrop
                      (tBM K "list" rAppend (tVar 4)
                        (tCons
                          (tCall sp_law_other [] E0
                            (tCons (tVar 3)
                              (tCons
                                (tOp (rI0 fun i j => V.int (i + j))
                                  (tCall (sp_cell_at K) [] E0
                                    (tCons (tVar 0)
                                      (tCons (tOp (rI0 fun i j => V.int (i + j)) (tC (V.int 2)) (tVar 5)) tNil)))
                                  (tOp (rI CMul fun i j => V.int (i * j)) (tC (V.int 31)) (tVar 5)))
                                tNil)))
                          tNil))))
                  (tSeq
                    (tFor (iList K (tVar 4)) (gName 6)
                      (tSeq (tAsg (tCall sp_law_in [] E0 (tCons (tVar 6) tNil)) (gName 7))
                        (tSeq
                          (tAsg (tCall (sp_law_asked K) [] E0 (tCons (tVar 6) tNil))
                            (gTup K 2 (gCons (gName 8) (gCons (gName 9) gNil))))
                          (tSeq
                            (tIfS
                              (tOr
                                (tTest
                                  (tOp rNe (tVar 8)
                                    (tOp (rIxL K)
                                      (tLst
                                        (tCons (tC (V.str (Str.ofString "made")))
                                          (tCons (tC (V.str (Str.ofString "refused"))) tNil)))
                                      (tCB
                                        (fun xs H Q =>
                                          (∃ i, xs = [V.int i] ∧ Q (V.int i) H) ∨
                                            ∃ k, xs = [V.bl k] ∧ Q (V.int (if k = true then 1 else 0)) H)
                                        (tCons
                                          (tOp (fun x y H Q => y = V.non ∧ Q (V.bl (decide (x = V.non))) H) (tVar 7)
                                            (tC V.non))
                                          tNil)))))
                                (tTest (tOp (rEqD true) (tVar 9) (tVar 7))))
                              (tRet (tC (V.bl false))) tNext)
                            (tIfS
                              (tAnd
                                (tTest
                                  (tOp (fun x y H Q => y = V.non ∧ Q (V.bl !decide (x = V.non)) H) (tVar 7) (tC V.non)))
                                (tTest
                                  (tOp rNe
                                    (tCall (sp_written A.c_Rules) [] E0
                                      (tCons
                                        (tMake A.c_Rules (sp_Rules_init A.c_Rules) [] E0
                                          (tCons (tOp (rIxT K) (tVar 7) (tC (V.int 0)))
                                            (tCons (tOp (rIxT K) (tVar 7) (tC (V.int 1))) tNil)))
                                        tNil))
                                    (tVar 6))))
                              (tRet (tC (V.bl false))) tNext)))))
                    (tSeq
                      (tAsg
                        (tOp (rIxL K)
                          (tLst
                            (tCons (tC V.non)
                              (tCons (tC (V.int 5))
                                (tCons (tLst (tCons (tC (V.str (Str.ofString "3"))) tNil))
                                  (tCons (tTup (tCons (tC (V.int 3)) tNil)) (tCons (tC (V.bl true)) tNil))))))
                          (tOp (rI (fun x j => 0 < j) fun i j => V.int (i % j))
                            (tCall (sp_cell_at K) [] E0 (tCons (tVar 0) (tCons (tC (V.int 7)) tNil))) (tC (V.int 5))))
                        (gName 10))
                      (tRet
                        (tOp rEq (tOp (rIxT K) (tCall (sp_law_asked K) [] E0 (tCons (tVar 10) tNil)) (tC (V.int 0)))
                          (tC (V.str (Str.ofString "refused"))))))))))))))
    { nx := fun x H' => Q V.non H', rt := Q }
    (L2.start
      [Str.ofString "_law_script", Str.ofString "_law_columns", Str.ofString "_law_pairs_here",
        Str.ofString "_law_text", Str.ofString "_law_texts", Str.ofString "_law_k", Str.ofString "_law_some",
        Str.ofString "_law_due", Str.ofString "_law_came", Str.ofString "_law_found", Str.ofString "_law_bad"]
      [V.ref a])
    H := by
  refine ⟨by show 8 ≤ sizeLine; decide, fun tp htp0 => ⟨_, rfl, a, ns, 0, rfl, (Same.new htp0).seq hS, fun x0 => ⟨x0, 8, rfl, rfl, (by show (0 : Int) < 8; decide), ?_⟩⟩⟩
  obtain ⟨c, hc1, hc6, ec⟩ := menu x0
  refine ⟨tp, _, _, _, rfl, rfl, SqT.of upd_same, ec, ?_⟩
  have hS1 : SqL K (upd H tp (.tup [V.int 3, V.int 4, V.int 2, V.int 5, V.int 3, V.int 4, V.int 1, V.int 6])) a (ns.map V.int) := (Same.new htp0).seq hS
  generalize (upd H tp (.tup [V.int 3, V.int 4, V.int 2, V.int 5, V.int 3, V.int 4, V.int 1, V.int 6])) = H1 at hS1 ⊢
  have h64 : 2 ^ c ≤ 64 := Nat.pow_le_pow_right (by decide) hc6
  -- the rules
  refine ⟨_, rfl, a, ns, 1, rfl, hS1, fun x1 => ⟨_, rfl, x1, c, 8, rfl, hc6, by decide, fun l ps H2 hl s2 hP hpl hps => ?_⟩⟩
  have hG : Good c ps := ⟨hc1, hc6, by omega, hps⟩
  obtain ⟨ts, hl2, htp2⟩ := id hP
  -- the text
  refine ⟨rfl, _, rfl, (c : Int), rfl, log_small (by omega), by show 1 ≤ sizeLine; decide, fun q hq => ?_⟩
  have s3 : Same H2 (upd H2 q (.lst [.str (digT c)])) := Same.new hq
  have hq3 : (upd H2 q (.lst [.str (digT c)])) q = some (.lst [.str (digT c)]) := upd_same
  show tComp _ _ _ _ _ _ (upd H2 q (.lst [.str (digT c)])) _
  generalize upd H2 q (.lst [.str (digT c)]) = H3 at s3 hq3 ⊢
  have hl3 := s3 _ _ hl2
  have htp3 := htp2.same s3
  refine ⟨_, rfl, l, rfl, ⟨_, SqL.of hl3⟩, fun D hD => comp_tups (ts := ts) (ps := ps) (fun i ys H' => Same H3 H' ∧ i ≤ ps.length ∧ ys = ((ps.take i).map wordT).map V.str) ⟨Same.new hD, Nat.zero_le _, rfl⟩ (fun i ys H' _ ⟨e, _⟩ => ⟨e _ _ hl3, htp3.same e⟩) ?_ ?_⟩
  · rintro i p ys H' hp ⟨se, hi, rfl⟩ hDl
    have hi' : i < ps.length := (List.getElem?_eq_some_iff.mp hp).1
    have hb := hps p (List.mem_of_getElem? hp)
    have l1 := fig_len p.1 (by omega)
    have l2 := fig_len p.2 (by omega)
    have l3 : (figT p.1 ++ Str.ofString ">").length = (figT p.1).length + 1 := by rw [Str.length_append]; rfl
    refine yes_mk ?_
    refine ⟨_, rfl, p.1, rfl, by omega, fun H5 s5 => ⟨_, _, rfl, rfl, ?_, _, rfl, p.2, rfl, by omega, fun H6 s6 => ⟨_, _, rfl, rfl, ?_, CE2.mk (s6 _ _ (s5 _ _ hDl)) (small1000 (by rw [List.length_map, List.length_map, List.length_take]; omega)) ⟨Same.up (se.trans (s5.trans s6)) hD, hi', ?_⟩⟩⟩⟩
    · show (figT p.1).length + 1 ≤ sizeLine
      rw [sizeLine_eq]; omega
    · rw [l3, sizeLine_eq]; omega
    · rw [List.take_add_one, hp, List.map_append, List.map_append]; rfl
  rintro ys H4 ⟨s4, _, rfl⟩ hD4
  rw [List.take_length] at hD4
  refine ⟨q, D, [.str (digT c)], (ps.map wordT).map V.str, rfl, rfl, s4 _ _ hq3, hD4, by rw [List.length_map, List.length_map, sizeLine_eq]; show 1 + ps.length ≤ _; omega, fun d hd => ?_⟩
  have hw13 : ∀ s ∈ digT c :: ps.map wordT, s.length ≤ 13 := fun s hs => by
    rcases List.mem_cons.mp hs with rfl | hs
    · have := dig_len c (by omega)
      omega
    · obtain ⟨r, hr', rfl⟩ := List.mem_map.mp hs
      have hb := hps r hr'
      exact word_le (by omega) (by omega)
  refine ⟨Str.ofString "; ", d, digT c :: ps.map wordT, rfl, rfl, upd_same, fun y hy => Nat.le_trans (hw13 y hy) (by decide), by rw [List.length_cons, List.length_map]; omega, by decide, ?_⟩
  have hLt : (textT c ps).length ≤ 300 := by
    have z := join_le (y := Str.ofString "; ") (n := 8) hw13 (by rw [List.length_map]; exact hpl) (by decide)
    exact Nat.le_trans z (by decide)
  have et : Str.join (Str.ofString "; ") (digT c :: ps.map wordT) = textT c ps := rfl
  rw [et]
  have s5 : Same H4 (upd H4 d (.lst ([.str (digT c)] ++ (ps.map wordT).map V.str))) := Same.new hd
  show tSeq _ _ _ _ (upd H4 d (.lst ([.str (digT c)] ++ (ps.map wordT).map V.str)))
  generalize upd H4 d (.lst ([.str (digT c)] ++ (ps.map wordT).map V.str)) = H5 at s5 ⊢
  generalize htx : textT c ps = tx at hLt et ⊢
  have hP5 : PrsAt H5 l ps := hP.same (s3.trans (s4.trans s5))
  -- written
  refine ⟨_, rfl, _, rfl, fun x dx nx ndx nex => ?_⟩
  have s6' : Same H5 (upd (upd H5 dx (.own x)) x (.ins A.c_Rules dx [])) := Same.up (Same.new ndx) nx
  refine ⟨x, dx, l, c, ps, rfl, upd_same, hP5.same s6', hG, fun m H6 hm hR kp => ⟨rfl, ?_⟩⟩
  have s6 : Same H5 H6 := fun b o e => kp b o (s6' b o e) (ne_of_none e nx)
  refine ⟨x, m, c, ps, rfl, hR, hG, fun H7 s7 => ⟨_, rfl, rfl, _, rfl, ?_⟩⟩
  rw [htx]
  refine ite2 (fun e => absurd e (by simp)) (fun _ => ?_)
  have s27 : Same H2 H7 := s3.trans (s4.trans (s5.trans (s6.trans s7)))
  have hS7 : SqL K H7 a (ns.map V.int) := (s2.trans s27).seq hS1
  clear nx ndx nex s6' kp hR hm hP5 s6 s7 hq3 hD4 hw13
  generalize H7 = H0 at hS7 s27
  -- the texts
  refine ⟨trivial, fun v H8 s8 dy => ?_⟩
  obtain ⟨t1, xs1, rfl, ht1, hdx1⟩ := dy.lst'
  have hx1 : xs1.length = 13 := hdx1.len
  obtain ⟨ss1, rfl, hss1⟩ := dys_le (n := 20) hdx1 rfl
  rw [List.length_map] at hx1
  clear dy hdx1
  refine ⟨_, rfl, _, rfl, by show 9 ≤ sizeLine; decide, fun q2 hq2 => ?_⟩
  obtain ⟨ss2, e2, hss2, hln2⟩ : ∃ ss2 : List Str, [V.str (Str.ofString "3; 0>1>2"), V.str (Str.ofString "3; 0-1"), V.str (Str.ofString "3; 01>2; "), V.str (Str.ofString "3; 0 1>2"), V.str (Str.ofString "03; 0>1"), V.str (Str.ofString "3 ; 0>1"), V.str (Str.ofString "3; 0>1\n"), V.str (Str.ofString "3; -0>1"), V.str tx] = ss2.map V.str ∧ (∀ s ∈ ss2, s.length ≤ 300) ∧ ss2.length = 9 := by
    refine ⟨[Str.ofString "3; 0>1>2", Str.ofString "3; 0-1", Str.ofString "3; 01>2; ", Str.ofString "3; 0 1>2", Str.ofString "03; 0>1", Str.ofString "3 ; 0>1", Str.ofString "3; 0>1\n", Str.ofString "3; -0>1"] ++ [tx], rfl, fun s hs => ?_, rfl⟩
    rcases List.mem_append.mp hs with hs | hs
    · have z : ([Str.ofString "3; 0>1>2", Str.ofString "3; 0-1", Str.ofString "3; 01>2; ", Str.ofString "3; 0 1>2", Str.ofString "03; 0>1", Str.ofString "3 ; 0>1", Str.ofString "3; 0>1\n", Str.ofString "3; -0>1"].all fun s => Nat.ble s.length 300) = true := by decide +kernel
      exact Nat.le_of_ble_eq_true (List.all_eq_true.mp z s hs)
    · rw [List.mem_singleton.mp hs]; exact hLt
  refine ⟨t1, q2, _, _, rfl, rfl, (Same.new hq2) _ _ ht1, upd_same, ?_, fun t2 ht2 => ?_⟩
  · rw [List.length_map, hx1, sizeLine_eq]; show 13 + 9 ≤ _; omega
  rw [e2] at ht2 ⊢
  have s9 : Same H8 (upd (upd H8 q2 (.lst (ss2.map V.str))) t2 (.lst (ss1.map V.str ++ ss2.map V.str))) := (Same.new hq2).trans (Same.new ht2)
  have h92 : (upd (upd H8 q2 (.lst (ss2.map V.str))) t2 (.lst (ss1.map V.str ++ ss2.map V.str))) t2 = some (.lst ((ss1 ++ ss2).map V.str)) := by rw [upd_same, List.map_append]
  generalize upd (upd H8 q2 (.lst (ss2.map V.str))) t2 (.lst (ss1.map V.str ++ ss2.map V.str)) = H9 at s9 h92 ⊢
  have hS9 : SqL K H9 a (ns.map V.int) := (s8.trans s9).seq hS7
  -- the joined ones
  refine ⟨_, rfl, rfl, by show 1 ≤ sizeLine; decide, fun qa hqa => ⟨trivial, fun va Ha sa dya => ?_⟩⟩
  obtain ⟨la, xsa, rfl, hla, hdxa⟩ := dya.lst'
  have hxa : xsa.length = 64 := hdxa.len.trans rep_len.1
  obtain ⟨ssa, rfl, hssa⟩ := dys_le (n := 3) hdxa rep_le.1
  rw [List.length_map] at hxa
  refine ⟨qa, la, [.str (Str.ofString "1")], ssa.map V.str, rfl, rfl, sa _ _ upd_same, hla, by rw [List.length_map, hxa, sizeLine_eq]; show 1 + 64 ≤ _; omega, fun da hda => ?_⟩
  have hba : ∀ s ∈ Str.ofString "1" :: ssa, s.length ≤ 3 := fun s hs => by
    rcases List.mem_cons.mp hs with rfl | hs
    · decide
    · exact hssa s hs
  have hja : (Str.join (Str.ofString "; ") (Str.ofString "1" :: ssa)).length ≤ 900 := Nat.le_trans (join_le (n := 65) hba (by omega) (by decide)) (by decide)
  refine ⟨Str.ofString "; ", da, Str.ofString "1" :: ssa, rfl, rfl, upd_same, fun y hy => Nat.le_trans (hba y hy) (by decide), by rw [List.length_cons, hxa]; decide, by decide, ?_⟩
  generalize Str.join (Str.ofString "; ") (Str.ofString "1" :: ssa) = ja at hja ⊢
  have sA : Same H9 (upd Ha da (.lst ([.str (Str.ofString "1")] ++ ssa.map V.str))) := ((Same.new hqa).trans sa).trans (Same.new hda)
  generalize upd Ha da (.lst ([.str (Str.ofString "1")] ++ ssa.map V.str)) = HA at sA ⊢
  refine ⟨rfl, by show 1 ≤ sizeLine; decide, fun qb hqb => ⟨trivial, fun vb Hb sb dyb => ?_⟩⟩
  obtain ⟨lb, xsb, rfl, hlb, hdxb⟩ := dyb.lst'
  have hxb : xsb.length = 65 := hdxb.len.trans rep_len.2
  obtain ⟨ssb, rfl, hssb⟩ := dys_le (n := 3) hdxb rep_le.2
  rw [List.length_map] at hxb
  refine ⟨qb, lb, [.str (Str.ofString "1")], ssb.map V.str, rfl, rfl, sb _ _ upd_same, hlb, by rw [List.length_map, hxb, sizeLine_eq]; show 1 + 65 ≤ _; omega, fun db hdb => ?_⟩
  have hbb : ∀ s ∈ Str.ofString "1" :: ssb, s.length ≤ 3 := fun s hs => by
    rcases List.mem_cons.mp hs with rfl | hs
    · decide
    · exact hssb s hs
  have hjb : (Str.join (Str.ofString "; ") (Str.ofString "1" :: ssb)).length ≤ 900 := Nat.le_trans (join_le (n := 65) hbb (by omega) (by decide)) (by decide)
  refine ⟨Str.ofString "; ", db, Str.ofString "1" :: ssb, rfl, rfl, upd_same, fun y hy => Nat.le_trans (hbb y hy) (by decide), by rw [List.length_cons, hxb]; decide, by decide, ?_⟩
  generalize Str.join (Str.ofString "; ") (Str.ofString "1" :: ssb) = jb at hjb ⊢
  have sB : Same HA (upd Hb db (.lst ([.str (Str.ofString "1")] ++ ssb.map V.str))) := ((Same.new hqb).trans sb).trans (Same.new hdb)
  generalize upd Hb db (.lst ([.str (Str.ofString "1")] ++ ssb.map V.str)) = HB at sB ⊢
  refine ⟨by show 2 ≤ sizeLine; decide, fun q3 hq3 => ?_⟩
  refine ⟨t2, q3, (ss1 ++ ss2).map V.str, [.str ja, .str jb], rfl, rfl, (Same.new hq3) _ _ (sB _ _ (sA _ _ h92)), upd_same, by rw [List.length_map, List.length_append, hx1, hln2, sizeLine_eq]; show 13 + 9 + 2 ≤ _; omega, fun t3 ht3 => ?_⟩
  have sC0 : Same H9 (upd HB q3 (.lst [.str ja, .str jb])) := (sA.trans sB).trans (Same.new hq3)
  have hS3 : SqL K (upd HB q3 (.lst [.str ja, .str jb])) a (ns.map V.int) := sC0.seq hS9
  generalize upd HB q3 (.lst [.str ja, .str jb]) = HC at ht3 hS3 ⊢
  obtain ⟨sg, esg, hsgl, hsgn⟩ : ∃ sg : List Str, (ss1 ++ ss2).map V.str ++ [.str ja, .str jb] = sg.map V.str ∧ (∀ s ∈ sg, s.length ≤ 900) ∧ sg.length = 24 := by
    refine ⟨(ss1 ++ ss2) ++ [ja, jb], by simp, fun s hs => ?_, by rw [List.length_append, List.length_append, hx1, hln2]; rfl⟩
    rcases List.mem_append.mp hs with hs | hs
    · rcases List.mem_append.mp hs with hs | hs
      · exact Nat.le_trans (hss1 s hs) (by decide)
      · exact Nat.le_trans (hss2 s hs) (by decide)
    · rcases List.mem_cons.mp hs with rfl | hs
      · exact hja
      · rw [List.mem_singleton.mp hs]; exact hjb
  rw [esg]
  -- five others
  refine ⟨5, rfl, by decide, by decide, ?_⟩
  refine for_range (lo := 0) (n := 5) (fun i σ' H' => Same HC H' ∧ (∃ sg' : List Str, H' t3 = some (.lst (sg'.map V.str)) ∧ (∀ s ∈ sg', s.length ≤ 900) ∧ sg'.length ≤ 24 + i) ∧ ∃ kv : Option V, σ' = [some (.ref a), some (.int (c : Nat)), some (.ref l), some (.str tx), some (.ref t3), kv, none, none, none, none, none]) ⟨Same.new ht3, ⟨sg, upd_same, hsgl, by omega⟩, none, rfl⟩ ?_ ?_
  · rintro i σ' H' hi ⟨se, ⟨sg', hsg, hsl, hsn⟩, kv, rfl⟩
    rw [Int.zero_add]
    refine ⟨_, rfl, .inl ⟨rfl, _, SqL.of hsg⟩, _, rfl, _, rfl, _, rfl, 2, (i : Int), rfl, rfl, a, ns, 2 + i, rfl, se.seq hS3, fun y0 => ⟨_, rfl, 31, (i : Int), rfl, rfl, .inl ⟨by decide, by decide⟩, _, _, rfl, rfl, tx, _, rfl, hLt, fun t' H'' hl' s'' => ?_⟩⟩
    refine ⟨t3, sg'.map V.str, .str t', rfl, rfl, s'' _ _ hsg, small1000 (by rw [List.length_map]; omega), ?_⟩
    refine ⟨Same.up (se.trans s'') ht3, ⟨sg' ++ [t'], by rw [upd_same, List.map_append]; rfl, fun s hs => ?_, by rw [List.length_append]; show sg'.length + 1 ≤ _; omega⟩, _, rfl⟩
    rcases List.mem_append.mp hs with hs | hs
    · exact hsl s hs
    · rw [List.mem_singleton.mp hs]; exact hl'
  rintro σ' HD ⟨sD, ⟨sg', hsg, hsl, hsn⟩, kv, rfl⟩
  have hSD : SqL K HD a (ns.map V.int) := sD.seq hS3
  -- each text
  refine ⟨_, rfl, t3, rfl, ⟨_, SqL.of hsg⟩, for_list (K := K) (a := t3) (xs := sg'.map V.str) (fun i σ' H' => Same HD H' ∧ ∃ o5 o6 o7 o8 o9 : Option V, σ' = [some (.ref a), some (.int (c : Nat)), some (.ref l), some (.str tx), some (.ref t3), o5, o6, o7, o8, o9, none]) ⟨Same.refl _, kv, none, none, none, none, rfl⟩ (fun i σ' H' _ ⟨e, _⟩ => SqL.of (e _ _ hsg)) ?_ ?_⟩
  · rintro i v σ' H' hx ⟨se, o5, o6, o7, o8, o9, rfl⟩
    rw [List.getElem?_map] at hx
    cases hw : sg'[i]? with
    | none => rw [hw] at hx; cases hx
    | some sx =>
    rw [hw] at hx
    cases hx
    have hsx := hsl sx (List.mem_of_getElem? hw)
    refine ⟨_, rfl, sx, rfl, hsx, fun hin HE sE => ?_, fun c' ps' hin tp' l' HE htp' sE hH hP' => ?_⟩
    · refine ⟨_, rfl, .str sx, rfl, .inr ⟨.inr ⟨sx, rfl, hsx, hin⟩, fun tq HF htq sF hF => ?_⟩⟩
      refine ⟨tq, _, rfl, SqT.of hF, rfl, _, _, rfl, _, _, rfl, rfl, ?_⟩
      refine ⟨_, rfl, by show 2 ≤ sizeLine; decide, fun q7 hq7 => ⟨_, rfl, rfl, .inr ⟨_, rfl, q7, _, 1, .str (Str.ofString "refused"), rfl, rfl, SqL.of upd_same, rfl, rfl, _, rfl, ?_⟩⟩⟩
      refine ite2 (fun e => absurd e (by simp)) (fun _ => ?_)
      refine ⟨_, rfl, _, rfl, .none, .none, .non, .non, rfl, rfl, by decide, ?_⟩
      refine ⟨false, rfl, iteF ?_⟩
      refine ⟨_, rfl, rfl, false, rfl, iteF ?_⟩
      exact ⟨se.trans (sE.trans (sF.trans (Same.new hq7))), _, _, _, _, _, rfl⟩
    · obtain ⟨etx, hc1', hc6', hpl', hps'⟩ := inT_some hin
      have hG' : Good c' ps' := ⟨hc1', hc6', hpl', hps'⟩
      refine ⟨_, rfl, .str sx, rfl, .inl ⟨sx, c', ps', rfl, hsx, hin, fun tq tr lr HF htq sF hF hFr hPr => ?_⟩⟩
      refine ⟨tq, _, rfl, SqT.of hF, rfl, _, _, rfl, _, _, rfl, rfl, ?_⟩
      refine ⟨_, rfl, by show 2 ≤ sizeLine; decide, fun q7 hq7 => ⟨_, rfl, rfl, .inr ⟨_, rfl, q7, _, 0, .str (Str.ofString "made"), rfl, rfl, SqL.of upd_same, rfl, rfl, _, rfl, ?_⟩⟩⟩
      refine ite2 (fun e => absurd e (by simp)) (fun _ => ?_)
      have s7 : Same HF (upd HF q7 (.lst [.str (Str.ofString "made"), .str (Str.ofString "refused")])) := Same.new hq7
      generalize upd HF q7 (.lst [.str (Str.ofString "made"), .str (Str.ofString "refused")]) = HG at s7 ⊢
      have hH7 := s7 _ _ (sF _ _ hH)
      have hP7 := hP'.same (sF.trans s7)
      have d1 : Dt HG (.ref tr) (.tuple [.int ((c' : Nat) : Int), .list (ps'.map pairD)]) := .tup (s7 _ _ hFr) (.cons (.int _) (.cons (prs_dt (hPr.same s7)) .nil))
      have d2 : Dt HG (.ref tp') (.tuple [.int ((c' : Nat) : Int), .list (ps'.map pairD)]) := .tup hH7 (.cons (.int _) (.cons (prs_dt hP7) .nil))
      have lay : (PyData.tuple [.int ((c' : Nat) : Int), .list (ps'.map pairD)]).canLay0 = true := by
        show (true && (PyData.canLayAll0 (ps'.map pairD) && true)) = true
        rw [lay_pairs]; rfl
      have dep : (PyData.tuple [.int ((c' : Nat) : Int), .list (ps'.map pairD)]).depth ≤ 60 := by
        show max 0 (max (PyData.depthAll (ps'.map pairD) + 1) 0) + 1 ≤ 60
        have := depth_pairs ps'
        omega
      have eqv : (if true = true then !PyData.eqv (.tuple [.int ((c' : Nat) : Int), .list (ps'.map pairD)]) (.tuple [.int ((c' : Nat) : Int), .list (ps'.map pairD)]) else PyData.eqv (.tuple [.int ((c' : Nat) : Int), .list (ps'.map pairD)]) (.tuple [.int ((c' : Nat) : Int), .list (ps'.map pairD)])) = false := by
        rw [if_pos rfl]
        show (!(((c' : Int) == (c' : Int)) && (PyData.eqvAll (ps'.map pairD) (ps'.map pairD) && true))) = false
        rw [eqv_pairs, beq_self_eq_true]; rfl
      refine ⟨_, rfl, _, rfl, _, _, d1, d2, lay, lay, dep, ?_⟩
      rw [eqv]
      refine ⟨false, rfl, iteF ?_⟩
      refine ⟨_, rfl, rfl, true, rfl, iteT ?_⟩
      refine ⟨_, rfl, tp', _, 0, _, rfl, rfl, SqT.of hH7, rfl, _, rfl, tp', _, 1, _, rfl, rfl, SqT.of hH7, rfl, fun x2 dx2 nx2 ndx2 nex2 => ?_⟩
      have s8' : Same HG (upd (upd HG dx2 (.own x2)) x2 (.ins A.c_Rules dx2 [])) := Same.up (Same.new ndx2) nx2
      refine ⟨x2, dx2, l', c', ps', rfl, upd_same, hP7.same s8', hG', fun m2 HH hm2 hR2 kp2 => ⟨rfl, ?_⟩⟩
      have s8b : Same HG HH := fun b o e => kp2 b o (s8' b o e) (ne_of_none e nx2)
      refine ⟨x2, m2, c', ps', rfl, hR2, hG', fun HI sI => ⟨_, rfl, rfl, _, rfl, ?_⟩⟩
      rw [etx]
      refine ite2 (fun e => absurd e (by simp)) (fun _ => ?_)
      exact ⟨se.trans (sE.trans (sF.trans (s7.trans (s8b.trans sI)))), _, _, _, _, _, rfl⟩
  rintro σ' HE ⟨sE, o5, o6, o7, o8, o9, rfl⟩
  have hSE : SqL K HE a (ns.map V.int) := sE.seq hSD
  -- no texts
  refine ⟨by show 1 ≤ sizeLine; decide, fun u1 hu1 => ⟨by show 1 ≤ sizeLine; decide, fun u2 hu2 => ⟨by show 5 ≤ sizeLine; decide, fun u3 hu3 => ?_⟩⟩⟩
  have sU : Same HE (upd (upd (upd HE u1 (.lst [.str (Str.ofString "3")])) u2 (.tup [.int 3])) u3 (.lst [.non, .int 5, .ref u1, .ref u2, .bl true])) := (Same.new hu1).trans ((Same.new hu2).trans (Same.new hu3))
  have g1 : (upd (upd (upd HE u1 (.lst [.str (Str.ofString "3")])) u2 (.tup [.int 3])) u3 (.lst [.non, .int 5, .ref u1, .ref u2, .bl true])) u1 = some (.lst [.str (Str.ofString "3")]) := (Same.new hu3) _ _ ((Same.new hu2) _ _ upd_same)
  have g2 : (upd (upd (upd HE u1 (.lst [.str (Str.ofString "3")])) u2 (.tup [.int 3])) u3 (.lst [.non, .int 5, .ref u1, .ref u2, .bl true])) u2 = some (.tup [.int 3]) := (Same.new hu3) _ _ upd_same
  have g3 : (upd (upd (upd HE u1 (.lst [.str (Str.ofString "3")])) u2 (.tup [.int 3])) u3 (.lst [.non, .int 5, .ref u1, .ref u2, .bl true])) u3 = some (.lst [.non, .int 5, .ref u1, .ref u2, .bl true]) := upd_same
  generalize (upd (upd (upd HE u1 (.lst [.str (Str.ofString "3")])) u2 (.tup [.int 3])) u3 (.lst [.non, .int 5, .ref u1, .ref u2, .bl true])) = HJ at sU g1 g2 g3 ⊢
  refine ⟨_, rfl, a, ns, 7, rfl, sU.seq hSE, fun x7 => ⟨x7, 5, rfl, rfl, (by show (0 : Int) < 5; decide), ?_⟩⟩
  obtain ⟨bv, ty, hat, hty, hkit⟩ : ∃ (bv : V) (ty : Value), atI [V.non, V.int 5, V.ref u1, V.ref u2, V.bl true] (x7 % 5) = some bv ∧ TyOf K HJ bv ty ∧ PySem.W.kitOne K ty (.type "str") = some false := by
    have h : x7 % 5 = 0 ∨ x7 % 5 = 1 ∨ x7 % 5 = 2 ∨ x7 % 5 = 3 ∨ x7 % 5 = 4 := by omega
    rcases h with h | h | h | h | h <;> rw [h]
    · exact ⟨_, _, rfl, .non, kit_non_str⟩
    · exact ⟨_, _, rfl, .int 5, kit_int_str⟩
    · exact ⟨_, _, rfl, .lst g1, kit_list_str⟩
    · exact ⟨_, _, rfl, .tup g2, kit_tuple_str⟩
    · exact ⟨_, _, rfl, .bl true, kit_bool_str⟩
  refine ⟨u3, _, x7 % 5, _, rfl, rfl, SqL.of g3, hat, ?_⟩
  refine ⟨_, rfl, bv, rfl, .inr ⟨.inl ⟨ty, hty, hkit⟩, fun tq HK htq sK hK => ⟨tq, _, 0, _, rfl, rfl, SqT.of hK, rfl, rfl, ?_⟩⟩⟩
  rw [decide_eq_true rfl]
  exact k _

end
end K13

namespace K13
open PySem L2 TC
def sp_law (K : PySem.W.Frag) : Sp := fun vs H Q _ => ∃ (a : Addr) (ns : List Int), vs = [.ref a] ∧ SqL K H a (ns.map V.int) ∧ ns.length ≤ 63 ∧ ∀ H', Q (.bl true) H'
section
variable {P : Program} {w : World} {K : PySem.W.Frag} {mg : Str → Option Value} {base : Heap} {A : Adr}
theorem ok_law (T : Txt K mg A) : FnOk P w K mg base CX0 16 A.f_law A.d_law ["_law_script"] (sp_law K) := by
  have G_law_cell_at := ok_law_cell_at (P := P) (w := w) (base := base) T
  have G_law_pairs := ok_law_pairs (P := P) (w := w) (base := base) T
  have G_law_word := ok_law_word (P := P) (w := w) (base := base) T
  have G_law_other := ok_law_other (P := P) (w := w) (base := base) T
  have G_law_in := ok_law_in (P := P) (w := w) (base := base) T
  have G_law_asked := ok_law_asked (P := P) (w := w) (base := base) T
  have G_written := ok_written (P := P) (w := w) (base := base) T
  have G_Rules_init := ok_Rules_init (P := P) (w := w) (base := base) T
  refine T.F_law.ok sc_law (fun vs H Q E h => ?_) (fun cdv A' outer s H vs Q E hr h => ?_)
  · obtain ⟨a, ns, rfl, _⟩ := h; rfl
  · obtain ⟨a, ns, rfl, hS, hlen, k⟩ := h
    refine ⟨_, (PSso.out (psso_cons (PSo.mk (ps_set (i := 1) sc_law.nd rfl (Or.inl rfl) (pe_ix (ix_tupK K) (pe_tup (pa_cons pe_int (pa_cons pe_int (pa_cons pe_int (pa_cons pe_int (pa_cons pe_int (pa_cons pe_int (pa_cons pe_int (pa_cons pe_int pa_nil))))))))) (pe_op op_mod (pe_call G_law_cell_at (hr.mono (by decide)) rfl T.m_law_cell_at T.F_law_cell_at.kp T.b_law_cell_at .nil pass0 (pa_cons (pv 0) (pa_cons pe_int pa_nil))) pe_int) (fun _ _ => rfl))))
      (psso_cons (PSo.mk (ps_set (i := 2) sc_law.nd rfl (Or.inl rfl) (pe_call G_law_pairs (hr.mono (by decide)) rfl T.m_law_pairs T.F_law_pairs.kp T.b_law_pairs .nil pass0 (pa_cons (pe_call G_law_cell_at (hr.mono (by decide)) rfl T.m_law_cell_at T.F_law_cell_at.kp T.b_law_cell_at .nil pass0 (pa_cons (pv 0) (pa_cons pe_int pa_nil))) (pa_cons (pv 1) (pa_cons pe_int pa_nil))))))
      (psso_cons (PSo.mk (ps_set (i := 3) sc_law.nd rfl (Or.inl rfl) (pe_joinK K pe_str (pa_cons (pe_op op_cat (pe_lst (pa_cons (pe_callTy call_str_int rfl T.z_str bt_str (pa_cons (pv 1) pa_nil)) pa_nil)) (pe_comp ["_law_script", "_law_columns", "_law_pairs_here", "_law_text", "_law_texts", "_law_k", "_law_some", "_law_due", "_law_came", "_law_found", "_law_bad"] (defScope s_law) ["_law_left", "_law_right"] [none, none] ⟨rfl, by decide +kernel, by decide +kernel, by decide +kernel, by decide +kernel, by decide +kernel⟩ rfl (pi_listK K (pv 2)) (fun _ _ _ _ _ => pg_tupK K (n := 2) rfl (pgs_cons (pg_name (i := 0) (by show List.Nodup (["_law_left", "_law_right"] : List Str); decide +kernel) rfl (Or.inl rfl) (Or.inr rfl)) (pgs_cons (pg_name (i := 1) (by show List.Nodup (["_law_left", "_law_right"] : List Str); decide +kernel) rfl (Or.inl rfl) (Or.inr rfl)) pgs_nil))) (fun _ _ _ _ _ => pts_nil) (fun _ _ _ _ _ => (pe_op op_add_str (pe_op op_add_str (pe_call G_law_word (hr.mono (by decide)) rfl T.m_law_word T.F_law_word.kp T.b_law_word .nil pass0 (pa_cons (pv 0) pa_nil)) pe_str) (pe_call G_law_word (hr.mono (by decide)) rfl T.m_law_word T.F_law_word.kp T.b_law_word .nil pass0 (pa_cons (pv 1) pa_nil)))))) pa_nil))))
      (psso_cons (PSo.mk (ps_if (pt_cmpR op_ne (pe_call G_written (hr.mono (by decide)) rfl T.m_written T.F_written.kp T.b_written .nil pass0 (pa_cons (pe_make T.mk_Rules G_Rules_init (hr.mono (by decide)) rfl T.m_Rules T.b_Rules_init .nil pass0 (pa_cons (pv 1) (pa_cons (pv 2) pa_nil))) pa_nil)) (pv 3) (nomark _)) (pss_one (ps_ret pe_bl)) pss_nil))
      (psso_cons (pso_setD (i := 4) sc_law.nd rfl (Or.inl rfl) (pd_lst (c0 := fun _ => True) (pda_cons pd_str (pda_cons pd_str (pda_cons pd_str (pda_cons pd_str (pda_cons pd_str (pda_cons pd_str (pda_cons pd_str (pda_cons pd_str (pda_cons pd_str (pda_cons pd_str (pda_cons pd_str (pda_cons pd_str (pda_cons pd_str pda_nil)))))))))))))))
      (psso_cons (PSo.mk (ps_set (i := 4) sc_law.nd rfl (Or.inl rfl) (pdo_cat (pv 4) (peo_lst (pao_cons peo_str (pao_cons peo_str (pao_cons peo_str (pao_cons peo_str (pao_cons peo_str (pao_cons peo_str (pao_cons peo_str (pao_cons peo_str (pao_cons (PEo.mk (pv 3)) pao_nil)))))))))))))
      (psso_cons (PSo.mk (ps_set (i := 4) sc_law.nd rfl (Or.inl rfl) (pe_op op_cat (pv 4) (pe_lst (pa_cons (pe_joinK K pe_str (pa_cons (pe_op op_cat (pe_lst (pa_cons pe_str pa_nil)) (PEo.out (pd_rep (c0 := fun _ => True) (n := 64) (pd_lst (pda_cons pd_str pda_nil))))) pa_nil)) (pa_cons (pe_joinK K pe_str (pa_cons (pe_op op_cat (pe_lst (pa_cons pe_str pa_nil)) (PEo.out (pd_rep (c0 := fun _ => True) (n := 65) (pd_lst (pda_cons pd_str pda_nil))))) pa_nil)) pa_nil))))))
      (psso_cons (PSo.mk (ps_for PassesOwn.never rfl (pi_range1 rfl T.z_range (pa_cons pe_int pa_nil)) (pg_name (i := 5) sc_law.nd rfl (Or.inl rfl))
      (pss_one (ps_expr (pe_appendK K (pv 4) (pa_cons (pe_call G_law_other (hr.mono (by decide)) rfl T.m_law_other T.F_law_other.kp T.b_law_other .nil pass0 (pa_cons (pv 3) (pa_cons (pe_op op_add (pe_call G_law_cell_at (hr.mono (by decide)) rfl T.m_law_cell_at T.F_law_cell_at.kp T.b_law_cell_at .nil pass0 (pa_cons (pv 0) (pa_cons (pe_op op_add pe_int (pv 5)) pa_nil))) (pe_op op_mul pe_int (pv 5))) pa_nil))) pa_nil))))))
      (psso_cons (PSo.mk (ps_for PassesOwn.never rfl (pi_listK K (pv 4)) (pg_name (i := 6) sc_law.nd rfl (Or.inl rfl))
      (pss_cons (ps_set (i := 7) sc_law.nd rfl (Or.inl rfl) (pe_call G_law_in (hr.mono (by decide)) rfl T.m_law_in T.F_law_in.kp T.b_law_in .nil pass0 (pa_cons (pv 6) pa_nil)))
      (pss_cons (ps_asg (pe_call G_law_asked (hr.mono (by decide)) rfl T.m_law_asked T.F_law_asked.kp T.b_law_asked .nil pass0 (pa_cons (pv 6) pa_nil)) (pg_tupK K (n := 2) rfl (pgs_cons (pg_name (i := 8) sc_law.nd rfl (Or.inl rfl)) (pgs_cons (pg_name (i := 9) sc_law.nd rfl (Or.inl rfl)) pgs_nil))))
      (pss_cons (ps_if (PW.pt (pw_or (pt_cmpR op_ne (pv 8) (pe_ix (ix_listK K) (pe_lst (pa_cons pe_str (pa_cons pe_str pa_nil))) (pe_callTy call_int1 rfl T.z_int bt_int (pa_cons (pe_cmpR op_isN (pv 7) pe_non (nomark _)) pa_nil)) (fun _ _ => rfl)) (nomark _)) (pw_or1 (pt_cmpR (op_neD hr.units) (pv 9) (pv 7) (nomark _))))) (pss_one (ps_ret pe_bl)) pss_nil)
      (pss_one (ps_if (PW.pt (pw_and (pt_cmpR op_notN (pv 7) pe_non (nomark _)) (pw_and1 (pt_cmpR op_ne (pe_call G_written (hr.mono (by decide)) rfl T.m_written T.F_written.kp T.b_written .nil pass0 (pa_cons (pe_make T.mk_Rules G_Rules_init (hr.mono (by decide)) rfl T.m_Rules T.b_Rules_init .nil pass0 (pa_cons (pe_ix (ix_tupK K) (pv 7) pe_int (fun _ _ => rfl)) (pa_cons (pe_ix (ix_tupK K) (pv 7) pe_int (fun _ _ => rfl)) pa_nil))) pa_nil)) (pv 6) (nomark _))))) (pss_one (ps_ret pe_bl)) pss_nil)))))))
      (psso_cons (PSo.mk (ps_set (i := 10) sc_law.nd rfl (Or.inl rfl) (pe_ix (ix_listK K) (pe_lst (pa_cons pe_non (pa_cons pe_int (pa_cons (pe_lst (pa_cons pe_str pa_nil)) (pa_cons (pe_tup (pa_cons pe_int pa_nil)) (pa_cons pe_bl pa_nil)))))) (pe_op op_mod (pe_call G_law_cell_at (hr.mono (by decide)) rfl T.m_law_cell_at T.F_law_cell_at.kp T.b_law_cell_at .nil pass0 (pa_cons (pv 0) (pa_cons pe_int pa_nil))) pe_int) (fun _ _ => rfl))))
      (psso_one (PSo.mk (ps_ret (pe_cmpR op_eq (pe_ix (ix_tupK K) (pe_call G_law_asked (hr.mono (by decide)) rfl T.m_law_asked T.F_law_asked.kp T.b_law_asked .nil pass0 (pa_cons (pv 10) pa_nil)) pe_int (fun _ _ => rfl)) pe_str (nomark _)))))))))))))))), ?_⟩
    exact law_tree T hS hlen k
end
end K13

namespace K13
open PySem L2 TC
theorem all_mk {l : PySem.W.OpenLaw} {w : World} {K : PySem.W.Frag} {h : Heap} {mg : Str → Option Value} {fa C_Rules f_is_number f_is_list f_is_count f_all_columns f_is_set f_is_rule f_are_rules f_Rules_init f_Rules_rules f_written f_figures f_read f_sets_by_figures f_rule_in f_law_cell_at f_law_draw f_law_set f_law_pairs f_law_word f_law_in f_law_asked f_law_other f_law C_BadRules C_BadSet C_BadParts C_BadTable C_Unlike C_BadText C_TellError : Addr} (X : K.In h) (G : h.Ns mainGlobals mg) (hfa : mg "law" = some (.ref fa))
    (aC_Rules : PySem.W.nsIn K mainGlobals "Rules" = some (some (.ref C_Rules)))
    (a_is_number : PySem.W.nsIn K mainGlobals "is_number" = some (some (.ref f_is_number)))
    {od_is_number an_is_number : Option Addr} {sl_is_number : Array (Option Value)} {oc_is_number kV_is_number dc_is_number pm_is_number cd_is_number ct_is_number : Value}
    (l_is_number : K.lookup f_is_number = some ⟨oc_is_number, od_is_number, .func (PySem.W.fnOf "is_number" "is_number" (defArgs s_is_number) (defBody s_is_number) (defScope s_is_number) .none kV_is_number dc_is_number pm_is_number an_is_number cd_is_number ct_is_number), sl_is_number⟩)
    (c_is_number : PySem.W.codeIn K cd_is_number "is_number" = true)
    (k_is_number : PySem.W.keepIn K (.ref f_is_number) = true)
    (a_is_list : PySem.W.nsIn K mainGlobals "is_list" = some (some (.ref f_is_list)))
    {od_is_list an_is_list : Option Addr} {sl_is_list : Array (Option Value)} {oc_is_list kV_is_list dc_is_list pm_is_list cd_is_list ct_is_list : Value}
    (l_is_list : K.lookup f_is_list = some ⟨oc_is_list, od_is_list, .func (PySem.W.fnOf "is_list" "is_list" (defArgs s_is_list) (defBody s_is_list) (defScope s_is_list) .none kV_is_list dc_is_list pm_is_list an_is_list cd_is_list ct_is_list), sl_is_list⟩)
    (c_is_list : PySem.W.codeIn K cd_is_list "is_list" = true)
    (k_is_list : PySem.W.keepIn K (.ref f_is_list) = true)
    (a_is_count : PySem.W.nsIn K mainGlobals "is_count" = some (some (.ref f_is_count)))
    {od_is_count an_is_count : Option Addr} {sl_is_count : Array (Option Value)} {oc_is_count kV_is_count dc_is_count pm_is_count cd_is_count ct_is_count : Value}
    (l_is_count : K.lookup f_is_count = some ⟨oc_is_count, od_is_count, .func (PySem.W.fnOf "is_count" "is_count" (defArgs s_is_count) (defBody s_is_count) (defScope s_is_count) .none kV_is_count dc_is_count pm_is_count an_is_count cd_is_count ct_is_count), sl_is_count⟩)
    (c_is_count : PySem.W.codeIn K cd_is_count "is_count" = true)
    (k_is_count : PySem.W.keepIn K (.ref f_is_count) = true)
    (a_all_columns : PySem.W.nsIn K mainGlobals "all_columns" = some (some (.ref f_all_columns)))
    {od_all_columns an_all_columns : Option Addr} {sl_all_columns : Array (Option Value)} {oc_all_columns kV_all_columns dc_all_columns pm_all_columns cd_all_columns ct_all_columns : Value}
    (l_all_columns : K.lookup f_all_columns = some ⟨oc_all_columns, od_all_columns, .func (PySem.W.fnOf "all_columns" "all_columns" (defArgs s_all_columns) (defBody s_all_columns) (defScope s_all_columns) .none kV_all_columns dc_all_columns pm_all_columns an_all_columns cd_all_columns ct_all_columns), sl_all_columns⟩)
    (c_all_columns : PySem.W.codeIn K cd_all_columns "all_columns" = true)
    (k_all_columns : PySem.W.keepIn K (.ref f_all_columns) = true)
    (a_is_set : PySem.W.nsIn K mainGlobals "is_set" = some (some (.ref f_is_set)))
    {od_is_set an_is_set : Option Addr} {sl_is_set : Array (Option Value)} {oc_is_set kV_is_set dc_is_set pm_is_set cd_is_set ct_is_set : Value}
    (l_is_set : K.lookup f_is_set = some ⟨oc_is_set, od_is_set, .func (PySem.W.fnOf "is_set" "is_set" (defArgs s_is_set) (defBody s_is_set) (defScope s_is_set) .none kV_is_set dc_is_set pm_is_set an_is_set cd_is_set ct_is_set), sl_is_set⟩)
    (c_is_set : PySem.W.codeIn K cd_is_set "is_set" = true)
    (k_is_set : PySem.W.keepIn K (.ref f_is_set) = true)
    (a_is_rule : PySem.W.nsIn K mainGlobals "is_rule" = some (some (.ref f_is_rule)))
    {od_is_rule an_is_rule : Option Addr} {sl_is_rule : Array (Option Value)} {oc_is_rule kV_is_rule dc_is_rule pm_is_rule cd_is_rule ct_is_rule : Value}
    (l_is_rule : K.lookup f_is_rule = some ⟨oc_is_rule, od_is_rule, .func (PySem.W.fnOf "is_rule" "is_rule" (defArgs s_is_rule) (defBody s_is_rule) (defScope s_is_rule) .none kV_is_rule dc_is_rule pm_is_rule an_is_rule cd_is_rule ct_is_rule), sl_is_rule⟩)
    (c_is_rule : PySem.W.codeIn K cd_is_rule "is_rule" = true)
    (k_is_rule : PySem.W.keepIn K (.ref f_is_rule) = true)
    (a_are_rules : PySem.W.nsIn K mainGlobals "are_rules" = some (some (.ref f_are_rules)))
    {od_are_rules an_are_rules : Option Addr} {sl_are_rules : Array (Option Value)} {oc_are_rules kV_are_rules dc_are_rules pm_are_rules cd_are_rules ct_are_rules : Value}
    (l_are_rules : K.lookup f_are_rules = some ⟨oc_are_rules, od_are_rules, .func (PySem.W.fnOf "are_rules" "are_rules" (defArgs s_are_rules) (defBody s_are_rules) (defScope s_are_rules) .none kV_are_rules dc_are_rules pm_are_rules an_are_rules cd_are_rules ct_are_rules), sl_are_rules⟩)
    (c_are_rules : PySem.W.codeIn K cd_are_rules "are_rules" = true)
    (k_are_rules : PySem.W.keepIn K (.ref f_are_rules) = true)
    (a_Rules_init : PySem.W.findIn K (.ref C_Rules) "__init__" = some (some (.ref f_Rules_init)))
    (i_Rules_init : PySem.W.isFn K (.ref f_Rules_init) = true)
    {od_Rules_init an_Rules_init : Option Addr} {sl_Rules_init : Array (Option Value)} {oc_Rules_init kV_Rules_init dc_Rules_init pm_Rules_init cd_Rules_init ct_Rules_init : Value}
    (l_Rules_init : K.lookup f_Rules_init = some ⟨oc_Rules_init, od_Rules_init, .func (PySem.W.fnOf "__init__" "Rules.__init__" (defArgs s_Rules_init) (defBody s_Rules_init) (defScope s_Rules_init) .none kV_Rules_init dc_Rules_init pm_Rules_init an_Rules_init cd_Rules_init ct_Rules_init), sl_Rules_init⟩)
    (c_Rules_init : PySem.W.codeIn K cd_Rules_init "Rules.__init__" = true)
    (k_Rules_init : PySem.W.keepIn K (.ref f_Rules_init) = true)
    (a_Rules_rules : PySem.W.findIn K (.ref C_Rules) "rules" = some (some (.ref f_Rules_rules)))
    (i_Rules_rules : PySem.W.isFn K (.ref f_Rules_rules) = true)
    {od_Rules_rules an_Rules_rules : Option Addr} {sl_Rules_rules : Array (Option Value)} {oc_Rules_rules kV_Rules_rules dc_Rules_rules pm_Rules_rules cd_Rules_rules ct_Rules_rules : Value}
    (l_Rules_rules : K.lookup f_Rules_rules = some ⟨oc_Rules_rules, od_Rules_rules, .func (PySem.W.fnOf "rules" "Rules.rules" (defArgs s_Rules_rules) (defBody s_Rules_rules) (defScope s_Rules_rules) .none kV_Rules_rules dc_Rules_rules pm_Rules_rules an_Rules_rules cd_Rules_rules ct_Rules_rules), sl_Rules_rules⟩)
    (c_Rules_rules : PySem.W.codeIn K cd_Rules_rules "Rules.rules" = true)
    (k_Rules_rules : PySem.W.keepIn K (.ref f_Rules_rules) = true)
    (a_written : PySem.W.nsIn K mainGlobals "written" = some (some (.ref f_written)))
    {od_written an_written : Option Addr} {sl_written : Array (Option Value)} {oc_written kV_written dc_written pm_written cd_written ct_written : Value}
    (l_written : K.lookup f_written = some ⟨oc_written, od_written, .func (PySem.W.fnOf "written" "written" (defArgs s_written) (defBody s_written) (defScope s_written) .none kV_written dc_written pm_written an_written cd_written ct_written), sl_written⟩)
    (c_written : PySem.W.codeIn K cd_written "written" = true)
    (k_written : PySem.W.keepIn K (.ref f_written) = true)
    (a_figures : PySem.W.nsIn K mainGlobals "figures" = some (some (.ref f_figures)))
    {od_figures an_figures : Option Addr} {sl_figures : Array (Option Value)} {oc_figures kV_figures dc_figures pm_figures cd_figures ct_figures : Value}
    (l_figures : K.lookup f_figures = some ⟨oc_figures, od_figures, .func (PySem.W.fnOf "figures" "figures" (defArgs s_figures) (defBody s_figures) (defScope s_figures) .none kV_figures dc_figures pm_figures an_figures cd_figures ct_figures), sl_figures⟩)
    (c_figures : PySem.W.codeIn K cd_figures "figures" = true)
    (k_figures : PySem.W.keepIn K (.ref f_figures) = true)
    (a_read : PySem.W.nsIn K mainGlobals "read" = some (some (.ref f_read)))
    {od_read an_read : Option Addr} {sl_read : Array (Option Value)} {oc_read kV_read dc_read pm_read cd_read ct_read : Value}
    (l_read : K.lookup f_read = some ⟨oc_read, od_read, .func (PySem.W.fnOf "read" "read" (defArgs s_read) (defBody s_read) (defScope s_read) .none kV_read dc_read pm_read an_read cd_read ct_read), sl_read⟩)
    (c_read : PySem.W.codeIn K cd_read "read" = true)
    (k_read : PySem.W.keepIn K (.ref f_read) = true)
    (a_sets_by_figures : PySem.W.nsIn K mainGlobals "sets_by_figures" = some (some (.ref f_sets_by_figures)))
    {od_sets_by_figures an_sets_by_figures : Option Addr} {sl_sets_by_figures : Array (Option Value)} {oc_sets_by_figures kV_sets_by_figures dc_sets_by_figures pm_sets_by_figures cd_sets_by_figures ct_sets_by_figures : Value}
    (l_sets_by_figures : K.lookup f_sets_by_figures = some ⟨oc_sets_by_figures, od_sets_by_figures, .func (PySem.W.fnOf "sets_by_figures" "sets_by_figures" (defArgs s_sets_by_figures) (defBody s_sets_by_figures) (defScope s_sets_by_figures) .none kV_sets_by_figures dc_sets_by_figures pm_sets_by_figures an_sets_by_figures cd_sets_by_figures ct_sets_by_figures), sl_sets_by_figures⟩)
    (c_sets_by_figures : PySem.W.codeIn K cd_sets_by_figures "sets_by_figures" = true)
    (k_sets_by_figures : PySem.W.keepIn K (.ref f_sets_by_figures) = true)
    (a_rule_in : PySem.W.nsIn K mainGlobals "rule_in" = some (some (.ref f_rule_in)))
    {od_rule_in an_rule_in : Option Addr} {sl_rule_in : Array (Option Value)} {oc_rule_in kV_rule_in dc_rule_in pm_rule_in cd_rule_in ct_rule_in : Value}
    (l_rule_in : K.lookup f_rule_in = some ⟨oc_rule_in, od_rule_in, .func (PySem.W.fnOf "rule_in" "rule_in" (defArgs s_rule_in) (defBody s_rule_in) (defScope s_rule_in) .none kV_rule_in dc_rule_in pm_rule_in an_rule_in cd_rule_in ct_rule_in), sl_rule_in⟩)
    (c_rule_in : PySem.W.codeIn K cd_rule_in "rule_in" = true)
    (k_rule_in : PySem.W.keepIn K (.ref f_rule_in) = true)
    (a_law_cell_at : PySem.W.nsIn K mainGlobals "_law_cell_at" = some (some (.ref f_law_cell_at)))
    {od_law_cell_at an_law_cell_at : Option Addr} {sl_law_cell_at : Array (Option Value)} {oc_law_cell_at kV_law_cell_at dc_law_cell_at pm_law_cell_at cd_law_cell_at ct_law_cell_at : Value}
    (l_law_cell_at : K.lookup f_law_cell_at = some ⟨oc_law_cell_at, od_law_cell_at, .func (PySem.W.fnOf "_law_cell_at" "_law_cell_at" (defArgs s_law_cell_at) (defBody s_law_cell_at) (defScope s_law_cell_at) .none kV_law_cell_at dc_law_cell_at pm_law_cell_at an_law_cell_at cd_law_cell_at ct_law_cell_at), sl_law_cell_at⟩)
    (c_law_cell_at : PySem.W.codeIn K cd_law_cell_at "_law_cell_at" = true)
    (k_law_cell_at : PySem.W.keepIn K (.ref f_law_cell_at) = true)
    (a_law_draw : PySem.W.nsIn K mainGlobals "_law_draw" = some (some (.ref f_law_draw)))
    {od_law_draw an_law_draw : Option Addr} {sl_law_draw : Array (Option Value)} {oc_law_draw kV_law_draw dc_law_draw pm_law_draw cd_law_draw ct_law_draw : Value}
    (l_law_draw : K.lookup f_law_draw = some ⟨oc_law_draw, od_law_draw, .func (PySem.W.fnOf "_law_draw" "_law_draw" (defArgs s_law_draw) (defBody s_law_draw) (defScope s_law_draw) .none kV_law_draw dc_law_draw pm_law_draw an_law_draw cd_law_draw ct_law_draw), sl_law_draw⟩)
    (c_law_draw : PySem.W.codeIn K cd_law_draw "_law_draw" = true)
    (k_law_draw : PySem.W.keepIn K (.ref f_law_draw) = true)
    (a_law_set : PySem.W.nsIn K mainGlobals "_law_set" = some (some (.ref f_law_set)))
    {od_law_set an_law_set : Option Addr} {sl_law_set : Array (Option Value)} {oc_law_set kV_law_set dc_law_set pm_law_set cd_law_set ct_law_set : Value}
    (l_law_set : K.lookup f_law_set = some ⟨oc_law_set, od_law_set, .func (PySem.W.fnOf "_law_set" "_law_set" (defArgs s_law_set) (defBody s_law_set) (defScope s_law_set) .none kV_law_set dc_law_set pm_law_set an_law_set cd_law_set ct_law_set), sl_law_set⟩)
    (c_law_set : PySem.W.codeIn K cd_law_set "_law_set" = true)
    (k_law_set : PySem.W.keepIn K (.ref f_law_set) = true)
    (a_law_pairs : PySem.W.nsIn K mainGlobals "_law_pairs" = some (some (.ref f_law_pairs)))
    {od_law_pairs an_law_pairs : Option Addr} {sl_law_pairs : Array (Option Value)} {oc_law_pairs kV_law_pairs dc_law_pairs pm_law_pairs cd_law_pairs ct_law_pairs : Value}
    (l_law_pairs : K.lookup f_law_pairs = some ⟨oc_law_pairs, od_law_pairs, .func (PySem.W.fnOf "_law_pairs" "_law_pairs" (defArgs s_law_pairs) (defBody s_law_pairs) (defScope s_law_pairs) .none kV_law_pairs dc_law_pairs pm_law_pairs an_law_pairs cd_law_pairs ct_law_pairs), sl_law_pairs⟩)
    (c_law_pairs : PySem.W.codeIn K cd_law_pairs "_law_pairs" = true)
    (k_law_pairs : PySem.W.keepIn K (.ref f_law_pairs) = true)
    (a_law_word : PySem.W.nsIn K mainGlobals "_law_word" = some (some (.ref f_law_word)))
    {od_law_word an_law_word : Option Addr} {sl_law_word : Array (Option Value)} {oc_law_word kV_law_word dc_law_word pm_law_word cd_law_word ct_law_word : Value}
    (l_law_word : K.lookup f_law_word = some ⟨oc_law_word, od_law_word, .func (PySem.W.fnOf "_law_word" "_law_word" (defArgs s_law_word) (defBody s_law_word) (defScope s_law_word) .none kV_law_word dc_law_word pm_law_word an_law_word cd_law_word ct_law_word), sl_law_word⟩)
    (c_law_word : PySem.W.codeIn K cd_law_word "_law_word" = true)
    (k_law_word : PySem.W.keepIn K (.ref f_law_word) = true)
    (a_law_in : PySem.W.nsIn K mainGlobals "_law_in" = some (some (.ref f_law_in)))
    {od_law_in an_law_in : Option Addr} {sl_law_in : Array (Option Value)} {oc_law_in kV_law_in dc_law_in pm_law_in cd_law_in ct_law_in : Value}
    (l_law_in : K.lookup f_law_in = some ⟨oc_law_in, od_law_in, .func (PySem.W.fnOf "_law_in" "_law_in" (defArgs s_law_in) (defBody s_law_in) (defScope s_law_in) .none kV_law_in dc_law_in pm_law_in an_law_in cd_law_in ct_law_in), sl_law_in⟩)
    (c_law_in : PySem.W.codeIn K cd_law_in "_law_in" = true)
    (k_law_in : PySem.W.keepIn K (.ref f_law_in) = true)
    (a_law_asked : PySem.W.nsIn K mainGlobals "_law_asked" = some (some (.ref f_law_asked)))
    {od_law_asked an_law_asked : Option Addr} {sl_law_asked : Array (Option Value)} {oc_law_asked kV_law_asked dc_law_asked pm_law_asked cd_law_asked ct_law_asked : Value}
    (l_law_asked : K.lookup f_law_asked = some ⟨oc_law_asked, od_law_asked, .func (PySem.W.fnOf "_law_asked" "_law_asked" (defArgs s_law_asked) (defBody s_law_asked) (defScope s_law_asked) .none kV_law_asked dc_law_asked pm_law_asked an_law_asked cd_law_asked ct_law_asked), sl_law_asked⟩)
    (c_law_asked : PySem.W.codeIn K cd_law_asked "_law_asked" = true)
    (k_law_asked : PySem.W.keepIn K (.ref f_law_asked) = true)
    (a_law_other : PySem.W.nsIn K mainGlobals "_law_other" = some (some (.ref f_law_other)))
    {od_law_other an_law_other : Option Addr} {sl_law_other : Array (Option Value)} {oc_law_other kV_law_other dc_law_other pm_law_other cd_law_other ct_law_other : Value}
    (l_law_other : K.lookup f_law_other = some ⟨oc_law_other, od_law_other, .func (PySem.W.fnOf "_law_other" "_law_other" (defArgs s_law_other) (defBody s_law_other) (defScope s_law_other) .none kV_law_other dc_law_other pm_law_other an_law_other cd_law_other ct_law_other), sl_law_other⟩)
    (c_law_other : PySem.W.codeIn K cd_law_other "_law_other" = true)
    (k_law_other : PySem.W.keepIn K (.ref f_law_other) = true)
    (a_law : PySem.W.nsIn K mainGlobals "law" = some (some (.ref f_law)))
    {od_law an_law : Option Addr} {sl_law : Array (Option Value)} {oc_law kV_law dc_law pm_law cd_law ct_law : Value}
    (l_law : K.lookup f_law = some ⟨oc_law, od_law, .func (PySem.W.fnOf "law" "law" (defArgs s_law) (defBody s_law) (defScope s_law) .none kV_law dc_law pm_law an_law cd_law ct_law), sl_law⟩)
    (c_law : PySem.W.codeIn K cd_law "law" = true)
    (k_law : PySem.W.keepIn K (.ref f_law) = true)
    (pg_Rules : PySem.W.plainGet K C_Rules Str.empty = true)
    (hd_Rules : PySem.W.hasDictIn K C_Rules = true)
    (po_Rules : PySem.W.plainOver K C_Rules = true)
    (sa_Rules : PySem.W.findIn K (.ref C_Rules) "__setattr__" = some (some (.builtin "object.__setattr__")))
    (mk_Rules : PySem.W.makesIn K C_Rules = true)
    (kc_Rules : PySem.W.keepIn K (.ref C_Rules) = true)
    (na_Rules_columns : PySem.W.findIn K (.ref C_Rules) "columns" = some none)
    (na_Rules_pairs : PySem.W.findIn K (.ref C_Rules) "pairs" = some none)
    (aC_BadRules : PySem.W.nsIn K mainGlobals "BadRules" = some (some (.ref C_BadRules)))
    (aC_BadSet : PySem.W.nsIn K mainGlobals "BadSet" = some (some (.ref C_BadSet)))
    (aC_BadParts : PySem.W.nsIn K mainGlobals "BadParts" = some (some (.ref C_BadParts)))
    (aC_BadTable : PySem.W.nsIn K mainGlobals "BadTable" = some (some (.ref C_BadTable)))
    (aC_Unlike : PySem.W.nsIn K mainGlobals "Unlike" = some (some (.ref C_Unlike)))
    (aC_BadText : PySem.W.nsIn K mainGlobals "BadText" = some (some (.ref C_BadText)))
    (aC_TellError : PySem.W.nsIn K mainGlobals "TellError" = some (some (.ref C_TellError)))
    (t1_BadText : PySem.W.findIn K (.ref C_BadText) "__class__" = some (some (.builtin "object.__class__")))
    (t2_BadText : PySem.W.specialIn K (.builtin "object.__class__") "__get__" = some (some (.builtin "getset_descriptor.__get__")))
    (t3_BadText : PySem.W.takesIn K (.builtin "object.__class__") = some true)
    (t4_BadText : PySem.W.mroIn K C_BadText (.type "object") = some true)
    (ki_BadText_BadRules : PySem.W.kitOne K (.ref C_BadText) (.ref C_BadRules) = some false)
    (ki_BadText_BadSet : PySem.W.kitOne K (.ref C_BadText) (.ref C_BadSet) = some false)
    (ki_BadText_BadParts : PySem.W.kitOne K (.ref C_BadText) (.ref C_BadParts) = some false)
    (ki_BadText_BadTable : PySem.W.kitOne K (.ref C_BadText) (.ref C_BadTable) = some false)
    (ki_BadText_Unlike : PySem.W.kitOne K (.ref C_BadText) (.ref C_Unlike) = some false)
    (ki_BadText_BadText : PySem.W.kitOne K (.ref C_BadText) (.ref C_BadText) = some true)
    (xi_BadText : PySem.W.excIn K C_BadText [.type "ValueError", .type "Exception", .type "BaseException", .type "object"] "ValueError.__new__" = true)
    (ga_BadText : PySem.W.findIn K (.ref C_BadText) "__getattribute__" = some (some (.builtin "BaseException.__getattribute__")))
    (gh_BadText : PySem.W.findIn K (.ref C_BadText) "__getattr__" = some none)
    (mb_BadText : PySem.W.mroIn K C_BadText (.type "BaseException") = some true)
    (ki_BadText_VE : PySem.W.kitOne K (.ref C_BadText) (.type "ValueError") = some true)
    (xi_TellError : PySem.W.excIn K C_TellError [.type "ValueError", .type "Exception", .type "BaseException", .type "object"] "ValueError.__new__" = true)
    (up_BadText_TellError : PySem.W.mroIn K C_BadText (.ref C_TellError) = some true)
    (z_all : PySem.W.nsIn K mainGlobals "all" = some none)
    (z_any : PySem.W.nsIn K mainGlobals "any" = some none)
    (z_bool : PySem.W.nsIn K mainGlobals "bool" = some none)
    (z_int : PySem.W.nsIn K mainGlobals "int" = some none)
    (z_isinstance : PySem.W.nsIn K mainGlobals "isinstance" = some none)
    (z_len : PySem.W.nsIn K mainGlobals "len" = some none)
    (z_list : PySem.W.nsIn K mainGlobals "list" = some none)
    (z_range : PySem.W.nsIn K mainGlobals "range" = some none)
    (z_str : PySem.W.nsIn K mainGlobals "str" = some none)
    (z_tuple : PySem.W.nsIn K mainGlobals "tuple" = some none)
    {t_MOST_COLUMNS : Tok} (g_MOST_COLUMNS : PySem.W.nsIn K mainGlobals "MOST_COLUMNS" = some (some (.int 6 t_MOST_COLUMNS)))
    {t_MOST_RULES : Tok} (g_MOST_RULES : PySem.W.nsIn K mainGlobals "MOST_RULES" = some (some (.int 64 t_MOST_RULES)))
    : ∃ fd : FuncData, (∀ (s : Shared) (v : Value), BindsTo s fd ⟨[v], []⟩ [("_law_script", v)]) ∧ ∀ base : Heap, K.In base → base.Ns mainGlobals mg → FnOk l.prog w K mg base CX0 16 fa fd ["_law_script"] (sp_law K) := by
  have e := hfa.symm.trans (PySem.W.mg_of X G a_law)
  cases e
  have T : Txt K mg ⟨f_is_number, (PySem.W.fnOf "is_number" "is_number" (defArgs s_is_number) (defBody s_is_number) (defScope s_is_number) .none kV_is_number dc_is_number pm_is_number an_is_number cd_is_number ct_is_number), f_is_list, (PySem.W.fnOf "is_list" "is_list" (defArgs s_is_list) (defBody s_is_list) (defScope s_is_list) .none kV_is_list dc_is_list pm_is_list an_is_list cd_is_list ct_is_list), f_is_count, (PySem.W.fnOf "is_count" "is_count" (defArgs s_is_count) (defBody s_is_count) (defScope s_is_count) .none kV_is_count dc_is_count pm_is_count an_is_count cd_is_count ct_is_count), f_all_columns, (PySem.W.fnOf "all_columns" "all_columns" (defArgs s_all_columns) (defBody s_all_columns) (defScope s_all_columns) .none kV_all_columns dc_all_columns pm_all_columns an_all_columns cd_all_columns ct_all_columns), f_is_set, (PySem.W.fnOf "is_set" "is_set" (defArgs s_is_set) (defBody s_is_set) (defScope s_is_set) .none kV_is_set dc_is_set pm_is_set an_is_set cd_is_set ct_is_set), f_is_rule, (PySem.W.fnOf "is_rule" "is_rule" (defArgs s_is_rule) (defBody s_is_rule) (defScope s_is_rule) .none kV_is_rule dc_is_rule pm_is_rule an_is_rule cd_is_rule ct_is_rule), f_are_rules, (PySem.W.fnOf "are_rules" "are_rules" (defArgs s_are_rules) (defBody s_are_rules) (defScope s_are_rules) .none kV_are_rules dc_are_rules pm_are_rules an_are_rules cd_are_rules ct_are_rules), f_Rules_init, (PySem.W.fnOf "__init__" "Rules.__init__" (defArgs s_Rules_init) (defBody s_Rules_init) (defScope s_Rules_init) .none kV_Rules_init dc_Rules_init pm_Rules_init an_Rules_init cd_Rules_init ct_Rules_init), f_Rules_rules, (PySem.W.fnOf "rules" "Rules.rules" (defArgs s_Rules_rules) (defBody s_Rules_rules) (defScope s_Rules_rules) .none kV_Rules_rules dc_Rules_rules pm_Rules_rules an_Rules_rules cd_Rules_rules ct_Rules_rules), f_written, (PySem.W.fnOf "written" "written" (defArgs s_written) (defBody s_written) (defScope s_written) .none kV_written dc_written pm_written an_written cd_written ct_written), f_figures, (PySem.W.fnOf "figures" "figures" (defArgs s_figures) (defBody s_figures) (defScope s_figures) .none kV_figures dc_figures pm_figures an_figures cd_figures ct_figures), f_read, (PySem.W.fnOf "read" "read" (defArgs s_read) (defBody s_read) (defScope s_read) .none kV_read dc_read pm_read an_read cd_read ct_read), f_sets_by_figures, (PySem.W.fnOf "sets_by_figures" "sets_by_figures" (defArgs s_sets_by_figures) (defBody s_sets_by_figures) (defScope s_sets_by_figures) .none kV_sets_by_figures dc_sets_by_figures pm_sets_by_figures an_sets_by_figures cd_sets_by_figures ct_sets_by_figures), f_rule_in, (PySem.W.fnOf "rule_in" "rule_in" (defArgs s_rule_in) (defBody s_rule_in) (defScope s_rule_in) .none kV_rule_in dc_rule_in pm_rule_in an_rule_in cd_rule_in ct_rule_in), f_law_cell_at, (PySem.W.fnOf "_law_cell_at" "_law_cell_at" (defArgs s_law_cell_at) (defBody s_law_cell_at) (defScope s_law_cell_at) .none kV_law_cell_at dc_law_cell_at pm_law_cell_at an_law_cell_at cd_law_cell_at ct_law_cell_at), f_law_draw, (PySem.W.fnOf "_law_draw" "_law_draw" (defArgs s_law_draw) (defBody s_law_draw) (defScope s_law_draw) .none kV_law_draw dc_law_draw pm_law_draw an_law_draw cd_law_draw ct_law_draw), f_law_set, (PySem.W.fnOf "_law_set" "_law_set" (defArgs s_law_set) (defBody s_law_set) (defScope s_law_set) .none kV_law_set dc_law_set pm_law_set an_law_set cd_law_set ct_law_set), f_law_pairs, (PySem.W.fnOf "_law_pairs" "_law_pairs" (defArgs s_law_pairs) (defBody s_law_pairs) (defScope s_law_pairs) .none kV_law_pairs dc_law_pairs pm_law_pairs an_law_pairs cd_law_pairs ct_law_pairs), f_law_word, (PySem.W.fnOf "_law_word" "_law_word" (defArgs s_law_word) (defBody s_law_word) (defScope s_law_word) .none kV_law_word dc_law_word pm_law_word an_law_word cd_law_word ct_law_word), f_law_in, (PySem.W.fnOf "_law_in" "_law_in" (defArgs s_law_in) (defBody s_law_in) (defScope s_law_in) .none kV_law_in dc_law_in pm_law_in an_law_in cd_law_in ct_law_in), f_law_asked, (PySem.W.fnOf "_law_asked" "_law_asked" (defArgs s_law_asked) (defBody s_law_asked) (defScope s_law_asked) .none kV_law_asked dc_law_asked pm_law_asked an_law_asked cd_law_asked ct_law_asked), f_law_other, (PySem.W.fnOf "_law_other" "_law_other" (defArgs s_law_other) (defBody s_law_other) (defScope s_law_other) .none kV_law_other dc_law_other pm_law_other an_law_other cd_law_other ct_law_other), fa, (PySem.W.fnOf "law" "law" (defArgs s_law) (defBody s_law) (defScope s_law) .none kV_law dc_law pm_law an_law cd_law ct_law), C_Rules, C_BadRules, C_BadSet, C_BadParts, C_BadTable, C_Unlike, C_BadText, C_TellError⟩ := by
    constructor
    · exact fun_mk (st := s_is_number) l_is_number c_is_number k_is_number
    · exact (fun_mk (st := s_is_number) l_is_number c_is_number k_is_number).binds (ps := ["value", "least", "most"]) fun _ _ _ _ _ _ us hl => match us, hl with | [_, _, _], _ => rfl
    · exact PySem.W.mg_of X G a_is_number
    · exact fun_mk (st := s_is_list) l_is_list c_is_list k_is_list
    · exact (fun_mk (st := s_is_list) l_is_list c_is_list k_is_list).binds (ps := ["value", "least", "most"]) fun _ _ _ _ _ _ us hl => match us, hl with | [_, _, _], _ => rfl
    · exact PySem.W.mg_of X G a_is_list
    · exact fun_mk (st := s_is_count) l_is_count c_is_count k_is_count
    · exact (fun_mk (st := s_is_count) l_is_count c_is_count k_is_count).binds (ps := ["columns"]) fun _ _ _ _ _ _ us hl => match us, hl with | [_], _ => rfl
    · exact PySem.W.mg_of X G a_is_count
    · exact fun_mk (st := s_all_columns) l_all_columns c_all_columns k_all_columns
    · exact (fun_mk (st := s_all_columns) l_all_columns c_all_columns k_all_columns).binds (ps := ["columns"]) fun _ _ _ _ _ _ us hl => match us, hl with | [_], _ => rfl
    · exact PySem.W.mg_of X G a_all_columns
    · exact fun_mk (st := s_is_set) l_is_set c_is_set k_is_set
    · exact (fun_mk (st := s_is_set) l_is_set c_is_set k_is_set).binds (ps := ["value", "columns"]) fun _ _ _ _ _ _ us hl => match us, hl with | [_, _], _ => rfl
    · exact PySem.W.mg_of X G a_is_set
    · exact fun_mk (st := s_is_rule) l_is_rule c_is_rule k_is_rule
    · exact (fun_mk (st := s_is_rule) l_is_rule c_is_rule k_is_rule).binds (ps := ["value", "columns"]) fun _ _ _ _ _ _ us hl => match us, hl with | [_, _], _ => rfl
    · exact PySem.W.mg_of X G a_is_rule
    · exact fun_mk (st := s_are_rules) l_are_rules c_are_rules k_are_rules
    · exact (fun_mk (st := s_are_rules) l_are_rules c_are_rules k_are_rules).binds (ps := ["value", "columns"]) fun _ _ _ _ _ _ us hl => match us, hl with | [_, _], _ => rfl
    · exact PySem.W.mg_of X G a_are_rules
    · exact fun_mk (st := s_Rules_init) l_Rules_init c_Rules_init k_Rules_init
    · exact (fun_mk (st := s_Rules_init) l_Rules_init c_Rules_init k_Rules_init).binds (ps := ["self", "columns", "rules"]) fun _ _ _ _ _ _ us hl => match us, hl with | [_, _, _], _ => rfl
    · exact ⟨mk_Rules, a_Rules_init, i_Rules_init, kc_Rules⟩
    · exact fun_mk (st := s_Rules_rules) l_Rules_rules c_Rules_rules k_Rules_rules
    · exact (fun_mk (st := s_Rules_rules) l_Rules_rules c_Rules_rules k_Rules_rules).binds (ps := ["self"]) fun _ _ _ _ _ _ us hl => match us, hl with | [_], _ => rfl
    · exact ⟨a_Rules_rules, i_Rules_rules, k_Rules_rules⟩
    · exact fun_mk (st := s_written) l_written c_written k_written
    · exact (fun_mk (st := s_written) l_written c_written k_written).binds (ps := ["rules"]) fun _ _ _ _ _ _ us hl => match us, hl with | [_], _ => rfl
    · exact PySem.W.mg_of X G a_written
    · exact fun_mk (st := s_figures) l_figures c_figures k_figures
    · exact (fun_mk (st := s_figures) l_figures c_figures k_figures).binds (ps := ["some"]) fun _ _ _ _ _ _ us hl => match us, hl with | [_], _ => rfl
    · exact PySem.W.mg_of X G a_figures
    · exact fun_mk (st := s_read) l_read c_read k_read
    · exact (fun_mk (st := s_read) l_read c_read k_read).binds (ps := ["text"]) fun _ _ _ _ _ _ us hl => match us, hl with | [_], _ => rfl
    · exact PySem.W.mg_of X G a_read
    · exact fun_mk (st := s_sets_by_figures) l_sets_by_figures c_sets_by_figures k_sets_by_figures
    · exact (fun_mk (st := s_sets_by_figures) l_sets_by_figures c_sets_by_figures k_sets_by_figures).binds (ps := ["columns"]) fun _ _ _ _ _ _ us hl => match us, hl with | [_], _ => rfl
    · exact PySem.W.mg_of X G a_sets_by_figures
    · exact fun_mk (st := s_rule_in) l_rule_in c_rule_in k_rule_in
    · exact (fun_mk (st := s_rule_in) l_rule_in c_rule_in k_rule_in).binds (ps := ["word", "sets"]) fun _ _ _ _ _ _ us hl => match us, hl with | [_, _], _ => rfl
    · exact PySem.W.mg_of X G a_rule_in
    · exact fun_mk (st := s_law_cell_at) l_law_cell_at c_law_cell_at k_law_cell_at
    · exact (fun_mk (st := s_law_cell_at) l_law_cell_at c_law_cell_at k_law_cell_at).binds (ps := ["_law_script", "_law_k"]) fun _ _ _ _ _ _ us hl => match us, hl with | [_, _], _ => rfl
    · exact PySem.W.mg_of X G a_law_cell_at
    · exact fun_mk (st := s_law_draw) l_law_draw c_law_draw k_law_draw
    · exact (fun_mk (st := s_law_draw) l_law_draw c_law_draw k_law_draw).binds (ps := ["_law_cell", "_law_k", "_law_many"]) fun _ _ _ _ _ _ us hl => match us, hl with | [_, _, _], _ => rfl
    · exact PySem.W.mg_of X G a_law_draw
    · exact fun_mk (st := s_law_set) l_law_set c_law_set k_law_set
    · exact (fun_mk (st := s_law_set) l_law_set c_law_set k_law_set).binds (ps := ["_law_cell", "_law_columns"]) fun _ _ _ _ _ _ us hl => match us, hl with | [_, _], _ => rfl
    · exact PySem.W.mg_of X G a_law_set
    · exact fun_mk (st := s_law_pairs) l_law_pairs c_law_pairs k_law_pairs
    · exact (fun_mk (st := s_law_pairs) l_law_pairs c_law_pairs k_law_pairs).binds (ps := ["_law_cell", "_law_columns", "_law_most"]) fun _ _ _ _ _ _ us hl => match us, hl with | [_, _, _], _ => rfl
    · exact PySem.W.mg_of X G a_law_pairs
    · exact fun_mk (st := s_law_word) l_law_word c_law_word k_law_word
    · exact (fun_mk (st := s_law_word) l_law_word c_law_word k_law_word).binds (ps := ["_law_some"]) fun _ _ _ _ _ _ us hl => match us, hl with | [_], _ => rfl
    · exact PySem.W.mg_of X G a_law_word
    · exact fun_mk (st := s_law_in) l_law_in c_law_in k_law_in
    · exact (fun_mk (st := s_law_in) l_law_in c_law_in k_law_in).binds (ps := ["_law_text"]) fun _ _ _ _ _ _ us hl => match us, hl with | [_], _ => rfl
    · exact PySem.W.mg_of X G a_law_in
    · exact fun_mk (st := s_law_asked) l_law_asked c_law_asked k_law_asked
    · exact (fun_mk (st := s_law_asked) l_law_asked c_law_asked k_law_asked).binds (ps := ["_law_text"]) fun _ _ _ _ _ _ us hl => match us, hl with | [_], _ => rfl
    · exact PySem.W.mg_of X G a_law_asked
    · exact fun_mk (st := s_law_other) l_law_other c_law_other k_law_other
    · exact (fun_mk (st := s_law_other) l_law_other c_law_other k_law_other).binds (ps := ["_law_text", "_law_cell"]) fun _ _ _ _ _ _ us hl => match us, hl with | [_, _], _ => rfl
    · exact PySem.W.mg_of X G a_law_other
    · exact fun_mk (st := s_law) l_law c_law k_law
    · exact (fun_mk (st := s_law) l_law c_law k_law).binds (ps := ["_law_script"]) fun _ _ _ _ _ _ us hl => match us, hl with | [_], _ => rfl
    · exact PySem.W.mg_of X G a_law
    · exact ⟨pg_Rules, hd_Rules, po_Rules, sa_Rules⟩
    · exact PySem.W.mg_of X G aC_Rules
    · exact na_Rules_columns
    · exact na_Rules_pairs
    · exact PySem.W.mg_of X G aC_BadRules
    · exact PySem.W.mg_of X G aC_BadSet
    · exact PySem.W.mg_of X G aC_BadParts
    · exact PySem.W.mg_of X G aC_BadTable
    · exact PySem.W.mg_of X G aC_Unlike
    · exact PySem.W.mg_of X G aC_BadText
    · exact PySem.W.mg_of X G aC_TellError
    · exact ⟨t1_BadText, t2_BadText, t3_BadText, t4_BadText⟩
    · exact ki_BadText_BadRules
    · exact ki_BadText_BadSet
    · exact ki_BadText_BadParts
    · exact ki_BadText_BadTable
    · exact ki_BadText_Unlike
    · exact ki_BadText_BadText
    · exact xi_BadText
    · exact ⟨ga_BadText, gh_BadText, mb_BadText, ⟨t1_BadText, t2_BadText, t3_BadText, t4_BadText⟩⟩
    · exact ki_BadText_VE
    · exact xi_TellError
    · exact up_BadText_TellError
    · exact PySem.W.mg_none_of X G z_all
    · exact PySem.W.mg_none_of X G z_any
    · exact PySem.W.mg_none_of X G z_bool
    · exact PySem.W.mg_none_of X G z_int
    · exact PySem.W.mg_none_of X G z_isinstance
    · exact PySem.W.mg_none_of X G z_len
    · exact PySem.W.mg_none_of X G z_list
    · exact PySem.W.mg_none_of X G z_range
    · exact PySem.W.mg_none_of X G z_str
    · exact PySem.W.mg_none_of X G z_tuple
    · exact ⟨_, PySem.W.mg_of X G g_MOST_COLUMNS⟩
    · exact ⟨_, PySem.W.mg_of X G g_MOST_RULES⟩
  exact ⟨_, fun s v => .of_eq rfl, fun base _ _ => ok_law T⟩
theorem walk {l : PySem.W.OpenLaw} {q : Program} {loose : List Str} {XP : (Str → Option Value) → Heap → Prop} {YP : World → Heap → Prop} {d : DefRec} {K : Params → PySem.W.Frag} (hn : l.most = some 63) (hdf : d.params.defaults = [])
    (hY : ∀ (w : World) (h : Heap), YP w h → (K w.params).In h)
    (F : ∀ (w : World) (mg : Str → Option Value) (fa : Addr) (h : Heap), (K w.params).In h → h.Ns mainGlobals mg → mg d.name = some (.ref fa) →
      ∃ fd : FuncData, (∀ (s : Shared) (u : Value), BindsTo s fd ⟨[u], []⟩ [("_law_script", u)]) ∧ ∀ base : Heap, (K w.params).In base → base.Ns mainGlobals mg → FnOk l.prog w (K w.params) mg base CX0 16 fa fd ["_law_script"] (sp_law (K w.params))) :
    PySem.W.WalkO q loose XP YP l.row.toRowW d [] (fun f vs => PySem.call f vs) :=
  L2.walk_of (n := 63) (k := 16) (x := "_law_script") (CX := fun _ => CX0) (sp := fun w => sp_law (K w.params)) hn (by decide) hdf ⟨rfl, by decide, by decide⟩ hY F (fun _ _ a ns hl _ hS => ⟨a, ns, rfl, hS, hl, fun _ => rfl⟩) fun _ _ _ _ _ z => z
end K13
def PySem.W.Fast.tw6684218919617987339 : Unit := ()
def PySem.W.Fast.tw7938734293859639259 : Unit := ()
def PySem.W.Fast.tw16686599513952544655 : Unit := ()
def PySem.W.Fast.tw7646684319085259254 : Unit := ()
def PySem.W.Fast.tw8189229873213067862 : Unit := ()
def PySem.W.Fast.tw17428410698692348977 : Unit := ()
def PySem.W.Fast.tw17119568814612722112 : Unit := ()
def PySem.W.Fast.tw6655408325182522625 : Unit := ()
def PySem.W.Fast.tw8672975170532458944 : Unit := ()
def PySem.W.Fast.tw4276048304673973990 : Unit := ()
def PySem.W.Fast.tw10331223006420655949 : Unit := ()
def PySem.W.Fast.tw5386122231458218719 : Unit := ()
def PySem.W.Fast.tw3606240495424119311 : Unit := ()
def PySem.W.Fast.tw1413127529067151590 : Unit := ()
def PySem.W.Fast.tw570812302775175243 : Unit := ()
def PySem.W.Fast.tw9898968389070981123 : Unit := ()
def PySem.W.Fast.tw6236983730969681785 : Unit := ()
def PySem.W.Fast.tw11412072537348217756 : Unit := ()
def PySem.W.Fast.tw10029034423881049199 : Unit := ()
def PySem.W.Fast.tw18131130951577900788 : Unit := ()
def PySem.W.Fast.tw3767408785139093653 : Unit := ()
def PySem.W.Fast.tw16111243035400143784 : Unit := ()
def PySem.W.Fast.tw6524597475750987436 : Unit := ()
def PySem.W.Fast.tw14542628395319059270 : Unit := ()
def PySem.W.Fast.tw978437337819745528 : Unit := ()
def PySem.W.Fast.tw6464903448697226680 : Unit := ()
def PySem.W.Fast.tw5774600935359591081 : Unit := ()
def PySem.W.Fast.tw16321733944653039346 : Unit := ()
def PySem.W.Fast.tw744308437572136632 : Unit := ()
def PySem.W.Fast.tw8134160367255021100 : Unit := ()
def PySem.W.Fast.tw2272087305916531048 : Unit := ()
def PySem.W.Fast.tw9574499340838091538 : Unit := ()
def PySem.W.Fast.tw11515237316772114226 : Unit := ()
def PySem.W.Fast.tw18002163369691244058 : Unit := ()
def PySem.W.Fast.tw4358068222741374995 : Unit := ()
def PySem.W.Fast.tw12182581324531147773 : Unit := ()
def PySem.W.Fast.tw3286296043889717190 : Unit := ()
def PySem.W.Fast.tw2241010651953457134 : Unit := ()
def PySem.W.Fast.tw13453534372739790079 : Unit := ()
def PySem.W.Fast.tw8538368335870619376 : Unit := ()
def PySem.W.Fast.tw17141628127227226642 : Unit := ()
def PySem.W.Fast.tw5527805446540608605 : Unit := ()
def PySem.W.Fast.tw9813522494093647390 : Unit := ()
def PySem.W.Fast.tw12923088179431685316 : Unit := ()
def PySem.W.Fast.tw16511437918636919557 : Unit := ()
def PySem.W.Fast.tw17045335560084991785 : Unit := ()
def PySem.W.Fast.tw15075878999904679821 : Unit := ()
def PySem.W.Fast.tw236417086713281795 : Unit := ()
def PySem.W.Fast.tw1673613126788370002 : Unit := ()
def PySem.W.Fast.tw15855870876163995992 : Unit := ()
def PySem.W.Fast.tw4953707127959393240 : Unit := ()
def PySem.W.Fast.tw8764470733699993439 : Unit := ()
def PySem.W.Fast.tw18046419316514313824 : Unit := ()
def PySem.W.Fast.tw15665582795149134412 : Unit := ()
def PySem.W.Fast.tw1482495825940865212 : Unit := ()
def PySem.W.Fast.tw17667496634584364589 : Unit := ()
def PySem.W.Fast.tw6249697819181248343 : Unit := ()
def PySem.W.Fast.tw3958328098470018524 : Unit := ()
def PySem.W.Fast.tw1721592255167911393 : Unit := ()
def PySem.W.Fast.tw16548614908451024225 : Unit := ()
def PySem.W.Fast.tw14805379311308321637 : Unit := ()
def PySem.W.Fast.tw17759166228892337215 : Unit := ()
def PySem.W.Fast.tw979157749876730555 : Unit := ()
def PySem.W.Fast.tw3057069305478559925 : Unit := ()
def PySem.W.Fast.tw16185924040681345525 : Unit := ()
def PySem.W.Fast.tw14822825337804773377 : Unit := ()
def PySem.W.Fast.tw4859666979417675308 : Unit := ()
def PySem.W.Fast.tw3591993254662305277 : Unit := ()
def PySem.W.Fast.tw18398793794027172465 : Unit := ()
def PySem.W.Fast.tw9289886729325528642 : Unit := ()
def PySem.W.Fast.tw15039107624871010547 : Unit := ()
def PySem.W.Fast.tw10779376045641542977 : Unit := ()
def PySem.W.Fast.tw15452525259941083976 : Unit := ()
def PySem.W.Fast.tw5781587338047954776 : Unit := ()
def PySem.W.Fast.tw3043565366360275229 : Unit := ()
def PySem.W.Fast.tw11193784074146580248 : Unit := ()
def PySem.W.Fast.tw10573811216284064166 : Unit := ()
def PySem.W.Fast.tw7518814395206995446 : Unit := ()
def PySem.W.Fast.tw13007757301044987295 : Unit := ()
def PySem.W.Fast.tw4778427649730602411 : Unit := ()
def PySem.W.Fast.tw2061533656232010214 : Unit := ()
def PySem.W.Fast.tw15843069312824221387 : Unit := ()
def PySem.W.Fast.tw5734059541026316888 : Unit := ()
def PySem.W.Fast.tw11000245381977700702 : Unit := ()
def PySem.W.Fast.tw10828462957989213191 : Unit := ()
def PySem.W.Fast.tw5711269714252406597 : Unit := ()
def PySem.W.Fast.tw12213709992884238095 : Unit := ()
def PySem.W.Fast.tw10259478785363783780 : Unit := ()
def PySem.W.Fast.tw10081511788039313975 : Unit := ()
def PySem.W.Fast.tw9650957001370228541 : Unit := ()
def PySem.W.Fast.tw2061704589919067698 : Unit := ()
def PySem.W.Fast.tw18070367658853356447 : Unit := ()
def PySem.W.Fast.tw2212271510335360776 : Unit := ()
def PySem.W.Fast.tw117052846778139354 : Unit := ()
def PySem.W.Fast.tw11650512740580322506 : Unit := ()
def PySem.W.Fast.tw7103441171516071830 : Unit := ()
def PySem.W.Fast.tw572394568294562156 : Unit := ()
def PySem.W.Fast.tw16739570170740316902 : Unit := ()
def PySem.W.Fast.tw8155709986999546008 : Unit := ()
def PySem.W.Fast.tw17465459886809719179 : Unit := ()
def PySem.W.Fast.tw2418104243793183839 : Unit := ()
def PySem.W.Fast.tw10110299712257724146 : Unit := ()
def PySem.W.Fast.tw10968411385192783892 : Unit := ()
def PySem.W.Fast.tw12586183065287866790 : Unit := ()
def PySem.W.Fast.tw14003030051879472111 : Unit := ()
def PySem.W.Fast.tw825401491328959860 : Unit := ()
def PySem.W.Fast.tw2800094932562426745 : Unit := ()
def PySem.W.Fast.tw1982947706893298959 : Unit := ()
def PySem.W.Fast.tw5438134769682830642 : Unit := ()
def PySem.W.Fast.tw232567363510560033 : Unit := ()
def PySem.W.Fast.tw3326453210966839450 : Unit := ()
def PySem.W.Fast.tw14318620067260899829 : Unit := ()
def PySem.W.Fast.tw1548585821228134311 : Unit := ()
def PySem.W.Fast.tw3061670945924772395 : Unit := ()
def PySem.W.Fast.tw15447591963728001987 : Unit := ()
def PySem.W.Fast.tw5168340034533999469 : Unit := ()
def PySem.W.Fast.tw10591184089188610196 : Unit := ()
def PySem.W.Fast.tw8597057285256409764 : Unit := ()
def PySem.W.Fast.tw12006084307442098587 : Unit := ()
def PySem.W.Fast.tw4237640486305967108 : Unit := ()
def PySem.W.Fast.tw14412721755759350997 : Unit := ()
def PySem.W.Fast.tw4289310257848618066 : Unit := ()
def PySem.W.Fast.tw9309155520438388948 : Unit := ()
def PySem.W.Fast.tw7447295227973224100 : Unit := ()
def PySem.W.Fast.tw8230150533766489414 : Unit := ()
def PySem.W.Fast.tw17302256358661232718 : Unit := ()
def PySem.W.Fast.tw16457021273267872657 : Unit := ()
def PySem.W.Fast.tw8963178012340382854 : Unit := ()
def PySem.W.Fast.tw18354920129238503470 : Unit := ()
def PySem.W.Fast.tw1884940675477111911 : Unit := ()
def PySem.W.Fast.tw13244645427017708378 : Unit := ()
def PySem.W.Fast.tw15864310058716726214 : Unit := ()
def PySem.W.Fast.tw2208294200295273827 : Unit := ()
def PySem.W.Fast.tw11935140733383733183 : Unit := ()
def PySem.W.Fast.tw1732131904816863552 : Unit := ()
def PySem.W.Fast.tw4651747931410055238 : Unit := ()
def PySem.W.Fast.tw17392525911553176817 : Unit := ()
def PySem.W.Fast.tw14645832500805524848 : Unit := ()
def PySem.W.Fast.tw17056277746688069975 : Unit := ()
def PySem.W.Fast.tw15037246075530781736 : Unit := ()
def PySem.W.Fast.tw1984271135836278478 : Unit := ()
def PySem.W.Fast.tw4380361880107425208 : Unit := ()
def PySem.W.Fast.tw4045026810535323374 : Unit := ()
def PySem.W.Fast.tw12149109448799476546 : Unit := ()
def PySem.W.Fast.tw8715299391971758006 : Unit := ()
def PySem.W.Fast.tw10370647823135840782 : Unit := ()
def PySem.W.Fast.tw3489527228682393424 : Unit := ()
def PySem.W.Fast.tw8839661601712895046 : Unit := ()
def PySem.W.Fast.tw1368024130333905598 : Unit := ()
def PySem.W.Fast.tw7576027663376632485 : Unit := ()
def PySem.W.Fast.tw17583734343232246642 : Unit := ()
def PySem.W.Fast.tw17876298788773965428 : Unit := ()
def PySem.W.Fast.tw8694783618593782161 : Unit := ()
def PySem.W.Fast.tw522461154741401440 : Unit := ()
def PySem.W.Fast.tw983500236946418014 : Unit := ()
def PySem.W.Fast.tw13836117065060670385 : Unit := ()
def PySem.W.Fast.tw500200284504623125 : Unit := ()
def PySem.W.Fast.tw5397624939795005515 : Unit := ()
def PySem.W.Fast.tw10259848666240342752 : Unit := ()
def PySem.W.Fast.tw8342915336493392986 : Unit := ()
def PySem.W.Fast.tw13218971111032351282 : Unit := ()
def PySem.W.Fast.tw465326970057838801 : Unit := ()
def PySem.W.Fast.tw7970668917107206619 : Unit := ()
def PySem.W.Fast.tw13385905982344865439 : Unit := ()
def PySem.W.Fast.tw1374553871870533152 : Unit := ()
def PySem.W.Fast.tw17958003641485733670 : Unit := ()
def PySem.W.Fast.tw4054421935367924083 : Unit := ()
def PySem.W.Fast.tw9607424220760545353 : Unit := ()
def PySem.W.Fast.tw16585908125911766446 : Unit := ()
def PySem.W.Fast.tw16413713806747561840 : Unit := ()
def PySem.W.Fast.tw3414760079914613259 : Unit := ()
def PySem.W.Fast.tw4424492691588870329 : Unit := ()
def PySem.W.Fast.tw15085847482836108947 : Unit := ()
def PySem.W.Fast.tw468803661731360343 : Unit := ()
def PySem.W.Fast.tw4887042822273268571 : Unit := ()
def PySem.W.Fast.tw3003142056152388712 : Unit := ()
def PySem.W.Fast.tw11034727398036196813 : Unit := ()
def PySem.W.Fast.tw354825301795443393 : Unit := ()
def PySem.W.Fast.tw17685987856680708647 : Unit := ()
def PySem.W.Fast.tw16196997017216791865 : Unit := ()
def PySem.W.Fast.tw14003760382067530756 : Unit := ()
def PySem.W.Fast.tw2044723470456601647 : Unit := ()
def PySem.W.Fast.tw12341590145162084021 : Unit := ()
def PySem.W.Fast.tw16769609422978174877 : Unit := ()
def PySem.W.Fast.tw12731678247443329705 : Unit := ()
def PySem.W.Fast.tw5118677430000840748 : Unit := ()
def PySem.W.Fast.tw4888207634882215079 : Unit := ()
def PySem.W.Fast.tw15818728304423563133 : Unit := ()
def PySem.W.Fast.tw4072523178905972495 : Unit := ()
def PySem.W.Fast.tw11569635933508459022 : Unit := ()
def PySem.W.Fast.tw2734091334749107267 : Unit := ()
def PySem.W.Fast.tw5338387839141294877 : Unit := ()
def PySem.W.Fast.tw3249217247654014118 : Unit := ()
def PySem.W.Fast.tw9209454465169932441 : Unit := ()
def PySem.W.Fast.tw7351361244423718808 : Unit := ()
def PySem.W.Fast.tw493584846657676874 : Unit := ()
def PySem.W.Fast.tw16445033648394052487 : Unit := ()
def PySem.W.Fast.tw13180470709109315152 : Unit := ()
def PySem.W.Fast.tw17674952748024873545 : Unit := ()
def PySem.W.Fast.tw3311107153557841084 : Unit := ()
def PySem.W.Fast.tw3180520898604374558 : Unit := ()
def PySem.W.Fast.tw10578419629194027162 : Unit := ()
def PySem.W.Fast.tw15660561705288634982 : Unit := ()
def PySem.W.Fast.tw14193300622245545784 : Unit := ()
def PySem.W.Fast.tw1071108701817426754 : Unit := ()
def PySem.W.Fast.tw15483254130124794151 : Unit := ()
def PySem.W.Fast.tw7206463905279849269 : Unit := ()
def PySem.W.Fast.tw15118648017774839819 : Unit := ()
def PySem.W.Fast.tw6315714302392259552 : Unit := ()
def PySem.W.Fast.tw7074675425615352221 : Unit := ()
def PySem.W.Fast.tw8110023151810271243 : Unit := ()
def PySem.W.Fast.tw2142576191849972085 : Unit := ()
def PySem.W.Fast.tw6652255634039453407 : Unit := ()
def PySem.W.Fast.tw11143489756837455126 : Unit := ()
def PySem.W.Fast.tw5894712111580772313 : Unit := ()
def PySem.W.Fast.tw16782475374840375352 : Unit := ()
def PySem.W.Fast.tw15723964384953762404 : Unit := ()
def PySem.W.Fast.tw3313765740379363669 : Unit := ()
def PySem.W.Fast.tw10552892827472715224 : Unit := ()
def PySem.W.Fast.tw14921092923987222049 : Unit := ()
def PySem.W.Fast.tw9037566919283943566 : Unit := ()
def PySem.W.Fast.tw14008403969517724428 : Unit := ()
def PySem.W.Fast.tw5296942129839997507 : Unit := ()
def PySem.W.Fast.tw2583282474815032688 : Unit := ()
def PySem.W.Fast.tw2085274984156381648 : Unit := ()
def PySem.W.Fast.tw5037604578055539697 : Unit := ()
def PySem.W.Fast.tw15792727213748913736 : Unit := ()
def PySem.W.Fast.tw3112336565716243966 : Unit := ()
def PySem.W.Fast.tw1897557993106320942 : Unit := ()
def PySem.W.Fast.tw1484022288506697095 : Unit := ()
def PySem.W.Fast.tw10632645966617373097 : Unit := ()
def PySem.W.Fast.tw8202498112531152350 : Unit := ()
def PySem.W.Fast.tw12673669060167684367 : Unit := ()
def PySem.W.Fast.tw14833340487087848107 : Unit := ()
def PySem.W.Fast.tw5956917565113560204 : Unit := ()
def PySem.W.Fast.tw10489683474005120571 : Unit := ()
def PySem.W.Fast.tw341801631356359856 : Unit := ()
def PySem.W.Fast.tw15392680364850915294 : Unit := ()
def PySem.W.Fast.tw17291394975582393273 : Unit := ()
def PySem.W.Fast.tw10739110584479297935 : Unit := ()
def PySem.W.Fast.tw18015585404154758935 : Unit := ()
def PySem.W.Fast.tw14115715434491460253 : Unit := ()
def PySem.W.Fast.tw33645333866849974 : Unit := ()
def PySem.W.Fast.tw5048284431531137639 : Unit := ()
def PySem.W.Fast.tw12501662022453389322 : Unit := ()
def PySem.W.Fast.tw15400434652721734440 : Unit := ()
def PySem.W.Fast.tw17044944456477512755 : Unit := ()
def PySem.W.Fast.tw8496978976049788178 : Unit := ()
def PySem.W.Fast.tw841179873994366043 : Unit := ()
def PySem.W.Fast.tw7977411842902030541 : Unit := ()
def PySem.W.Fast.tw6731689702753691755 : Unit := ()
def PySem.W.Fast.tw14232534812279539375 : Unit := ()
def PySem.W.Fast.tw12084846099090919300 : Unit := ()
def PySem.W.Fast.tw11409301373640204945 : Unit := ()
def PySem.W.Fast.tw4993644667578388542 : Unit := ()
def PySem.W.Fast.tw16095851674505323519 : Unit := ()
def PySem.W.Fast.tw14954516585140661613 : Unit := ()
open PySem PySem.W PyProof.Rows
set_option maxRecDepth 100000 in
set_option maxHeartbeats 0 in
theorem PySem.Challenge.cw_tellscolumns_k13_texts_holds : PySem.Challenge.rw_tellscolumns_k13_texts.Holds := by
  w_on; o_law; k_head; (case hw => w_witness2)
  k_fill
  refine K13.walk (l := PySem.Challenge.rw_tellscolumns_k13_texts) rfl rfl (fun w h Y => PySem.W.kIn_of Y) ?F
  case F =>
    intro w mg fa h KX G hmg
    refine' K13.all_mk KX G hmg ?aC_Rules ?a_is_number ?l_is_number ?c_is_number ?k_is_number ?a_is_list ?l_is_list ?c_is_list ?k_is_list ?a_is_count ?l_is_count ?c_is_count ?k_is_count ?a_all_columns ?l_all_columns ?c_all_columns ?k_all_columns ?a_is_set ?l_is_set ?c_is_set ?k_is_set ?a_is_rule ?l_is_rule ?c_is_rule ?k_is_rule ?a_are_rules ?l_are_rules ?c_are_rules ?k_are_rules ?a_Rules_init ?i_Rules_init ?l_Rules_init ?c_Rules_init ?k_Rules_init ?a_Rules_rules ?i_Rules_rules ?l_Rules_rules ?c_Rules_rules ?k_Rules_rules ?a_written ?l_written ?c_written ?k_written ?a_figures ?l_figures ?c_figures ?k_figures ?a_read ?l_read ?c_read ?k_read ?a_sets_by_figures ?l_sets_by_figures ?c_sets_by_figures ?k_sets_by_figures ?a_rule_in ?l_rule_in ?c_rule_in ?k_rule_in ?a_law_cell_at ?l_law_cell_at ?c_law_cell_at ?k_law_cell_at ?a_law_draw ?l_law_draw ?c_law_draw ?k_law_draw ?a_law_set ?l_law_set ?c_law_set ?k_law_set ?a_law_pairs ?l_law_pairs ?c_law_pairs ?k_law_pairs ?a_law_word ?l_law_word ?c_law_word ?k_law_word ?a_law_in ?l_law_in ?c_law_in ?k_law_in ?a_law_asked ?l_law_asked ?c_law_asked ?k_law_asked ?a_law_other ?l_law_other ?c_law_other ?k_law_other ?a_law ?l_law ?c_law ?k_law ?pg_Rules ?hd_Rules ?po_Rules ?sa_Rules ?mk_Rules ?kc_Rules ?na_Rules_columns ?na_Rules_pairs ?aC_BadRules ?aC_BadSet ?aC_BadParts ?aC_BadTable ?aC_Unlike ?aC_BadText ?aC_TellError ?t1_BadText ?t2_BadText ?t3_BadText ?t4_BadText ?ki_BadText_BadRules ?ki_BadText_BadSet ?ki_BadText_BadParts ?ki_BadText_BadTable ?ki_BadText_Unlike ?ki_BadText_BadText ?xi_BadText ?ga_BadText ?gh_BadText ?mb_BadText ?ki_BadText_VE ?xi_TellError ?up_BadText_TellError ?z_all ?z_any ?z_bool ?z_int ?z_isinstance ?z_len ?z_list ?z_range ?z_str ?z_tuple ?g_MOST_COLUMNS ?g_MOST_RULES
    (case aC_Rules => k_is)
    (case a_is_number => k_is)
    (case l_is_number => k_is)
    (case c_is_number => k_is)
    (case k_is_number => k_is)
    (case a_is_list => k_is)
    (case l_is_list => k_is)
    (case c_is_list => k_is)
    (case k_is_list => k_is)
    (case a_is_count => k_is)
    (case l_is_count => k_is)
    (case c_is_count => k_is)
    (case k_is_count => k_is)
    (case a_all_columns => k_is)
    (case l_all_columns => k_is)
    (case c_all_columns => k_is)
    (case k_all_columns => k_is)
    (case a_is_set => k_is)
    (case l_is_set => k_is)
    (case c_is_set => k_is)
    (case k_is_set => k_is)
    (case a_is_rule => k_is)
    (case l_is_rule => k_is)
    (case c_is_rule => k_is)
    (case k_is_rule => k_is)
    (case a_are_rules => k_is)
    (case l_are_rules => k_is)
    (case c_are_rules => k_is)
    (case k_are_rules => k_is)
    (case a_Rules_init => k_is)
    (case i_Rules_init => k_is)
    (case l_Rules_init => k_is)
    (case c_Rules_init => k_is)
    (case k_Rules_init => k_is)
    (case a_Rules_rules => k_is)
    (case i_Rules_rules => k_is)
    (case l_Rules_rules => k_is)
    (case c_Rules_rules => k_is)
    (case k_Rules_rules => k_is)
    (case a_written => k_is)
    (case l_written => k_is)
    (case c_written => k_is)
    (case k_written => k_is)
    (case a_figures => k_is)
    (case l_figures => k_is)
    (case c_figures => k_is)
    (case k_figures => k_is)
    (case a_read => k_is)
    (case l_read => k_is)
    (case c_read => k_is)
    (case k_read => k_is)
    (case a_sets_by_figures => k_is)
    (case l_sets_by_figures => k_is)
    (case c_sets_by_figures => k_is)
    (case k_sets_by_figures => k_is)
    (case a_rule_in => k_is)
    (case l_rule_in => k_is)
    (case c_rule_in => k_is)
    (case k_rule_in => k_is)
    (case a_law_cell_at => k_is)
    (case l_law_cell_at => k_is)
    (case c_law_cell_at => k_is)
    (case k_law_cell_at => k_is)
    (case a_law_draw => k_is)
    (case l_law_draw => k_is)
    (case c_law_draw => k_is)
    (case k_law_draw => k_is)
    (case a_law_set => k_is)
    (case l_law_set => k_is)
    (case c_law_set => k_is)
    (case k_law_set => k_is)
    (case a_law_pairs => k_is)
    (case l_law_pairs => k_is)
    (case c_law_pairs => k_is)
    (case k_law_pairs => k_is)
    (case a_law_word => k_is)
    (case l_law_word => k_is)
    (case c_law_word => k_is)
    (case k_law_word => k_is)
    (case a_law_in => k_is)
    (case l_law_in => k_is)
    (case c_law_in => k_is)
    (case k_law_in => k_is)
    (case a_law_asked => k_is)
    (case l_law_asked => k_is)
    (case c_law_asked => k_is)
    (case k_law_asked => k_is)
    (case a_law_other => k_is)
    (case l_law_other => k_is)
    (case c_law_other => k_is)
    (case k_law_other => k_is)
    (case a_law => k_is)
    (case l_law => k_is)
    (case c_law => k_is)
    (case k_law => k_is)
    (case pg_Rules => k_is)
    (case hd_Rules => k_is)
    (case po_Rules => k_is)
    (case sa_Rules => k_is)
    (case mk_Rules => k_is)
    (case kc_Rules => k_is)
    (case na_Rules_columns => k_is)
    (case na_Rules_pairs => k_is)
    (case aC_BadRules => k_is)
    (case aC_BadSet => k_is)
    (case aC_BadParts => k_is)
    (case aC_BadTable => k_is)
    (case aC_Unlike => k_is)
    (case aC_BadText => k_is)
    (case aC_TellError => k_is)
    (case t1_BadText => k_is)
    (case t2_BadText => k_is)
    (case t3_BadText => k_is)
    (case t4_BadText => k_is)
    (case ki_BadText_BadRules => kit_is)
    (case ki_BadText_BadSet => kit_is)
    (case ki_BadText_BadParts => kit_is)
    (case ki_BadText_BadTable => kit_is)
    (case ki_BadText_Unlike => kit_is)
    (case ki_BadText_BadText => kit_is)
    (case xi_BadText => k_exc)
    (case ga_BadText => k_is)
    (case gh_BadText => k_is)
    (case mb_BadText => k_is)
    (case ki_BadText_VE => kit_is)
    (case xi_TellError => k_exc)
    (case up_BadText_TellError => k_is)
    (case z_all => k_is)
    (case z_any => k_is)
    (case z_bool => k_is)
    (case z_int => k_is)
    (case z_isinstance => k_is)
    (case z_len => k_is)
    (case z_list => k_is)
    (case z_range => k_is)
    (case z_str => k_is)
    (case z_tuple => k_is)
    (case g_MOST_COLUMNS => k_is)
    (case g_MOST_RULES => k_is)

