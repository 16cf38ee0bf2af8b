import PyProof.Rows.All
import Wide.All
import OpenK.AllK
import Wide.FinOn
import Lean
import PyProof.EqAt
import PyProof.EqKinds
import PyProof.TupleCall
import PySem.Challenge.RW_tellscolumns_k12_answers_by_hand
import PyProof.Rows.SetFrom
import PyProof.Rows.SortShell
import PyProof.CollectIter
import PyProof.ZipIter
import PyProof.Rows.SortWalk
import KE.KSortTup
import PyProof.DictFindH
import PyProof.IsRules
import PyProof.MeetsSeq
import PyProof.FactsAll.list_3
import PyProof.P3In
import PyProof.WalkInts
import PyProof.SeqI3
import KE.KItemsList
import PyProof.Rows.CallKwBuiltin
set_option Elab.async false
set_option linter.all false
set_option maxRecDepth 100000
namespace L2
open PySem PySem.Spec PyProof.Rows
abbrev Key:=Sum Int Str
def adU:Key→Value→Bool
 | .inl k,v=>Value.isInt k v
 | .inr x,v=>Value.isStrOf x v
def keyH (w:World):Key→Int
 | .inl k=>hashInt k
 | .inr x=>hashStr w x
theorem jC:∀ {k:Key} {v:Value},adU k v=true→(∃ i t,k=Sum.inl i∧v=Value.int i t)∨(∃ x t,k=Sum.inr x∧v=Value.str x t)
 | .inl i,v,h=>by
  obtain⟨t,e⟩:=Value.isInt_shape (k:=i) (v:=v) h
  exact .inl ⟨i,t,rfl,e⟩
 | .inr x,v,h=>by
  obtain⟨t,e⟩:=Value.isStrOf_shape (x:=x) (v:=v) h
  exact .inr ⟨x,t,rfl,e⟩
theorem alr (i:Int) (t:Tok):adU (.inl i) (.int i t)=true:=by simp [adU,Value.isInt]
theorem als (x:Str) (t:Tok):adU (.inr x) (.str x t)=true:=by simp [adU,Value.isStrOf]
theorem ao5 (a b:Int):decide ((Sum.inl a:Key)=Sum.inl b)=(a == b):=by
 by_cases e:a=b
 ·subst e;simp
 ·have h:¬ (Sum.inl a:Key)=Sum.inl b:=fun q=>e (Sum.inl.inj q)
  rw[decide_eq_false h]
  exact(beq_eq_false_iff_ne.mpr e).symm
theorem ao6 (a b:Str):decide ((Sum.inr a:Key)=Sum.inr b)=decide (a=b):=by
 by_cases e:a=b
 ·subst e;simp
 ·have h:¬ (Sum.inr a:Key)=Sum.inr b:=fun q=>e (Sum.inr.inj q)
  rw[decide_eq_false h,decide_eq_false e]
theorem ao7 (a:Int) (b:Str):decide ((Sum.inl a:Key)=Sum.inr b)=false:=decide_eq_false (fun q=>nomatch q)
theorem ao8 (a:Str) (b:Int):decide ((Sum.inr a:Key)=Sum.inl b)=false:=decide_eq_false (fun q=>nomatch q)
def nT (prog:Program) (w:World):PySem.KeyKind prog w Key where
 is:=adU
 hash:=keyH w
 inj:=fun v a b ha hb=>by
  rcases jC ha with ⟨i,t,rfl,rfl⟩ | ⟨x,t,rfl,rfl⟩
  ·rcases jC hb with ⟨j,u,rfl,e⟩ | ⟨y,u,rfl,e⟩
   ·injection e with e1 _;rw[e1]
   ·exact nomatch e
  ·rcases jC hb with ⟨j,u,rfl,e⟩ | ⟨y,u,rfl,e⟩
   ·exact nomatch e
   ·injection e with e1 _;rw[e1]
 byValue:=fun k v h=>by
  rcases jC h with ⟨i,t,rfl,rfl⟩ | ⟨x,t,rfl,rfl⟩ <;> rfl
 pyHash:=fun hv h=>by
  rcases jC hv with ⟨i,t,rfl,rfl⟩ | ⟨x,t,rfl,rfl⟩
  ·exact wpAny_pyHash_int h
  ·exact wpAny_pyHash_str h
 eqBool:=fun hu hv h=>by
  rcases jC hu with ⟨i,t,rfl,rfl⟩ | ⟨x,t,rfl,rfl⟩
  ·rcases jC hv with ⟨j,u,rfl,rfl⟩ | ⟨y,u,rfl,rfl⟩
   ·rw[ao5] at h;exact wpAny_eqBool_int h
   ·rw[ao7] at h;exact SeqAt.EqAt.int_str i t y u _ _ _ _ h
  ·rcases jC hv with ⟨j,u,rfl,rfl⟩ | ⟨y,u,rfl,rfl⟩
   ·rw[ao8] at h;exact SeqAt.EqAt.str_int x t j u _ _ _ _ h
   ·rw[ao6] at h;exact wpAny_eqBool_str h
 «strs»:=fun k x t v h=>by
  rcases jC h with ⟨i,u,rfl,e⟩ | ⟨y,u,rfl,e⟩
  ·exact nomatch e
  ·injection e with e1 _
   subst e1
   cases v <;> rfl
theorem ahh (prog:Program) (w:World) (i:Int) (t:Tok):(nT prog w).is (.inl i) (.int i t)=true:=alr i t
theorem ahi (prog:Program) (w:World) (x:Str) (t:Tok):(nT prog w).is (.inr x) (.str x t)=true:=als x t
end L2
namespace L2
open PySem PySem.Spec PyProof.Rows
inductive V where
 | non | bl (b:Bool) | int (i:Int) | str (x:Str) | byt (b:Array UInt8) | flt (b:UInt64) | ref (a:Addr) | ty (n:String)
 deriving DecidableEq
def RelV:V→Value→Prop
 | .non,u=>u=Value.none
 | .bl b,u=>u=Value.bool b
 | .int i,u=>∃ t,u=Value.int i t
 | .str x,u=>∃ t,u=Value.str x t
 | .byt b,u=>∃ t,u=Value.bytes b t
 | .flt b,u=>∃ t,u=Value.float b t
 | .ref a,u=>u=Value.ref a
 | .ty n,u=>u=Value.type n
abbrev Vals:List V→List Value→Prop:=Paired RelV
theorem Vals.length {xs:List V} {us:List Value} (r:Vals xs us):xs.length=us.length:=Paired.length r
theorem Vals.get:∀ {xs:List V} {us:List Value} {i:Nat} {x:V},Vals xs us→xs[i]? = some x→∃ u,us[i]? = some u∧RelV x u
 | _,_,_,_,.nil,e=>by simp at e
 | _,_,0,_,.cons r _,e=>by simp at e;subst e;exact⟨_,rfl,r⟩
 | _,_,i+1,x,.cons _ t,e=>by
  obtain⟨u,h1,h2⟩:=Vals.get (i:=i) (x:=x) t (by simpa using e)
  exact⟨u,by simpa using h1,h2⟩
theorem Vals.set {x:V} {u:Value} (r:RelV x u):∀ {xs:List V} {us:List Value} (i:Nat),Vals xs us→Vals (xs.set i x) (us.set i u)
 | _,_,_,.nil=>.nil
 | _,_,0,.cons _ t=>.cons r t
 | _,_,i+1,.cons q t=>.cons q (Vals.set r i t)
theorem Vals.append:∀ {xs ys:List V} {us ws:List Value},Vals xs us→Vals ys ws→Vals (xs++ys) (us++ws)
 | _,_,_,_,.nil,s=>s
 | _,_,_,_,.cons r t,s=>.cons r (Vals.append t s)
theorem Vals.take:∀ {xs:List V} {us:List Value} (n:Nat),Vals xs us→Vals (xs.take n) (us.take n)
 | _,_,0,_=>.nil
 | _,_,_+1,.nil=>.nil
 | _,_,n+1,.cons r t=>.cons r (Vals.take n t)
theorem Vals.drop:∀ {xs:List V} {us:List Value} (n:Nat),Vals xs us→Vals (xs.drop n) (us.drop n)
 | _,_,0,r=>r
 | _,_,_+1,.nil=>.nil
 | _,_,n+1,.cons _ t=>Vals.drop n t
theorem Vals.none_of:∀ {xs:List V} {us:List Value} {i:Nat},Vals xs us→xs[i]? = none→us[i]? = none:=fun {xs us i} r e=>by
 have h1:=r.length
 have h2:xs.length≤i:=List.getElem?_eq_none_iff.mp e
 exact List.getElem?_eq_none_iff.mpr (by omega)
def RelO:Option V→Option Value→Prop
 | some v,some u=>RelV v u
 | none,none=>True
 | _,_=>False
def KV {κ : Type}:List (κ × V)→List (κ × Value)→Prop:=Paired fun (p : κ × V) (q : κ × Value)=>p.1=q.1∧RelV p.2 q.2
def kV:Key→V
 | .inl i=>.int i
 | .inr x=>.str x
inductive HO where
 | lst (xs:List V)
 | tup (xs:List V)
 | dK (kvs:List (Key×V)) | dT (kvs:List (List Key×V))
 | set (S:Int→Bool) (n:Nat)
 | ins (C dx:Addr) (fs:List (Str×V))
 | own (x:Addr)
 | xd (fs:List (Str×V))
 | met (f x:Addr)
 | rng (lo hi:Int)
 | frz (o:Obj) (u:HO)
 | tbl (ps:Array Value)
 | ext (φ : Heap→Prop)
abbrev Hp:=Addr→Option HO
def upd (H:Hp) (a:Addr) (o:HO):Hp:=fun b=>if b=a then some o else H b
theorem au {H:Hp} {a:Addr} {o:HO}:upd H a o a=some o:=by unfold upd;rw[if_pos rfl]
theorem aG {H:Hp} {a b:Addr} {o:HO} (h:b≠a):upd H a o b=H b:=by unfold upd;rw[if_neg h]
theorem an2 {H:Hp} {a:Addr} {o u:HO}:upd (upd H a o) a u=upd H a u:=by
 funext b;unfold upd;split <;> rfl
theorem iG {H:Hp} {a b:Addr} {o u:HO} (h:H a=some o) (h':H b=some u) (d:o≠u):a≠b:=by
 intro e;subst e;rw[h] at h';exact d (Option.some.inj h')
theorem aL {H:Hp} {a b:Addr} {o:HO} (h:H a=some o) (h':H b=none):a≠b:=by
 intro e;subst e;rw[h] at h';cases h'
section
variable (P:Program) (w:World)
def jl (H:Hp) (h:Heap) (a:Addr):HO→Prop
 | .lst xs=>xs.length≤sizeLine∧∃ (its:List Value) (n:Nat),Vals xs its∧h.get? a=some { cls:=.type "list",data:=.seq its.toArray n }
 | .tup xs=>xs.length≤sizeLine∧∃ its:List Value,Vals xs its∧IsTup h a its.toArray
 | .dK kvs=>kvs.length≤sizeLine∧(a == sysModules)=false∧∃ vs,KV kvs vs∧h.DictOf (nT P w) a vs
 | .dT kvs=>kvs.length≤sizeLine∧(a == sysModules)=false∧∃ xs:List (List Key×Addr×Value),
   Paired (fun (p:List Key×V) (q:List Key×Addr×Value)=>p.1=q.1∧H q.2.1=some (.tup (p.1.map kV))∧RelV p.2 q.2.2) kvs xs ∧
   ∃ o es ep,h.get? a=some o∧o.ExactDict∧o.data = .dict es ep∧es.toList=xs.map (entryOfKey (tupleKind (nT P w)))∧(xs.map (·.1)).Nodup
 | .set S n=>h.SetOf (intKind P w) a S n
 | .ins C dx fs=>H dx=some (.own a)∧fs.length≤1000∧dx≠a∧h.get? a=some (W.instObj C dx) ∧
   ∃ mA,h.Ns1 dx mA∧(∀ f,RelO (fs.lookup f) (mA f))∧PySem.Within mA (fs.map (·.1))
 | .own _=>∃ o,h.get? a=some o
 | .xd fs=>∃ mA,h.Ns1 a mA∧∀ f,RelO (fs.lookup f) (mA f)
 | .rng lo hi=>∃ t u v,h.get? a=some { cls:=.type "range",data:=.fields #[.int lo t,.int hi u,.int 1 v] }
 | .frz o u=>h.get? a=some o∧jl H h a u
 | .tbl ps=>h.get? a=some { cls:=.none,data:=.fields ps }
 | .met f x=>h.get? a=some (W.methodObj (.ref f) (.ref x))
 | .ext φ => φ h∧(∃ o,h.get? a=some o)∧∀ h1 h2:Heap,φ h1→(∀ o,h1.get? a=some o→h2.get? a=some o) → φ h2
def HOk (H:Hp) (h:Heap):Prop:=∀ a o,H a=some o→jl P w H h a o
end
section
variable {P:Program} {w:World} {H H':Hp} {h h':Heap} {a:Addr} {o:HO}
theorem jl.lt (x:jl P w H h a o):a<h.objs.size:=by
 cases o with
 | lst xs=>obtain⟨_,_,_,_,e⟩:=x;exact Heap.lt_size e
 | tup xs=>obtain⟨_,_,_,p⟩:=x;exact p.lt
 | dK kvs=>obtain⟨_,_,_,_,o,_,_,e,_⟩:=x;exact Heap.lt_size e
 | dT kvs=>obtain⟨_,_,_,_,o,_,_,e,_⟩:=x;exact Heap.lt_size e
 | set S n=>obtain⟨o,_,_,_,e,_⟩:=x;exact Heap.lt_size e
 | ins C dx fs=>obtain⟨_,_,_,e,_⟩:=x;exact Heap.lt_size e
 | own y=>obtain⟨_,e⟩:=x;exact Heap.lt_size e
 | xd fs=>obtain⟨_,⟨_,_,_,e,_⟩,_⟩:=x;exact Heap.lt_size e
 | rng lo hi=>obtain⟨_,_,_,e⟩:=x;exact Heap.lt_size e
 | frz ob u=>obtain⟨e,_⟩:=x;exact Heap.lt_size e
 | tbl ps=>exact Heap.lt_size (show h.get? a=some _ from x)
 | met f y=>exact Heap.lt_size (show h.get? a=some _ from x)
 | ext φ => obtain⟨_,⟨_,e⟩,_⟩:=x;exact Heap.lt_size e
theorem Paired.mapP {α β : Type} {F G : α → β → Prop}:∀ {l₁ : List α} {l₂ : List β},Paired F l₁ l₂ → (∀ a b,F a b→G a b)→Paired G l₁ l₂
 | _,_,.nil,_=>.nil
 | _,_,.cons r t,f=>.cons (f _ _ r) (Paired.mapP t f)
theorem jl.stay (x:jl P w H h a o) (k:∀ b u,(b=a∨H b=some (.own a))→h.get? b=some u→h'.get? b=some u)
  (ho:∀ b,H b=some (.own a)→H' b=some (.own a)) (ht:∀ b xs,H b=some (.tup xs)→H' b=some (.tup xs)):jl P w H' h' a o:=by
 induction o with
 | lst xs=>obtain⟨z,its,n,r,e⟩:=x;exact⟨z,its,n,r,k _ _ (.inl rfl) e⟩
 | tup xs=>obtain⟨z,its,r,ob,e,c⟩:=x;exact⟨z,its,r,ob,k _ _ (.inl rfl) e,c⟩
 | dK kvs=>obtain⟨z,y,vs,r,ob,es,ep,e,c⟩:=x;exact⟨z,y,vs,r,ob,es,ep,k _ _ (.inl rfl) e,c⟩
 | dT kvs =>
  obtain⟨z,y,xs,r,ob,es,ep,e,c⟩:=x
  exact⟨z,y,xs,Paired.mapP r fun p q z=>⟨z.1,ht _ _ z.2.1,z.2.2⟩,ob,es,ep,k _ _ (.inl rfl) e,c⟩
 | set S n=>obtain⟨ob,es,ep,t,e,c⟩:=x;exact⟨ob,es,ep,t,k _ _ (.inl rfl) e,c⟩
 | ins C dx fs =>
  obtain⟨d,z,ne,e,mA,⟨od,es,ep,e2,c⟩,r⟩:=x
  exact⟨ho _ d,z,ne,k _ _ (.inl rfl) e,mA,⟨od,es,ep,k _ _ (.inr d) e2,c⟩,r⟩
 | own y=>obtain⟨ob,e⟩:=x;exact⟨ob,k _ _ (.inl rfl) e⟩
 | xd fs=>obtain⟨mA,⟨od,es,ep,e,c⟩,r⟩:=x;exact⟨mA,⟨od,es,ep,k _ _ (.inl rfl) e,c⟩,r⟩
 | rng lo hi=>obtain⟨t,u,v,e⟩:=x;exact⟨t,u,v,k _ _ (.inl rfl) e⟩
 | frz ob u ih=>obtain⟨e,q⟩:=x;exact⟨k _ _ (.inl rfl) e,ih q⟩
 | tbl ps =>
  have e:h.get? a=some { cls:=.none,data:=.fields ps }:=x
  show h'.get? a=some { cls:=.none,data:=.fields ps }
  exact k a _ (.inl rfl) e
 | met f y =>
  have e:h.get? a=some (W.methodObj (.ref f) (.ref y)):=x
  show h'.get? a=some (W.methodObj (.ref f) (.ref y))
  exact k a _ (.inl rfl) e
 | ext φ => obtain⟨p,⟨o,e⟩,st⟩:=x;exact⟨st _ _ p fun o q=>k _ _ (.inl rfl) q,⟨o,k _ _ (.inl rfl) e⟩,st⟩
theorem HOk.lt (x:HOk P w H h) (e:H a=some o):a<h.objs.size:=(x a o e).lt
theorem HOk.fresh (x:HOk P w H h) (e:h.objs.size≤a):H a=none:=by
 cases q:H a with
 | none=>rfl
 | some u=>exact absurd (Nat.lt_of_lt_of_le (x.lt q) e) (Nat.lt_irrefl _)
theorem HOk.kept (x:HOk P w H h) (k:∀ b u,h.get? b=some u→h'.get? b=some u):HOk P w H h':=fun a o e =>
 (x a o e).stay (fun b u _ q=>k b u q) (fun _ q=>q) fun _ _ q=>q
theorem HOk.laid (x:HOk P w H h) (k:∀ b u,h.get? b=some u→h'.get? b=some u) (hp:h.objs.size≤a) (new:jl P w (upd H a o) h' a o):HOk P w (upd H a o) h':=fun b u e=>by
 have hn:=x.fresh hp
 by_cases hb:b=a
 ·subst hb;rw[au] at e;cases e;exact new
 ·rw[aG hb] at e
  exact(x b u e).stay (fun c v _ q=>k c v q) (fun c q=>by rw[aG (aL q hn)];exact q) fun c xs q=>by rw[aG (aL q hn)];exact q
end
def Rd (H:Hp) (a:Addr) (u:HO):Prop:=H a=some u ∨ ∃ o,H a=some (.frz o u)
theorem Rd.of {H:Hp} {a:Addr} {u:HO} (h:H a=some u):Rd H a u:=.inl h
theorem Rd.ok {P:Program} {w:World} {H:Hp} {h:Heap} {a:Addr} {u:HO} (r:Rd H a u) (x:HOk P w H h):jl P w H h a u:=by
 rcases r with r | ⟨o,r⟩
 ·exact x a u r
 ·obtain⟨_,q⟩:=x a _ r
  exact q
def Mut:Option HO→Prop
 | some (.lst _)=>True
 | some (.dK _)=>True
 | some (.dT _)=>True
 | some (.set _ _)=>True
 | some (.ins _ _ _)=>True
 | some (.ext _)=>True
 | _=>False
section
variable {P:Program} {w:World} {H:Hp} {h h':Heap} {x e:Addr} {o':HO}
theorem HOk.write (ok:HOk P w H h) (mu:Mut (H x)) (he:e=x∨H e=some (.own x)) (k:∀ b u,b≠e→h.get? b=some u→h'.get? b=some u) (heo:∃ u,h'.get? e=some u)
  (new:jl P w (upd H x o') h' x o'):HOk P w (upd H x o') h':=fun b u q=>by
 have nown:∀ c y,H c=some (.own y)→c≠x:=fun c y r z=>by subst z;rw[r] at mu;exact mu
 have ntup:∀ c xs,H c=some (.tup xs)→c≠x:=fun c xs r z=>by subst z;rw[r] at mu;exact mu
 by_cases hb:b=x
 ·subst hb;rw[au] at q;cases q;exact new
 ·rw[aG hb] at q
  by_cases hbe:b=e
  ·have q':H b=some (.own x):=by
    rcases he with z | z
    ·exact absurd (hbe.trans z) hb
    ·rw[hbe];exact z
   rw[q] at q';cases q'
   obtain⟨v,hv⟩:=heo
   exact⟨v,by rw[hbe];exact hv⟩
  ·refine(ok b u q).stay (fun c v hc r=>k c v ?_ r) (fun c r=>by rw[aG (nown c b r)];exact r) fun c xs r=>by rw[aG (ntup c xs r)];exact r
   rcases hc with rfl | hc
   ·exact hbe
   ·rintro rfl
    rcases he with z | z
    ·exact nown c b hc z
    ·rw[hc] at z;cases z;exact hb rfl
end
structure Un (fs ex:List Addr) (H H':Hp) (h h':Heap):Prop where
 keep:∀ b o,h.get? b=some o→H b=none→b∉fs→b∉ex→h'.get? b=some o
 slot:∀ b o,h.get? b=some o→H b=none→b∈fs→b∉ex→∃ sl,h'.get? b=some { o with slots:=sl }
 free:∀ b o,h.get? b=some o→H b=none→b∉ex→H' b=none
 there:∀ b o,h.get? b=some o→b∉ex→∃ o',h'.get? b=some o'
 tups:∀ b xs,H b=some (.tup xs)→H' b=some (.tup xs)
 frzs:∀ b o u,H b=some (.frz o u)→H' b=some (.frz o u)
 tbls:∀ b ps,H b=some (.tbl ps)→∃ more,H' b=some (.tbl (ps++more))
section
variable {fs fs' ex ex':List Addr} {H H1 H2:Hp} {h h1 h2 h':Heap} {a x e:Addr} {o:HO}
theorem Un.any (u:Un fs ex H H1 h h1) {b:Addr} {ob:Obj} (q:h.get? b=some ob) (n:H b=none) (hx:b∉ex):∃ sl,h1.get? b=some { ob with slots:=sl }:=by
 by_cases hb:b∈fs
 ·exact u.slot b ob q n hb hx
 ·exact⟨ob.slots,u.keep b ob q n hb hx⟩
theorem Un.trans (a:Un fs ex H H1 h h1) (b:Un fs ex H1 H2 h1 h2):Un fs ex H H2 h h2 where
 keep:=fun c ob q n hc hx=>b.keep c ob (a.keep c ob q n hc hx) (a.free c ob q n hx) hc hx
 slot:=fun c ob q n hc hx=>by
  obtain⟨sl,e1⟩:=a.slot c ob q n hc hx
  obtain⟨sl',e2⟩:=b.slot c _ e1 (a.free c ob q n hx) hc hx
  exact⟨sl',e2⟩
 free:=fun c ob q n hx=>by
  obtain⟨o',e1⟩:=a.there c ob q hx
  exact b.free c o' e1 (a.free c ob q n hx) hx
 there:=fun c ob q hx=>by
  obtain⟨o',e1⟩:=a.there c ob q hx
  exact b.there c o' e1 hx
 tups:=fun c xs q=>b.tups c xs (a.tups c xs q)
 frzs:=fun c ob xs q=>b.frzs c ob xs (a.frzs c ob xs q)
 tbls:=fun c ps q=>by
  obtain⟨m1,e1⟩:=a.tbls c ps q
  obtain⟨m2,e2⟩:=b.tbls c _ e1
  exact⟨m1++m2,by rw[e2,Array.append_assoc]⟩
theorem Un.kept (k:∀ b u,h.get? b=some u→h'.get? b=some u):Un fs ex H H h h' :=
 ⟨fun b ob q _ _ _=>k b ob q,fun b ob q _ _ _=>⟨ob.slots,k b ob q⟩,fun _ _ _ n _=>n,fun b ob q _=>⟨ob,k b ob q⟩,fun _ _ q=>q,fun _ _ _ q=>q,fun _ ps q=>⟨#[],by rw[q];simp⟩⟩
theorem Un.refl:Un fs ex H H h h:=Un.kept fun _ _ q=>q
theorem Un.laid (k:∀ b u,h.get? b=some u→h'.get? b=some u) (hp:h.objs.size≤a) (hn:H a=none):Un fs ex H (upd H a o) h h' where
 keep:=fun b u q _ _ _=>k b u q
 slot:=fun b u q _ _ _=>⟨u.slots,k b u q⟩
 free:=fun b u q n _=>by rw[aG (Nat.ne_of_lt (Nat.lt_of_lt_of_le (Heap.lt_size q) hp))];exact n
 there:=fun b u q _=>⟨u,k b u q⟩
 tups:=fun b xs q=>by rw[aG (aL q hn)];exact q
 frzs:=fun b u xs q=>by rw[aG (aL q hn)];exact q
 tbls:=fun b ps q=>⟨#[],by rw[aG (aL q hn),q];simp⟩
theorem Un.write (mu:Mut (H x)) (he:e=x∨H e=some (.own x)) (k:∀ b u,b≠e→h.get? b=some u→h'.get? b=some u) (heo:∃ u,h'.get? e=some u):Un fs ex H (upd H x o) h h':=by
 have hx:∀ b,H b=none→b≠x:=fun b n z=>by subst z;rw[n] at mu;exact mu
 have hb:∀ b,H b=none→b≠e:=fun b n z=>by
  subst z
  rcases he with r | r
  ·exact hx b n r
  ·rw[n] at r;cases r
 have hm:∀ b u,H b=some u→¬ Mut (some u)→b≠x:=fun b u q nm z=>by subst z;rw[q] at mu;exact nm mu
 refine⟨fun b u q n _ _=>k b u (hb b n) q,fun b u q n _ _=>⟨u.slots,k b u (hb b n) q⟩,fun b u q n _=>by rw[aG (hx b n)];exact n,fun b u q _=>?_,
  fun b xs q=>by rw[aG (hm b _ q fun z=>z)];exact q,fun b u xs q=>by rw[aG (hm b _ q fun z=>z)];exact q,fun b ps q=>⟨#[],by rw[aG (hm b _ q fun z=>z),q];simp⟩⟩
 by_cases hbe:b=e
 ·subst hbe;exact heo
 ·exact⟨u,k b u hbe q⟩
theorem Un.mono (u:Un fs ex H H1 h h1) (hs:∀ b∈fs,b∈fs') (hx:∀ b∈ex,b∈ex'):Un fs' ex' H H1 h h1 :=
 ⟨fun b ob q n hb he=>u.keep b ob q n (fun z=>hb (hs b z)) fun z=>he (hx b z),fun _ _ q n _ he=>u.any q n fun z=>he (hx _ z),fun b ob q n he=>u.free b ob q n fun z=>he (hx b z),fun b ob q he=>u.there b ob q fun z=>he (hx b z),u.tups,u.frzs,u.tbls⟩
end
def trk (h:Heap) (H:Hp):List Addr:=(List.range h.objs.size).filter fun a=>(H a).isSome
def hidT (h:Heap) (H:Hp):Heap:=W.hideAll h (trk h H)
theorem alu (h:Heap) (H:Hp):(hidT h H).objs.size=h.objs.size:=W.hideAll_size _ _
theorem amH {h:Heap} {H:Hp} {b:Addr} {o:Obj} (e:h.get? b=some o) (n:H b=none):(hidT h H).get? b=some o :=
 W.hideAll_get _ e fun hm=>by
  have q:(H b).isSome=true:=(List.mem_filter.mp hm).2
  rw[n] at q;simp at q
theorem an3 {h:Heap} {H:Hp} {b:Addr} {o:Obj} (e:(hidT h H).get? b=some o):h.get? b=some o∧H b=none:=by
 have e':h.get? b=some o:=W.of_hideAll (trk h H) e
 refine⟨e',?_⟩
 cases q:H b with
 | none=>rfl
 | some x =>
  have hm:b∈trk h H:=List.mem_filter.mpr ⟨List.mem_range.mpr (Heap.lt_size e'),by simp [q]⟩
  have z:(hidT h H).get? b=none:=W.hideAll_none (trk h H) hm
  rw[z] at e;cases e
def an4 (g h:Heap) (L:Addr):List (Addr×Obj):=(List.range h.objs.size).filterMap fun a=>if a=L∨(g.get? a).isSome=true then none else (h.get? a).map fun o=>(a,o)
def rest (g h:Heap) (L d:Addr):List (Addr×Obj):=(an4 g h L).filter fun p=>decide (p.1≠d)
end L2
namespace L2
open PySem PySem.Spec PyProof.Rows
structure Mod (K:W.Frag) (mg:Str→Option Value) (base:Heap):Prop where
 kin:K.In base
 glob:base.Ns mainGlobals mg
 blt:∃ mb,base.Ns builtinsNs mb∧∀ x:Str,x ≠ "__name__" → mb x=bootBuiltins x
 nolimit:base.NoLimit
structure Cx where
 prog:Program
 w:World
 K:W.Frag
 mg:Str→Option Value
 base:Heap
 A:Around
 N:List Str
 s₀ : Shared
 H₀ : Hp
 env:Env
 outer:List Env
 stack:List Env
 ex:List Addr
 fn:Str→Bool
 calm:Bool
 pn:List (Addr×Obj)
 xe:Value→Shared→Prop
def frs (l:List Env):List Addr:=l.filterMap (·.frame)
abbrev Cx.fs (X:Cx):List Addr:=frs X.outer
def Vis (sc:Scope) (x:Str):Prop:=sc.names.lookup x=some .local∨sc.names.lookup x=some .cell∨sc.names.lookup x=some .free
def Loc (sc:Scope) (x:Str):Prop:=sc.names.lookup x=some .local∨sc.names.lookup x=some .cell
def Look (env:Env) (h:Heap) (m:Str→Option Value) (x:Str) (u:Value):Prop :=
 (env.kindOf x=some .local∧m x=some u)∨((env.kindOf x=some .cell∨env.kindOf x=some .free)∧∃ c,env.cells.lookup x=some c∧h.IsCell c (some u))
structure Cx.Ok (X:Cx):Prop where
 mod:Mod X.K X.mg X.base
 kind:X.env.scope.kind = .function
 glob:X.env.globals=mainGlobals
 blt:X.env.builtins=builtinsNs
 above:X.s₀.heap.objs.size≤X.env.locals
 inj:∀ x y c,X.env.cells.lookup x=some c→X.env.cells.lookup y=some c→x=y
 has:∀ x,(X.env.kindOf x=some .cell∨X.env.kindOf x=some .free)→∃ c,X.env.cells.lookup x=some c
 cab:∀ x c,X.fn x=true→X.env.cells.lookup x=some c→X.s₀.heap.objs.size≤c
 hd:X.calm=true→X.A.handled=none
 frames:X.A.frames=some X.stack
 stk:X.stack=X.outer∨(X.stack=X.env::X.outer∧X.env.frame=some X.env.locals)
 exf:∀ b∈X.ex,b≠X.env.locals∧∀ x c,X.env.cells.lookup x=some c→c≠b
 bs:∀ b o,X.base.get? b=some o→X.s₀.heap.get? b=some o∧X.H₀ b=none
 bsz:X.base.objs.size≤X.s₀.heap.objs.size
 noex:∀ b o,X.base.get? b=some o→b∉X.ex
 exfs:∀ b∈X.ex,b∉X.fs
 funs:X.s₀.heap.FunFrames X.base X.outer
 frf:∀ b∈X.fs,X.H₀ b=none
structure Inv (X:Cx) (pins:List (Addr×Obj)) (σ : List (Option V)) (H:Hp) (s:Shared):Prop where
 ok:X.Ok
 os:s.os=X.s₀.os
 bare:AllBare s.gens
 base:Un X.fs X.ex X.H₀ H X.s₀.heap s.heap
 loc:∃ m,s.heap.Ns X.env.locals m∧∀ (i:Nat) (x:Str) (v:V),X.N[i]? = some x → σ[i]? = some (some v)→Vis X.env.scope x→∃ u,RelV v u∧Look X.env s.heap m x u
 cell:∀ x c,X.env.cells.lookup x=some c→∃ v,s.heap.IsCell c v
 free:H X.env.locals=none
 Mv:∀ x c,X.env.cells.lookup x=some c→H c=none
 pin:∀ p∈X.pn++pins,s.heap.get? p.1=some p.2∧H p.1=none∧p.1≠X.env.locals∧p.1∉X.fs∧∀ v,p.2.data ≠ .cell v
 hok:HOk X.prog X.w H s.heap
 len : σ.length=X.N.length
section
variable {X:Cx} {pins:List (Addr×Obj)} {σ : List (Option V)} {H H':Hp} {s:Shared} {h':Heap}
theorem Cx.Ok.nofr (ok:X.Ok) {b:Addr} {o:Obj} (e:X.base.get? b=some o):b∉X.fs:=fun hb=>by
 have:=(ok.funs.mem hb).1
 rw[e] at this;cases this
theorem Inv.bs (I:Inv X pins σ H s):∀ b o,X.base.get? b=some o→s.heap.get? b=some o∧H b=none:=fun b o e =>
 ⟨I.base.keep b o (I.ok.bs b o e).1 (I.ok.bs b o e).2 (I.ok.nofr e) (I.ok.noex b o e),I.base.free b o (I.ok.bs b o e).1 (I.ok.bs b o e).2 (I.ok.noex b o e)⟩
theorem Inv.bk (I:Inv X pins σ H s):∀ b o,X.base.get? b=some o→s.heap.get? b=some o:=fun b o e=>(I.bs b o e).1
theorem Inv.mod (I:Inv X pins σ H s):Mod X.K X.mg X.base:=I.ok.mod
theorem Inv.kIn (I:Inv X pins σ H s):X.K.In s.heap:=I.ok.mod.kin.keeps I.bk
theorem Inv.nolimit (I:Inv X pins σ H s):s.heap.NoLimit:=I.ok.mod.nolimit.keeps I.bk
theorem Inv.fr (I:Inv X pins σ H s):∃ m,Fr X.base X.env.locals s.heap m :=
 let ⟨m,hn,_⟩:=I.loc
 ⟨m,hn,I.bk,Nat.le_trans I.ok.bsz I.ok.above⟩
theorem Inv.lt (I:Inv X pins σ H s):X.env.locals<s.heap.objs.size:=let ⟨_,hn,_⟩:=I.loc;hn.lt
theorem Inv.sz (I:Inv X pins σ H s):X.s₀.heap.objs.size≤s.heap.objs.size:=Nat.le_trans I.ok.above (Nat.le_of_lt I.lt)
theorem Inv.nofs (I:Inv X pins σ H s) {a:Addr} (h:s.heap.objs.size≤a):a∉X.fs:=fun hb=>by
 obtain⟨_,o,ho,_⟩:=I.ok.funs.mem hb
 exact absurd (Nat.lt_of_lt_of_le (Heap.lt_size ho) (Nat.le_trans I.sz h)) (Nat.lt_irrefl _)
theorem Inv.cne (I:Inv X pins σ H s):∀ x c,X.env.cells.lookup x=some c→c≠X.env.locals:=fun x c e z=>by
 obtain⟨v,o,ho,hd⟩:=I.cell x c e
 obtain⟨m,⟨o',es,ep,ho',hd',_⟩,_⟩:=I.loc
 rw[z,ho'] at ho;cases ho;rw[hd'] at hd;cases hd
theorem Inv.funs (I:Inv X pins σ H s):s.heap.FunFrames X.base X.outer:=by
 have all:∀ (l:List Env),(∀ b∈frs l,b∈X.fs)→X.s₀.heap.FunFrames X.base l→s.heap.FunFrames X.base l:=by
  intro l
  induction l with
  | nil=>intro _ _;trivial
  | cons env r ih =>
   intro hs hl
   obtain⟨hk,⟨L,o,hf,hn,ho,hd⟩,hr⟩:=hl
   have hL:L∈X.fs:=hs L (by unfold frs;rw[List.filterMap_cons,hf];exact List.mem_cons_self)
   obtain⟨sl,e⟩:=I.base.slot L o ho (I.ok.frf L hL) hL fun z=>I.ok.exfs L z hL
   exact⟨hk,⟨L,_,hf,hn,e,hd⟩,ih (fun b hb=>hs b (by unfold frs;rw[List.filterMap_cons,hf];exact List.mem_cons_of_mem _ hb)) hr⟩
 exact all X.outer (fun _ hb=>hb) I.ok.funs
theorem Inv.stack (I:Inv X pins σ H s):s.heap.FunFrames X.base X.stack:=by
 rcases I.ok.stk with e | ⟨e,hf⟩
 ·rw[e];exact I.funs
 ·rw[e]
  obtain⟨m,hn,_⟩:=I.loc
  refine .cons (by rw[I.ok.kind];decide) hf hn ?_ I.funs
  exact Heap.get?_none_of_le (Nat.le_trans I.ok.bsz I.ok.above)
theorem Inv.ajf (I:Inv X pins σ H s):∀ b∈frs X.stack,b∈X.env.locals::X.fs:=fun b hb=>by
 rcases I.ok.stk with e | ⟨e,hf⟩
 ·rw[e] at hb;exact List.mem_cons_of_mem _ hb
 ·rw[e] at hb
  unfold frs at hb
  rw[List.filterMap_cons,hf] at hb
  exact hb
theorem Inv.akE (I:Inv X pins σ H s):∀ b∈frs X.stack,H b=none:=fun b hb=>by
 rcases List.mem_cons.mp (I.ajf b hb) with e | hb
 ·rw[e];exact I.free
 ·obtain⟨_,o,ho,_⟩:=I.ok.funs.mem hb
  exact I.base.free b o ho (I.ok.frf b hb) fun z=>I.ok.exfs b z hb
theorem Inv.step {g':Array GenState} {t':Nat} {d':Drawn} {ch:List Addr} (I:Inv X pins σ H s)
  (hch:∀ b∈ch,(b∈X.ex∨X.s₀.heap.objs.size≤b)∧b≠X.env.locals∧(∀ x c,X.env.cells.lookup x=some c→c≠b)∧∀ p∈X.pn++pins,p.1≠b)
  (keep:∀ b o,b≠X.env.locals→b∉X.fs→b∉ch→s.heap.get? b=some o→H b=none→h'.get? b=some o)
  (slot:∀ b o,b≠X.env.locals→b∈X.fs→b∉ch→s.heap.get? b=some o→H b=none→∃ sl,h'.get? b=some { o with slots:=sl }) (free:∀ b o,b∉ch→s.heap.get? b=some o→H b=none→H' b=none)
  (there:∀ b o,b∉ch→s.heap.get? b=some o→∃ o',h'.get? b=some o')
  (tups:∀ b xs,H b=some (.tup xs)→H' b=some (.tup xs)) (frzs:∀ b o u,H b=some (.frz o u)→H' b=some (.frz o u)) (tbls:∀ b ps,H b=some (.tbl ps)→∃ more,H' b=some (.tbl (ps++more)))
  (ns:∀ m,s.heap.Ns X.env.locals m→h'.Ns X.env.locals m) (hok:HOk X.prog X.w H' h') (hg:AllBare g') :
  Inv X pins σ H' { s with heap:=h',gens:=g',drawn:=d',toks:=t' }:=by
 have neL:∀ b o,X.s₀.heap.get? b=some o→b≠X.env.locals:=fun b o e=>Nat.ne_of_lt (Nat.lt_of_lt_of_le (Heap.lt_size e) I.ok.above)
 have neC:∀ b o,X.s₀.heap.get? b=some o→b∉X.ex→b∉ch:=fun b o e hx hb=>by
  rcases (hch b hb).1 with z | z
  ·exact hx z
  ·exact absurd (Nat.lt_of_lt_of_le (Heap.lt_size e) z) (Nat.lt_irrefl _)
 have cellK:∀ x c,X.env.cells.lookup x=some c→∀ v,s.heap.IsCell c v→h'.IsCell c v:=fun x c e v ⟨o,ho,hd⟩=>by
  have nch:c∉ch:=fun z=>(hch c z).2.2.1 x c e rfl
  by_cases hc:c∈X.fs
  ·obtain⟨sl,q⟩:=slot c o (I.cne x c e) hc nch ho (I.Mv x c e)
   exact⟨_,q,hd⟩
  ·exact⟨o,keep c o (I.cne x c e) hc nch ho (I.Mv x c e),hd⟩
 refine⟨I.ok,I.os,hg,⟨fun b o e n hb hx=>?_,fun b o e n hb hx=>?_,fun b o e n hx=>?_,fun b o e hx=>?_,fun b xs e=>tups b xs (I.base.tups b xs e),fun b o xs e=>frzs b o xs (I.base.frzs b o xs e),fun b ps e=>?_⟩,?_,fun x c e=>?_,?_,fun x c e=>?_,fun p hp=>?_,hok,I.len⟩
 ·exact keep b o (neL b o e) hb (neC b o e hx) (I.base.keep b o e n hb hx) (I.base.free b o e n hx)
 ·obtain⟨sl,e1⟩:=I.base.slot b o e n hb hx
  obtain⟨sl',e2⟩:=slot b _ (neL b o e) hb (neC b o e hx) e1 (I.base.free b o e n hx)
  exact⟨sl',e2⟩
 ·obtain⟨o',e1⟩:=I.base.there b o e hx
  exact free b o' (neC b o e hx) e1 (I.base.free b o e n hx)
 ·obtain⟨o',e1⟩:=I.base.there b o e hx
  exact there b o' (neC b o e hx) e1
 ·obtain⟨m1,e1⟩:=I.base.tbls b ps e
  obtain⟨m2,e2⟩:=tbls b _ e1
  exact⟨m1++m2,by rw[e2,Array.append_assoc]⟩
 ·obtain⟨m,hn,hl⟩:=I.loc
  refine⟨m,ns m hn,fun i x v e1 e2 e3=>?_⟩
  obtain⟨u,r,l⟩:=hl i x v e1 e2 e3
  refine⟨u,r,?_⟩
  rcases l with l | ⟨k,c,e,z⟩
  ·exact .inl l
  ·exact .inr ⟨k,c,e,cellK x c e _ z⟩
 ·obtain⟨v,z⟩:=I.cell x c e
  exact⟨v,cellK x c e v z⟩
 ·obtain⟨m,⟨o,_,_,ho,_⟩,_⟩:=I.loc
  exact free _ o (fun z=>(hch _ z).2.1 rfl) ho I.free
 ·obtain⟨v,o,ho,hd⟩:=I.cell x c e
  exact free c o (fun z=>(hch c z).2.2.1 x c e rfl) ho (I.Mv x c e)
 ·obtain⟨e,n,ne,nf,d⟩:=I.pin p hp
  have nch:p.1∉ch:=fun z=>(hch p.1 z).2.2.2 p hp rfl
  exact⟨keep p.1 p.2 ne nf nch e n,free p.1 p.2 nch e n,ne,nf,d⟩
theorem Inv.un {t':Nat} (I:Inv X pins σ H s) (u:Un X.fs [] H H' s.heap h') (hok:HOk X.prog X.w H' h'):Inv X pins σ H' { s with heap:=h',toks:=t' }:=by
 obtain⟨m,⟨o,es,ep,ho,r⟩,_⟩:=id I.loc
 obtain⟨sl,hL⟩:=u.any ho I.free (by simp)
 exact I.step (g':=s.gens) (d':=s.drawn) (ch:=[]) (fun _ z=>nomatch z) (fun b o _ hb _ e n=>u.keep b o e n hb (by simp)) (fun b o _ hb _ e n=>u.slot b o e n hb (by simp)) (fun b o _ e n=>u.free b o e n (by simp)) (fun b o _ e=>u.there b o e (by simp)) u.tups u.frzs u.tbls (fun m' hm=>by
  obtain⟨o',es',ep',ho',r'⟩:=hm
  rw[ho] at ho';cases ho'
  exact⟨_,es',ep',hL,r'⟩) hok I.bare
theorem Inv.call {g':Array GenState} {t':Nat} {d':Drawn} {ch:List Addr} (I:Inv X pins σ H s) (u:Un (frs X.stack) ch H H' s.heap h') (hok:HOk X.prog X.w H' h') (hg:AllBare g')
  (hch:∀ b∈ch,(b∈X.ex∨X.s₀.heap.objs.size≤b)∧b≠X.env.locals∧(∀ x c,X.env.cells.lookup x=some c→c≠b)∧∀ p∈X.pn++pins,p.1≠b) :
  Inv X pins σ H' { s with heap:=h',gens:=g',drawn:=d',toks:=t' }:=by
 obtain⟨m,⟨o,es,ep,ho,r⟩,_⟩:=id I.loc
 obtain⟨sl,hL⟩:=u.any ho I.free fun z=>(hch _ z).2.1 rfl
 exact I.step (ch:=ch) hch (fun b o hL hb hc e n=>u.keep b o e n (fun z=>(List.mem_cons.mp (I.ajf b z)).elim hL hb) hc) (fun b o _ _ hc e n=>u.any e n hc) (fun b o hc e n=>u.free b o e n hc) (fun b o hc e=>u.there b o e hc) u.tups u.frzs u.tbls (fun m' hm=>by
  obtain⟨o',es',ep',ho',r'⟩:=hm
  rw[ho] at ho';cases ho'
  exact⟨_,es',ep',hL,r'⟩) hok hg
theorem Inv.turned {t':Nat} {it:Addr} (I:Inv X pins σ H s) (k:∀ b o,b≠it→s.heap.get? b=some o→h'.get? b=some o) (hn:H it=none) (hL:it≠X.env.locals)
  (h1:it∈X.ex∨X.s₀.heap.objs.size≤it) (h2:∀ x c,X.env.cells.lookup x=some c→c≠it) (h3:∀ p∈X.pn++pins,p.1≠it):Inv X pins σ H { s with heap:=h',toks:=t' }:=by
 have nit:∀ b u,H b=some u→b≠it:=fun b u e z=>by rw[z,hn] at e;cases e
 refine I.step (g':=s.gens) (d':=s.drawn) (ch:=[it]) (fun b hb=>?_) (fun b o _ _ hc e _=>k b o (fun z=>hc (by simp [z])) e) (fun b o _ _ hc e _=>⟨o.slots,k b o (fun z=>hc (by simp [z])) e⟩) (fun _ _ _ _ n=>n)
  (fun b o hc e=>⟨o,k b o (fun z=>hc (by simp [z])) e⟩) (fun _ _ e=>e) (fun _ _ _ e=>e) (fun b ps e=>⟨#[],by rw[e];simp⟩) (fun m hm=>?_) (fun b u e=>?_) I.bare
 ·have e:b=it:=by simpa using hb
  subst e
  exact⟨h1,hL,h2,h3⟩
 ·obtain⟨o,es,ep,ho,r⟩:=hm
  exact⟨o,es,ep,k _ o (Ne.symm hL) ho,r⟩
 ·refine(I.hok b u e).stay (fun c v hc q=>k c v ?_ q) (fun _ q=>q) fun _ _ q=>q
  rcases hc with z | z
  ·rw[z];exact nit b u e
  ·exact nit c _ z
theorem Inv.tok (I:Inv X pins σ H s) (t:Nat):Inv X pins σ H { s with toks:=t }:=I.un (h':=s.heap) (t':=t) Un.refl I.hok
theorem Inv.kept {t':Nat} (I:Inv X pins σ H s) (k:∀ b u,s.heap.get? b=some u→h'.get? b=some u):Inv X pins σ H { s with heap:=h',toks:=t' }:=I.un (Un.kept k) (I.hok.kept k)
theorem Inv.laid {a:Addr} {o:HO} {t':Nat} (I:Inv X pins σ H s) (k:∀ b u,s.heap.get? b=some u→h'.get? b=some u) (hp:s.heap.objs.size≤a) (new:jl X.prog X.w (upd H a o) h' a o) :
  Inv X pins σ (upd H a o) { s with heap:=h',toks:=t' }:=I.un (Un.laid k hp (I.hok.fresh hp)) (I.hok.laid k hp new)
theorem Inv.write {x e:Addr} {o:HO} {t':Nat} (I:Inv X pins σ H s) (mu:Mut (H x)) (he:e=x∨H e=some (.own x)) (k:∀ b u,b≠e→s.heap.get? b=some u→h'.get? b=some u) (heo:∃ u,h'.get? e=some u)
  (new:jl X.prog X.w (upd H x o) h' x o):Inv X pins σ (upd H x o) { s with heap:=h',toks:=t' }:=I.un (Un.write mu he k heo) (I.hok.write mu he k heo new)
theorem Inv.aeP {aoK:List (Addr×Obj)} (I:Inv X pins σ H s) (h:∀ p∈aoK,s.heap.get? p.1=some p.2∧H p.1=none∧p.1≠X.env.locals∧p.1∉X.fs∧∀ v,p.2.data ≠ .cell v):Inv X aoK σ H s :=
 ⟨I.ok,I.os,I.bare,I.base,I.loc,I.cell,I.free,I.Mv,fun p hp=>(List.mem_append.mp hp).elim (fun z=>I.pin p (List.mem_append_left _ z)) (h p),I.hok,I.len⟩
theorem ahj {N:List Str} (hN:N.Nodup) {i j:Nat} {x:Str} (a:N[i]? = some x) (b:N[j]? = some x):i=j:=by
 obtain⟨h1,e1⟩:=List.getElem?_eq_some_iff.mp a
 obtain⟨h2,e2⟩:=List.getElem?_eq_some_iff.mp b
 exact(List.getElem_inj hN).mp (e1.trans e2.symm)
theorem alv {M:Model} {A:Around} {E:Value→Shared→Prop} {i:Nat} {x:Str} {v:V} {u:Value} {Q:Unit→Shared→Prop} (I:Inv X pins σ H s) (hN:X.N.Nodup) (hi:X.N[i]? = some x) (hx:Loc X.env.scope x) (r:RelV v u)
  (h:∀ s',Inv X pins (σ.set i (some v)) H s'→(∃ a,Heap.SameBut a s.heap s'.heap∧(a=X.env.locals∨X.env.cells.lookup x=some a))→Q () s') (hf:X.fn x=true∨X.env.scope.names.lookup x=some .local:=by first | exact .inl rfl | exact .inr rfl | assumption):wpAny M A (storeName X.env x u) Q E s:=by
 obtain⟨m,hn,hl⟩:=id I.loc
 have hcls:(X.env.scope.kind == .class || (X.env.scope.kind == .module && X.env.locals != X.env.globals))=false:=by rw[I.ok.kind];rfl
 have hiσ : i < σ.length:=by rw[I.len];exact(List.getElem?_eq_some_iff.mp hi).1
 have cne:=I.cne
 have tracked:∀ {a:Addr} {h':Heap},(∃ o,s.heap.get? a=some o∧H a=none)→Heap.SameBut a s.heap h'→HOk X.prog X.w H h':=fun {a h'} ha hs b ob e=>by
  obtain⟨_,_,hfree⟩:=ha
  refine(I.hok b ob e).stay (fun c w' hc q=>(hs.2 c ?_).trans q) (fun _ q=>q) fun _ _ q=>q
  rintro rfl
  rcases hc with rfl | hc
  ·rw[hfree] at e;cases e
  ·rw[hfree] at hc;cases hc
 rcases hx with hk | hk
 ·refine wpAny_storeName_local hk hn (fun h' hn' hs=>?_) hcls
  obtain⟨oL,_,_,hoL,_⟩:=id hn
  refine h _ ⟨I.ok,I.os,I.bare,⟨fun b o e n hb hx=>?_,fun b o e n hb hx=>?_,I.base.free,fun b o e hx=>?_,I.base.tups,I.base.frzs,I.base.tbls⟩,⟨_,hn',fun j y v' e1 e2 e3=>?_⟩,fun y c e=>?_,I.free,I.Mv,fun p hp=>?_,tracked ⟨oL,hoL,I.free⟩ hs,by simpa using I.len⟩ ⟨_,hs,.inl rfl⟩
  ·exact(hs.2 b (Nat.ne_of_lt (Nat.lt_of_lt_of_le (Heap.lt_size e) I.ok.above))).trans (I.base.keep b o e n hb hx)
  ·obtain⟨sl,e1⟩:=I.base.slot b o e n hb hx
   exact⟨sl,(hs.2 b (Nat.ne_of_lt (Nat.lt_of_lt_of_le (Heap.lt_size e) I.ok.above))).trans e1⟩
  ·obtain⟨o',e1⟩:=I.base.there b o e hx
   exact⟨o',(hs.2 b (Nat.ne_of_lt (Nat.lt_of_lt_of_le (Heap.lt_size e) I.ok.above))).trans e1⟩
  ·by_cases hj:j=i
   ·subst hj
    rw[hi] at e1;cases e1
    rw[List.getElem?_set_self hiσ] at e2
    cases e2
    exact⟨u,r,.inl ⟨hk,by simp⟩⟩
   ·rw[List.getElem?_set_ne (Ne.symm hj)] at e2
    obtain⟨u',r',q⟩:=hl j y v' e1 e2 e3
    refine⟨u',r',?_⟩
    rcases q with ⟨k,e⟩ | ⟨k,c,e,z⟩
    ·refine .inl ⟨k,?_⟩
     have:y≠x:=fun e=>hj (ahj hN e1 (e ▸ hi))
     simp [this,e]
    ·exact .inr ⟨k,c,e,z.sameBut hs (cne y c e)⟩
  ·obtain⟨w',z⟩:=I.cell y c e
   exact⟨w',z.sameBut hs (cne y c e)⟩
  ·obtain⟨e,n,ne,nf,d⟩:=I.pin p hp
   exact⟨(hs.2 p.1 ne).trans e,n,ne,nf,d⟩
 ·have hfn:X.fn x=true:=by
   rcases hf with z | z
   ·exact z
   ·rw[z] at hk;cases hk
  obtain⟨c,hc⟩:=I.ok.has x (.inl hk)
  obtain⟨w',z⟩:=I.cell x c hc
  refine wpAny_storeName_cell I.ok.kind hk hc z (fun h' hc' hs=>?_)
  obtain⟨oc,hoc,hocd⟩:=id z
  refine h { s with heap:=h' } ⟨I.ok,I.os,I.bare,⟨fun b o e n hb hx=>?_,fun b o e n hb hx=>?_,I.base.free,fun b o e hx=>?_,I.base.tups,I.base.frzs,I.base.tbls⟩,⟨m,hn.sameBut hs (Ne.symm (cne x c hc)),fun j y v' e1 e2 e3=>?_⟩,fun y c' e=>?_,I.free,I.Mv,fun p hp=>?_,tracked ⟨oc,hoc,I.Mv x c hc⟩ hs,by simpa using I.len⟩ ⟨c,hs,.inr hc⟩
  ·exact(hs.2 b (Nat.ne_of_lt (Nat.lt_of_lt_of_le (Heap.lt_size e) (I.ok.cab x c hfn hc)))).trans (I.base.keep b o e n hb hx)
  ·obtain⟨sl,e1⟩:=I.base.slot b o e n hb hx
   exact⟨sl,(hs.2 b (Nat.ne_of_lt (Nat.lt_of_lt_of_le (Heap.lt_size e) (I.ok.cab x c hfn hc)))).trans e1⟩
  ·obtain⟨o',e1⟩:=I.base.there b o e hx
   exact⟨o',(hs.2 b (Nat.ne_of_lt (Nat.lt_of_lt_of_le (Heap.lt_size e) (I.ok.cab x c hfn hc)))).trans e1⟩
  ·by_cases hj:j=i
   ·subst hj
    rw[hi] at e1;cases e1
    rw[List.getElem?_set_self hiσ] at e2
    cases e2
    exact⟨u,r,.inr ⟨.inl hk,c,hc,hc'⟩⟩
   ·rw[List.getElem?_set_ne (Ne.symm hj)] at e2
    obtain⟨u',r',q⟩:=hl j y v' e1 e2 e3
    refine⟨u',r',?_⟩
    rcases q with q | ⟨k,c',e,z'⟩
    ·exact .inl q
    ·refine .inr ⟨k,c',e,z'.sameBut hs ?_⟩
     rintro rfl
     exact hj (ahj hN e1 (I.ok.inj _ _ _ e hc ▸ hi))
  ·by_cases hcc:c' = c
   ·subst hcc;exact⟨_,hc'⟩
   ·obtain⟨w2,z2⟩:=I.cell y c' e
    exact⟨w2,z2.sameBut hs hcc⟩
  ·obtain⟨e,n,ne,nf,d⟩:=I.pin p hp
   refine⟨(hs.2 p.1 ?_).trans e,n,ne,nf,d⟩
   intro q
   rw[q,hoc] at e
   have q':oc=p.2:=Option.some.inj e
   exact d w' (by rw[← q'];exact hocd)
theorem G7 {M:Model} {A:Around} {E:Value→Shared→Prop} {i:Nat} {x:Str} {v:V} {u:Value} {Q:Unit→Shared→Prop} (I:Inv X pins σ H s) (hN:X.N.Nodup) (hi:X.N[i]? = some x) (hx:Loc X.env.scope x) (r:RelV v u)
  (h:∀ s',Inv X pins (σ.set i (some v)) H s'→Q () s') (hf:X.fn x=true∨X.env.scope.names.lookup x=some .local:=by first | exact .inl rfl | exact .inr rfl | assumption):wpAny M A (storeName X.env x u) Q E s :=
 alv I hN hi hx r (fun s' I' _=>h s' I') hf
theorem Inv.call' {s':Shared} {ch:List Addr} (I:Inv X pins σ H s) (ho:s'.os=s.os) (u:Un (frs X.stack) ch H H' s.heap s'.heap) (hok:HOk X.prog X.w H' s'.heap) (hg:AllBare s'.gens)
  (hch:∀ b∈ch,(b∈X.ex∨X.s₀.heap.objs.size≤b)∧b≠X.env.locals∧(∀ x c,X.env.cells.lookup x=some c→c≠b)∧∀ p∈X.pn++pins,p.1≠b):Inv X pins σ H' s':=by
 obtain⟨h',g',d',t',o'⟩:=s'
 have e:o' = s.os:=ho
 subst e
 exact I.call (g':=g') (t':=t') (d':=d') u hok hg hch
end
abbrev XK:=Value→Option Addr→Hp→Prop
abbrev St:=List (Option V)
abbrev VK:=V→Hp→Prop
abbrev TE:=St→Hp→VK→Prop
abbrev TT:=St→Hp→(Bool→Hp→Prop)→Prop
abbrev TA:=St→Hp→(List V→Hp→Prop)→Prop
structure Ends where
 nx:St→Hp→Prop
 rt:VK
 bk:St→Hp→Prop:=fun _ _=>False
 ct:St→Hp→Prop:=fun _ _=>False
abbrev TS:=Ends→St→Hp→Prop
def EP (X:Cx) (pins:List (Addr×Obj)) (σ : St) (Q:VK) (u:Value) (s':Shared):Prop:=∃ v H',Inv X pins σ H' s'∧RelV v u∧Q v H'
def TP (X:Cx) (pins:List (Addr×Obj)) (σ : St) (Q:Bool→Hp→Prop) (b:Bool) (s':Shared):Prop:=∃ H',Inv X pins σ H' s'∧Q b H'
def AP (X:Cx) (pins:List (Addr×Obj)) (σ : St) (Q:List V→Hp→Prop) (us:List Value) (s':Shared):Prop:=∃ vs H',Inv X pins σ H' s'∧Vals vs us∧Q vs H'
def SP (X:Cx) (pins:List (Addr×Obj)) (D:Ends) (f:Flow) (s':Shared):Prop :=
 match f with
 | .next=>∃ σ' H',Inv X pins σ' H' s'∧D.nx σ' H'
 | .brk=>∃ σ' H',Inv X pins σ' H' s'∧D.bk σ' H'
 | .cont=>∃ σ' H',Inv X pins σ' H' s'∧D.ct σ' H'
 | .ret u=>∃ v σ' H',Inv X pins σ' H' s'∧RelV v u∧D.rt v H'
def PE (X:Cx) (e:Expr) (t:TE):Prop :=
 ∀ (pins:List (Addr×Obj)) (s:Shared) (σ : St) (H:Hp) (Q:VK),Inv X pins σ H s→t σ H Q→wpAny (model X.prog X.w) X.A (eval e X.env) (EP X pins σ Q) X.xe s
def PT (X:Cx) (e:Expr) (t:TT):Prop :=
 ∀ (pins:List (Addr×Obj)) (s:Shared) (σ : St) (H:Hp) (Q:Bool→Hp→Prop),Inv X pins σ H s→t σ H Q→wpAny (model X.prog X.w) X.A (isTrue e X.env (eval e X.env)) (TP X pins σ Q) X.xe s
def PW (X:Cx) (e:Expr) (t:TT):Prop :=
 ∀ (whole:Sem Value) (pins:List (Addr×Obj)) (s:Shared) (σ : St) (H:Hp) (Q:Bool→Hp→Prop),Inv X pins σ H s→t σ H Q→wpAny (model X.prog X.w) X.A (isTrue e X.env whole) (TP X pins σ Q) X.xe s
theorem PW.pt {X:Cx} {e:Expr} {t:TT} (h:PW X e t):PT X e t:=h _
def PA (X:Cx) (es:List Expr) (t:TA):Prop :=
 ∀ (pos:Pos) (pins:List (Addr×Obj)) (s:Shared) (σ : St) (H:Hp) (Q:List V→Hp→Prop),Inv X pins σ H s→t σ H Q→wpAny (model X.prog X.w) X.A (spliced (backTo pos (starEach es X.env))) (AP X pins σ Q) X.xe s
def PS (X:Cx) (st:Stmt) (t:TS):Prop :=
 ∀ (pins:List (Addr×Obj)) (s:Shared) (σ : St) (H:Hp) (D:Ends),Inv X pins σ H s→t D σ H→wpAny (model X.prog X.w) X.A (exec st X.env) (SP X pins D) X.xe s
def PSs (X:Cx) (st:List Stmt) (t:TS):Prop :=
 ∀ (pins:List (Addr×Obj)) (s:Shared) (σ : St) (H:Hp) (D:Ends),Inv X pins σ H s→t D σ H→wpAny (model X.prog X.w) X.A (execs st X.env) (SP X pins D) X.xe s
theorem thn {α : Type} {t:Sem α} {Q Q' : α → Shared→Prop} {M:Model} {A:Around} {E:Value→Shared→Prop} {s:Shared} (h:wpAny M A t Q E s) (hQ:∀ a s,Q a s→Q' a s):wpAny M A t Q' E s:=wpAny_mono h hQ fun _ _ x=>x
end L2
namespace L2
open PySem PySem.Spec PyProof.Rows
section
variable {X:Cx}
def tVar (i:Nat):TE:=fun σ H Q=>∃ v,σ[i]? = some (some v)∧Q v H
def tC (v:V):TE:=fun _ H Q=>Q v H
theorem ao9 {i:Nat} {x:Str} {pos:Pos} (hN:X.N[i]? = some x) (hv:Vis X.env.scope x) (hd:(x == ("__debug__" : Str))=false:=by decide) (hcd:(x == ("__classdict__" : Str))=false:=by decide):PE X (.Name x pos) (tVar i):=by
 intro pins s σ H Q I h
 obtain⟨v,e,h⟩:=h
 obtain⟨m,hn,hl⟩:=I.loc
 obtain⟨u,r,l⟩:=hl i x v hN e hv
 have fin:EP X pins σ Q u s:=⟨v,H,I,r,h⟩
 rcases l with ⟨hk,hm⟩ | ⟨hk,c,hc,hcell⟩
 ·exact wpAny_Name (wpAny_loadName_local I.ok.kind hk hn hm fin) hd
 ·rcases hk with hk | hk
  ·exact wpAny_Name (wpAny_loadName_cell I.ok.kind hk hc hcell fin) hd
  ·exact wpAny_Name (wpAny_loadName_free I.ok.kind hk hc hcell fin hcd) hd
theorem aA {i j pos}:PE X (.Constant (.int i) j pos) (tC (.int i)):=fun _ _ _ H _ I h=>wpAny_Constant_int ⟨.int i,H,I.tok _,⟨_,rfl⟩,h⟩
theorem cH {b j pos}:PE X (.Constant (.bool b) j pos) (tC (.bl b)):=fun _ _ _ H _ I h=>Constant_bool ⟨.bl b,H,I,rfl,h⟩
theorem amI {j pos}:PE X (.Constant .none j pos) (tC .non):=fun _ _ _ H _ I h=>Constant_none ⟨.non,H,I,rfl,h⟩
def Gl (X:Cx) (x:Str):Prop:=X.env.kindOf x=some .globalImplicit
theorem aeQ {E:Value→Shared→Prop} {pins:List (Addr×Obj)} {s:Shared} {σ : St} {H:Hp} {x:Str} {u:Value} {pos:Pos} {Q:Value→Shared→Prop} (I:Inv X pins σ H s) (hg:Gl X x) (hm:X.mg x=some u) (h:Q u s)
  (hd:(x == ("__debug__" : Str))=false:=by decide):wpAny (model X.prog X.w) X.A (eval (.Name x pos) X.env) Q E s :=
 Calls.Name_function_global I.ok.kind hg (Calls.loadGlobal_global (by rw[I.ok.glob];exact I.mod.glob.keeps I.bk) hm h) hd
theorem Pg {E:Value→Shared→Prop} {pins:List (Addr×Obj)} {s:Shared} {σ : St} {H:Hp} {x:Str} {u:Value} {pos:Pos} {Q:Value→Shared→Prop} (I:Inv X pins σ H s) (hg:Gl X x) (hm:X.mg x=none) (hv:bootBuiltins x=some u) (h:Q u s)
  (hn:x ≠ "__name__" := by decide) (hd:(x == ("__debug__" : Str))=false:=by decide):wpAny (model X.prog X.w) X.A (eval (.Name x pos) X.env) Q E s:=by
 obtain⟨mb,h1,h2⟩:=I.mod.blt
 exact Calls.Name_function_global I.ok.kind hg (Calls.loadGlobal_builtin (by rw[I.ok.glob];exact I.mod.glob.keeps I.bk) hm (by rw[I.ok.blt];exact h1.keeps I.bk) ((h2 x hn).trans hv) h) hd
theorem sW {x:Str} {v:V} {u:Value} {pos:Pos} (hg:Gl X x) (hm:X.mg x=some u) (r:RelV v u) (hd:(x == ("__debug__" : Str))=false:=by decide):PE X (.Name x pos) (tC v) :=
 fun _ _ _ H _ I h=>aeQ I hg hm ⟨v,H,I,r,h⟩ hd
theorem pL {x:Str} {v:V} {u:Value} {pos:Pos} (hg:Gl X x) (hm:X.mg x=none) (hv:bootBuiltins x=some u) (r:RelV v u) (hn:x ≠ "__name__" := by decide) (hd:(x == ("__debug__" : Str))=false:=by decide):PE X (.Name x pos) (tC v) :=
 fun _ _ _ H _ I h=>Pg I hg hm hv ⟨v,H,I,r,h⟩ hn hd
variable {a b:Expr} {ta tb:TE} {pos:Pos}
def tB (t:TE):TT:=fun σ H Q=>t σ H fun x H1=>∃ c,x = .bl c∧Q c H1
theorem bG {e:Expr} {t:TE} (h:PE X e t) (he:∀ whole,isTrue e X.env whole=(do let v ← whole;standAt e.pos;holding [v] (truthy v)):=by intro _;rfl):PT X e (tB t):=by
 intro pins s σ H Q I hw
 refine isTrue_plain (thn (h pins s σ H _ I hw) fun v s1 ⟨x,H1,I1,r1,q1⟩=>?_) (he _)
 obtain⟨d,rfl,q⟩:=q1
 cases r1
 exact wpAny_truthy_bool ⟨H1,I1,q⟩
variable {tA tB':TT} {rest:List Expr}
def tAnd (t u:TT):TT:=fun σ H Q=>t σ H fun c H1=>if c=true then u σ H1 Q else Q false H1
def tOr (t u:TT):TT:=fun σ H Q=>t σ H fun c H1=>if c=true then Q true H1 else u σ H1 Q
def tNot (t:TT):TT:=fun σ H Q=>t σ H fun c H1=>Q (!c) H1
theorem sX (ha:PT X a tA):PW X (.BoolOp .And [a] pos) tA:=by
 intro wh pins s σ H Q I h
 refine isTrue_and (thn (ha pins s σ H Q I h) fun c s1 e=>?_)
 cases c with
 | true=>exact isTrue_and_nil e
 | false=>exact e
theorem lF (ha:PT X a tA):PW X (.BoolOp .Or [a] pos) tA:=by
 intro wh pins s σ H Q I h
 refine isTrue_or (thn (ha pins s σ H Q I h) fun c s1 e=>?_)
 cases c with
 | false=>exact isTrue_or_nil e
 | true=>exact e
theorem z8 (ha:PT X a tA) (hb:PW X (.BoolOp .And (b::rest) pos) tB'):PW X (.BoolOp .And (a::b::rest) pos) (tAnd tA tB'):=by
 intro wh pins s σ H Q I h
 refine isTrue_and (thn (ha pins s σ H _ I h) fun c s1 ⟨H1,I1,q1⟩=>?_)
 cases c with
 | true=>exact hb wh pins s1 σ H1 Q I1 q1
 | false=>exact⟨H1,I1,q1⟩
theorem kI (ha:PT X a tA) (hb:PW X (.BoolOp .Or (b::rest) pos) tB'):PW X (.BoolOp .Or (a::b::rest) pos) (tOr tA tB'):=by
 intro wh pins s σ H Q I h
 refine isTrue_or (thn (ha pins s σ H _ I h) fun c s1 ⟨H1,I1,q1⟩=>?_)
 cases c with
 | true=>exact⟨H1,I1,q1⟩
 | false=>exact hb wh pins s1 σ H1 Q I1 q1
theorem bY (ha:PT X a tA):PT X (.UnaryOp .Not a pos) (tNot tA):=by
 intro pins s σ H Q I h
 exact isTrue_not (ha pins s σ H (fun c H1=>Q (!c) H1) I h)
def apS (ta tb:TE):TE:=fun σ H Q=>ta σ H fun x H1=>∃ c,x = .bl c∧if c=true then tb σ H1 Q else Q (.bl false) H1
def apT (ta:TE):TE:=fun σ H Q=>ta σ H fun x H1=>∃ c,x = .bl c∧Q (.bl (!c)) H1
theorem qF {op} {t:TE} (h:PE X a t):PE X (.BoolOp op [a] pos) t:=fun pins s σ H Q I hw=>BoolOp_one (h pins s σ H Q I hw)
theorem pX (ha:PE X a ta) (hb:PE X (.BoolOp .And (b::rest) pos) tb):PE X (.BoolOp .And (a::b::rest) pos) (apS ta tb):=by
 intro pins s σ H Q I h
 refine BoolOp_and (thn (ha pins s σ H _ I h) fun v s1 ⟨x,H1,I1,r1,q1⟩=>?_)
 obtain⟨c,rfl,q1⟩:=q1
 cases r1
 refine wpAny_truthy_bool ?_
 cases c with
 | true=>exact hb pins s1 σ H1 Q I1 q1
 | false=>exact⟨.bl false,H1,I1,rfl,q1⟩
theorem aeR (ha:PE X a ta):PE X (.UnaryOp .Not a pos) (apT ta):=by
 intro pins s σ H Q I h
 refine UnaryOp_ (thn (ha pins s σ H _ I h) fun v s1 ⟨x,H1,I1,r1,q1⟩=>?_)
 obtain⟨c,rfl,q1⟩:=q1
 cases r1
 exact not_of (wpAny_truthy_bool ⟨.bl (!c),H1,I1,rfl,q1⟩)
def tIf (t:TT) (ta tb:TE):TE:=fun σ H Q=>t σ H fun c H1=>if c=true then ta σ H1 Q else tb σ H1 Q
theorem G8 {c:Expr} (hc:PT X c tA) (ha:PE X a ta) (hb:PE X b tb):PE X (.IfExp c a b pos) (tIf tA ta tb):=by
 intro pins s σ H Q I h
 refine wpAny_IfExp (thn (hc pins s σ H _ I h) fun d s1 ⟨H1,I1,q1⟩=>?_)
 cases d with
 | true=>exact ha pins s1 σ H1 Q I1 q1
 | false=>exact hb pins s1 σ H1 Q I1 q1
end
end L2
namespace L2
open PySem PySem.Spec PyProof.Rows
def SqL (K:W.Frag) (H:Hp) (a:Addr) (xs:List V):Prop :=
 Rd H a (.lst xs) ∨
  ∃ (o:Obj) (its:Array Value) (n:Nat),K.lookup a=some o∧o.cls = .type "list" ∧ o.dict=none∧o.data = .seq its n∧its.size≤sizeLine∧Vals xs its.toList
def SqT (K:W.Frag) (H:Hp) (a:Addr) (xs:List V):Prop :=
 Rd H a (.tup xs) ∨
  ∃ (o:Obj) (its:Array Value) (n:Nat),K.lookup a=some o∧o.cls = .type "tuple" ∧ o.data = .seq its n∧its.size≤sizeLine∧Vals xs its.toList
def absV:Value→Option V
 | .none=>some .non
 | .bool b=>some (.bl b)
 | .int i _=>some (.int i)
 | .str x _=>some (.str x)
 | .bytes b _=>some (.byt b)
 | .float b _=>some (.flt b)
 | .ref a=>some (.ref a)
 | .type n=>some (.ty n)
 | _=>none
theorem RelV.abs {x:V} {u:Value} (r:RelV x u):absV u=some x:=by
 cases x with
 | non=>cases r;rfl
 | bl _=>cases r;rfl
 | int _=>obtain⟨t,rfl⟩:=r;rfl
 | str _=>obtain⟨t,rfl⟩:=r;rfl
 | byt _=>obtain⟨t,rfl⟩:=r;rfl
 | flt _=>obtain⟨t,rfl⟩:=r;rfl
 | ref _=>cases r;rfl
 | ty _=>cases r;rfl
theorem RelV.inj {x y:V} {u:Value} (r:RelV x u) (q:RelV y u):x=y:=Option.some.inj (r.abs.symm.trans q.abs)
theorem Vals.inj:∀ {xs ys:List V} {us:List Value},Vals xs us→Vals ys us→xs=ys
 | _,_,_,.nil,.nil=>rfl
 | _,_,_,.cons r t,.cons r' t'=>by rw[r.inj r',Vals.inj t t']
section
variable {X:Cx} {pins:List (Addr×Obj)} {σ : St} {H:Hp} {s:Shared} {a:Addr} {xs ys:List V}
theorem SqL.of {K:W.Frag} (h:H a=some (.lst xs)):SqL K H a xs:=.inl (.inl h)
theorem SqT.of {K:W.Frag} (h:H a=some (.tup xs)):SqT K H a xs:=.inl (.inl h)
theorem Inv.list (I:Inv X pins σ H s) (h:SqL X.K H a xs):∃ its:List Value,Vals xs its∧PlainL s.heap a its.toArray∧xs.length≤sizeLine:=by
 rcases h with h | ⟨o,its,n,hk,hc,hd,hs,hz,r⟩
 ·obtain⟨z,its,n,r,e⟩:=h.ok I.hok
  exact⟨its,r,⟨_,n,e,rfl,rfl,rfl⟩,z⟩
 ·refine⟨its.toList,r,⟨o,n,I.kIn a o hk,hc,hd,by simpa using hs⟩,?_⟩
  have e:=r.length
  simp only [Array.length_toList] at e
  omega
theorem Inv.tuple (I:Inv X pins σ H s) (h:SqT X.K H a xs):∃ its:List Value,Vals xs its∧IsTup s.heap a its.toArray∧xs.length≤sizeLine:=by
 rcases h with h | ⟨o,its,n,hk,hc,hs,hz,r⟩
 ·obtain⟨z,its,r,p⟩:=h.ok I.hok
  exact⟨its,r,p,z⟩
 ·refine⟨its.toList,r,⟨o,I.kIn a o hk,hc,n,by simpa using hs⟩,?_⟩
  have e:=r.length
  simp only [Array.length_toList] at e
  omega
theorem Inv.G9 (I:Inv X pins σ H s) (h:SqL X.K H a xs) (h':SqL X.K H a ys):xs=ys:=by
 obtain⟨its,r,⟨o,n,e,_,_,d⟩,_⟩:=I.list h
 obtain⟨its',r',⟨o',n',e',_,_,d'⟩,_⟩:=I.list h'
 rw[e] at e';cases e'
 rw[d] at d'
 injection d' with d1 _
 have:its=its':=by simpa using congrArg Array.toList d1
 subst this
 exact r.inj r'
end
abbrev Cx.wish (X:Cx) (E:Value→Shared→Prop):Cx:={ X with xe:=E }
abbrev Cx.nox (X:Cx):Cx:=X.wish fun _ _=>False
theorem Cx.Ok.wish {X:Cx} (ok:X.Ok) (E:Value→Shared→Prop):(X.wish E).Ok :=
 ⟨ok.mod,ok.kind,ok.glob,ok.blt,ok.above,ok.inj,ok.has,ok.cab,ok.hd,ok.frames,ok.stk,ok.exf,ok.bs,ok.bsz,ok.noex,ok.exfs,ok.funs,ok.frf⟩
theorem Cx.Ok.Aa {X:Cx} {E:Value→Shared→Prop} (ok:(X.wish E).Ok):X.Ok :=
 ⟨ok.mod,ok.kind,ok.glob,ok.blt,ok.above,ok.inj,ok.has,ok.cab,ok.hd,ok.frames,ok.stk,ok.exf,ok.bs,ok.bsz,ok.noex,ok.exfs,ok.funs,ok.frf⟩
section
variable {X:Cx} {pins:List (Addr×Obj)} {σ : St} {H:Hp} {s:Shared} {E:Value→Shared→Prop}
theorem Inv.wish (I:Inv X pins σ H s) (E:Value→Shared→Prop):Inv (X.wish E) pins σ H s:=⟨I.ok.wish E,I.os,I.bare,I.base,I.loc,I.cell,I.free,I.Mv,I.pin,I.hok,I.len⟩
theorem Inv.Aa (I:Inv (X.wish E) pins σ H s):Inv X pins σ H s:=⟨I.ok.Aa,I.os,I.bare,I.base,I.loc,I.cell,I.free,I.Mv,I.pin,I.hok,I.len⟩
theorem SP.Aa {D:Ends} {f:Flow} {s':Shared} (h:SP (X.wish E) pins D f s'):SP X pins D f s':=by
 cases f with
 | next=>obtain⟨σ',H',I,q⟩:=h;exact⟨σ',H',I.Aa,q⟩
 | brk=>obtain⟨σ',H',I,q⟩:=h;exact⟨σ',H',I.Aa,q⟩
 | cont=>obtain⟨σ',H',I,q⟩:=h;exact⟨σ',H',I.Aa,q⟩
 | ret u=>obtain⟨v,σ',H',I,r,q⟩:=h;exact⟨v,σ',H',I.Aa,r,q⟩
theorem PE.nox {e:Expr} {t:TE} (h:PE X.nox e t):PE X e t:=fun pins s σ H Q I hw =>
 wpAny_mono (h pins s σ H Q (I.wish _) hw) (fun _ _ ⟨v,H',I',r,q⟩=>⟨v,H',I'.Aa,r,q⟩) fun _ _ z=>False.elim z
theorem PT.nox {e:Expr} {t:TT} (h:PT X.nox e t):PT X e t:=fun pins s σ H Q I hw =>
 wpAny_mono (h pins s σ H Q (I.wish _) hw) (fun _ _ ⟨H',I',q⟩=>⟨H',I'.Aa,q⟩) fun _ _ z=>False.elim z
theorem PSs.nox {st:List Stmt} {t:TS} (h:PSs X.nox st t):PSs X st t:=fun pins s σ H D I hw =>
 wpAny_mono (h pins s σ H D (I.wish _) hw) (fun _ _ q=>q.Aa) fun _ _ z=>False.elim z
end
section
variable {X:Cx} {st:Stmt} {rest:List Stmt} {t u:TS} {e:Expr} {te:TE} {pos:Pos}
def apU:TS:=fun D σ H=>D.nx σ H
def tSeq (t u:TS):TS:=fun D σ H=>t { D with nx:=u D } σ H
theorem aU:PSs X [] apU:=fun _ _ σ H _ I h=>wpAny_execs_nil ⟨σ,H,I,h⟩
theorem aq (h1:PS X st t) (h2:PSs X rest u):PSs X (st::rest) (tSeq t u):=by
 intro pins s σ H D I h
 refine wpAny_execs_cons (thn (h1 pins s σ H { D with nx:=u D } I h) fun f s1 q=>?_)
 cases f with
 | next =>
  obtain⟨σ',H',I',q⟩:=q
  exact h2 pins s1 σ' H' D I' q
 | ret v=>exact q
 | brk=>exact q
 | cont=>exact q
theorem aB (h1:PS X st t):PSs X [st] t:=by
 intro pins s σ H D I h
 refine wpAny_execs_cons (thn (h1 pins s σ H D I h) fun f s1 q=>?_)
 cases f with
 | next=>exact wpAny_execs_nil q
 | ret v=>exact q
 | brk=>exact q
 | cont=>exact q
theorem Inv.quiet {pins:List (Addr×Obj)} {σ : St} {H:Hp} {s:Shared} (I:Inv X pins σ H s):interactive X.env=false:=by simp [interactive,I.ok.kind]
def aoL (te:TE):TS:=fun D σ H=>te σ H fun _ H1=>D.nx σ H1
theorem cQ (he:PE X e te) (hs:swapsWith e none pos.line X.env=pure false:=by rfl):PS X (.Expr e pos) (aoL te):=by
 intro pins s σ H D I h
 exact wpAny_Expr_any (thn (he pins s σ H _ I h) fun v s1 ⟨x,H1,I1,r1,q1⟩=>⟨σ,H1,I1,q1⟩) I.quiet hs
def tRet (te:TE):TS:=fun D σ H=>te σ H D.rt
theorem aM (he:PE X e te):PS X (.Return (some e) pos) (tRet te):=by
 intro pins s σ H D I h
 exact wpAny_Return_some (thn (he pins s σ H _ I h) fun v s1 ⟨x,H1,I1,r1,q1⟩=>⟨x,σ,H1,I1,r1,q1⟩)
def tIfS (c:TT) (t u:TS):TS:=fun D σ H=>c σ H fun b H1=>if b=true then t D σ H1 else u D σ H1
theorem bN {c:Expr} {a b:List Stmt} {tc:TT} (hc:PT X c tc) (ha:PSs X a t) (hb:PSs X b u):PS X (.If c a b pos) (tIfS tc t u):=by
 intro pins s σ H D I h
 refine wpAny_If (thn (hc pins s σ H _ I h) fun d s1 ⟨H1,I1,q1⟩=>?_)
 cases d with
 | true=>exact ha pins s1 σ H1 D I1 q1
 | false=>exact hb pins s1 σ H1 D I1 q1
def apa:TS:=fun _ _ _=>False
theorem Rg:PS X st apa:=fun _ _ _ _ _ _ h=>h.elim
end
abbrev TG:=V→St→Hp→(St→Hp→Prop)→Prop
abbrev TGs:=List V→St→Hp→(St→Hp→Prop)→Prop
def PG (X:Cx) (target:Expr) (t:TG):Prop :=
 ∀ (pins:List (Addr×Obj)) (s:Shared) (σ : St) (H:Hp) (v:V) (u:Value) (Q:St→Hp→Prop),Inv X pins σ H s→RelV v u→t v σ H Q →
  wpAny (model X.prog X.w) X.A (assign target X.env u) (fun _ s'=>∃ σ' H',Inv X pins σ' H' s'∧Q σ' H') X.xe s
def PGs (X:Cx) (ts:List Expr) (t:TGs):Prop :=
 ∀ (pins:List (Addr×Obj)) (s:Shared) (σ : St) (H:Hp) (vs:List V) (us:List Value) (Q:St→Hp→Prop),Inv X pins σ H s→Vals vs us→t vs σ H Q →
  wpAny (model X.prog X.w) X.A (assignInOrder ((assignEach ts X.env).map (·.2)) us) (fun _ s'=>∃ σ' H',Inv X pins σ' H' s'∧Q σ' H') X.xe s
abbrev TSet:=V→V→V→Hp→(Hp→Prop)→Prop
def PSet (X:Cx) (t:TSet):Prop :=
 ∀ (pins:List (Addr×Obj)) (s:Shared) (σ : St) (H:Hp) (o i v:V) (ov iv u:Value) (Q:Hp→Prop),Inv X pins σ H s→RelV o ov→RelV i iv→RelV v u→t o i v H Q →
  wpAny (model X.prog X.w) X.A (setItem ov iv u) (fun _ s'=>∃ H',Inv X pins σ H' s'∧Q H') X.xe s
section
variable {X:Cx} {pos:Pos}
def Wz (i:Nat):TG:=fun v σ H Q=>Q (σ.set i (some v)) H
theorem aO {i:Nat} {x:Str} (hN:X.N.Nodup) (hi:X.N[i]? = some x) (hx:Loc X.env.scope x) (hf:X.fn x=true∨X.env.scope.names.lookup x=some .local:=by first | exact .inl rfl | exact .inr rfl | assumption):PG X (.Name x pos) (Wz i):=by
 intro pins s σ H v u Q I r h
 exact wpAny_assign_Name (G7 I hN hi hx r (fun s' I'=>⟨_,H,I',h⟩) hf)
def gNil:TGs:=fun vs σ H Q=>vs = []∧Q σ H
def amJ (t:TG) (u:TGs):TGs:=fun vs σ H Q=>∃ v r,vs=v::r∧t v σ H fun σ' H'=>u r σ' H' Q
theorem qG:PGs X [] gNil:=by
 intro pins s σ H vs us Q I r h
 obtain⟨e,h⟩:=h
 subst e
 cases r
 exact assignInOrder_nil ⟨σ,H,I,h⟩
theorem cZ {e:Expr} {es:List Expr} {t:TG} {u:TGs} (h1:PG X e t) (h2:PGs X es u)
  (hs:(assignEach (e::es) X.env).map (·.2)=assign e X.env::(assignEach es X.env).map (·.2):=by rfl):PGs X (e::es) (amJ t u):=by
 intro pins s σ H vs us Q I r h
 obtain⟨v,vr,e1,h⟩:=h
 subst e1
 cases r with
 | cons r rr =>
  rw[hs]
  refine assignInOrder_cons (thn (h1 pins s σ H _ _ _ I r h) fun _ s1 ⟨σ1,H1,I1,q1⟩=>?_)
  exact h2 pins s1 σ1 H1 _ _ Q I1 rr q1
def gTup (K:W.Frag) (n:Nat) (t:TGs):TG:=fun v σ H Q=>∃ a xs,v = .ref a∧SqT K H a xs∧xs.length=n∧t xs σ H Q
theorem apb {es:List Expr} {k:Nat} {t:TGs} {n:Nat} (hc:X.calm=true) (h:PGs X es t)
  (hn:(assignEach es X.env).length=n:=by rfl) (hst:(assignEach es X.env).findIdx? (·.1)=none:=by rfl):PG X (.Tuple es k pos) (gTup X.K n t):=by
 intro pins s σ H v u Q I r hw
 obtain⟨a,xs,e1,hq,hl,hw⟩:=hw
 subst e1
 cases r
 obtain⟨its,rv,ht,hz⟩:=I.tuple hq
 refine assign_Tuple_tuple (I.ok.hd hc) ht (by simp [hn,← hl,rv.length]) hst fun h' hx=>?_
 have I1:Inv X pins σ H { s with heap:=h' }:=I.kept (t':=s.toks) fun b o e=>hx b o (Nat.ne_of_lt (Heap.lt_size e)) e
 exact h pins _ σ H xs _ Q I1 (by simpa using rv) hw
def gSub (to ti:TE) (t:TSet):TG:=fun v σ H Q=>to σ H fun o H1=>ti σ H1 fun i H2=>t o i v H2 fun H3=>Q σ H3
theorem aeS {o i:Expr} {to ti:TE} {t:TSet} (ho:PE X o to) (hi:PE X i ti) (hs:PSet X t)
  (ha:∀ v,assign (.Subscript o i pos) X.env v=(do
   let ov ← holding [v] (eval o X.env)
   let iv ← holding [v,ov] (eval i X.env)
   standAt pos
   holding [v,ov,iv] (setItem ov iv v)
   release [v,ov,iv] []):=by intro _;rfl):PG X (.Subscript o i pos) (gSub to ti t):=by
 intro pins s σ H v u Q I r h
 rw[ha]
 refine wpAny_bind (wpAny_holding (thn (ho pins s σ H _ I h) fun ov s1 ⟨x,H1,I1,r1,q1⟩=>?_))
 refine wpAny_bind (wpAny_holding (thn (hi pins s1 σ H1 _ I1 q1) fun iv s2 ⟨y,H2,I2,r2,q2⟩=>?_))
 refine wpAny_bind (wpAny_standAt (wpAny_bind (wpAny_holding (thn (hs pins s2 σ H2 x y v ov iv u _ I2 r1 r2 r q2) fun _ s3 ⟨H3,I3,q3⟩=>?_))))
 exact wpAny_release ⟨σ,H3,I3,q3⟩
def tAsg (te:TE) (g:TG):TS:=fun D σ H=>te σ H fun x H1=>g x σ H1 D.nx
theorem Ph {tg e:Expr} {te:TE} {g:TG} (he:PE X e te) (hg:PG X tg g) (hs:swapsWithSole [tg] e pos.line X.env=pure false:=by rfl) (hw:swappedStores [tg] e X.env=pure none:=by rfl)
  (h1:(assignEach [tg] X.env).map (·.2) = [assign tg X.env]:=by rfl):PS X (.Assign [tg] e pos) (tAsg te g):=by
 intro pins s σ H D I h
 refine wpAny_Assign_stores (thn (he pins s σ H _ I h) fun v s1 ⟨x,H1,I1,r1,q1⟩=>?_) hs hw
 rw[h1]
 exact thn (hg pins s1 σ H1 x v _ I1 r1 q1) fun _ s2 q=>q
theorem aQ {i:Nat} {x:Str} {e:Expr} {te:TE} {pos':Pos} (hN:X.N.Nodup) (hi:X.N[i]? = some x) (hx:Loc X.env.scope x) (he:PE X e te) (hs:swapsWith e (some (.Name x pos')) pos.line X.env=pure false:=by rfl) (hf:X.fn x=true∨X.env.scope.names.lookup x=some .local:=by first | exact .inl rfl | exact .inr rfl | assumption) :
  PS X (.Assign [.Name x pos'] e pos) (tAsg te (Wz i)):=by
 intro pins s σ H D I h
 refine wpAny_Assign_Name (thn (he pins s σ H _ I h) fun v s1 ⟨y,H1,I1,r1,q1⟩=>?_) hs
 exact G7 I1 hN hi hx r1 (fun s2 I2=>⟨_,H1,I2,q1⟩) hf
def tPar (i j:Nat) (ta:TA):TS:=fun D σ H=>ta σ H fun vs H1=>∃ v w,vs = [v,w]∧D.nx ((σ.set i (some v)).set j (some w)) H1
theorem Vt {i j:Nat} {x y:Str} {a b:Expr} {ta:TA} {px py pt:Pos} {kt k2 pt2} (hc:X.calm=true) (hN:X.N.Nodup) (hi:X.N[i]? = some x) (hj:X.N[j]? = some y) (hij:i≠j)
  (hx:X.env.scope.names.lookup x=some .local) (hy:X.env.scope.names.lookup y=some .local) (ha:PA X [a,b] ta)
  (hw:swappedStores [.Tuple [.Name x px,.Name y py] kt pt] (.Tuple [a,b] k2 pt2) X.env=pure (some [x,y]))
  (hs:swapsWithSole [.Tuple [.Name x px,.Name y py] kt pt] (.Tuple [a,b] k2 pt2) pos.line X.env=pure false:=by rfl) :
  PS X (.Assign [.Tuple [.Name x px,.Name y py] kt pt] (.Tuple [a,b] k2 pt2) pos) (tPar i j ta):=by
 intro pins s σ H D I h
 rw[exec_Assign_arm]
 refine wpAny_bind (wpAny_standAt ?_)
 rw[hs]
 refine wpAny_bind (wpAny_pure ?_)
 rw[if_neg (by decide)]
 refine wpAny_bind (Tuple_ (thn (ha _ pins s σ H _ I h) fun us s1 ⟨vs,H1,I1,r1,q1⟩=>?_))
 obtain⟨v,w,e1,q1⟩:=q1
 subst e1
 obtain⟨u1,u2,rfl,rv,rw'⟩ : ∃ u1 u2,us = [u1,u2]∧RelV v u1∧RelV w u2:=by
  cases r1 with
  | cons p q =>
   cases q with
   | cons p' q' =>
    cases q'
    exact⟨_,_,rfl,p,p'⟩
 refine wpAny_newObj_type ?_ (by show 2≤sizeLine;decide)
 have I2:Inv X pins σ H1 { s1 with heap:=s1.heap.push { cls:=.type "tuple",data:=.seq [u1,u2].toArray } }:=I1.kept (t':=s1.toks) fun b o e=>Heap.get?_push_of_some _ e
 rw[hw]
 refine wpAny_bind (wpAny_pure ?_)
 show wpAny (model X.prog X.w) X.A (do rule "assign.swapped-stores";let items ← unpackItems (.ref s1.heap.objs.size) 2 none;assignInOrder [fun v=>bindName X.env y v,fun v=>bindName X.env x v] items.reverse;pure Flow.next) _ _ _
 refine wpAny_bind (wpAny_rule (wpAny_bind (unpackItems_tuple (items:=#[u1,u2]) (I.ok.hd hc) (IsTup.new s1.heap _) fun h' hx'=>?_)))
 have I3:=I2.kept (h':=h') (t':=s1.toks) fun b o e=>hx' b o (Nat.ne_of_lt (Heap.lt_size e)) e
 show wpAny _ _ (assignInOrder [fun v=>bindName X.env y v,fun v=>bindName X.env x v] [u2,u1] >>= fun _=>pure Flow.next) _ _ _
 refine wpAny_bind (assignInOrder_cons (wpAny_bindName (G7 I3 hN hj (.inl hy) rw' (fun s2 I4=>?_) (.inr hy))))
 refine assignInOrder_cons (wpAny_bindName (G7 I4 hN hi (.inl hx) rv (fun s3 I5=>assignInOrder_nil (wpAny_pure ?_)) (.inr hx)))
 rw[List.set_comm _ _ (Ne.symm hij)] at I5
 exact⟨_,H1,I5,q1⟩
end
section
variable {X:Cx} {pos:Pos}
def ajg (c:TT) (tb:TS):TS:=fun D σ H=>∃ W:Nat→St→Hp→Prop,(∃ m,W m σ H)∧∀ m σ H,W m σ H →
 c σ H fun b H1=>if b=true then ∃ N:St→Hp→Prop,(∀ σ' H',N σ' H'→∃ m',m'<m∧W m' σ' H')∧tb { D with nx:=N,ct:=N,bk:=D.nx } σ H1 else D.nx σ H1
theorem Zk {c:Expr} {body:List Stmt} {tc:TT} {tb:TS} (hp:PassesOwn (model X.prog X.w) X.A X.env X.xe) (hc:PT X c tc) (hb:PSs X body tb):PS X (.While c body [] pos) (ajg tc tb):=by
 intro pins s σ H D I h
 obtain⟨W,⟨m0,w0⟩,turn⟩:=h
 refine wpAny_While (codeAny_whileLoop (fun n s'=>∃ σ' H',Inv X pins σ' H' s'∧W n σ' H') ?_ m0 ⟨σ,H,I,w0⟩)
 rintro n s1 ⟨σ1,H1,I1,w1⟩
 refine wpAny_passesOwn hp (thn (hc pins s1 σ1 H1 _ I1 (turn n σ1 H1 w1)) fun b s2 ⟨H2,I2,q2⟩=>?_)
 cases b with
 | true =>
  obtain⟨N,hN,q2⟩:=q2
  rw[if_pos rfl]
  refine wpAny_passesOwn hp (thn (hb pins s2 σ1 H2 _ I2 q2) fun f s3 q3=>?_)
  cases f with
  | next =>
   obtain⟨σ3,H3,I3,n3⟩:=q3
   obtain⟨m',hm,w3⟩:=hN σ3 H3 n3
   exact⟨m',hm,σ3,H3,I3,w3⟩
  | cont =>
   obtain⟨σ3,H3,I3,n3⟩:=q3
   obtain⟨m',hm,w3⟩:=hN σ3 H3 n3
   exact⟨m',hm,σ3,H3,I3,w3⟩
  | brk=>exact q3
  | ret v=>exact q3
 | false =>
  rw[if_neg Bool.false_ne_true]
  exact wpAny_execs_nil ⟨σ1,H2,I2,q2⟩
end
structure It where
 go:Nat→Hp→Prop
 yld:Nat→Hp→V→Hp→Prop
 stop:Nat→Hp→Prop
def FpOk (X:Cx) (pins:List (Addr×Obj)) (H:Hp) (b:Addr):Prop :=
 H b=none∧b≠X.env.locals∧b∉X.fs∧(b∈X.ex∨X.s₀.heap.objs.size≤b)∧(∀ x c,X.env.cells.lookup x=some c→c≠b)∧∀ p∈X.pn++pins,p.1≠b
theorem Inv.fpOk {X:Cx} {pins:List (Addr×Obj)} {σ : St} {H H':Hp} {s:Shared} {b:Addr} (I:Inv X pins σ H s) (hb:s.heap.objs.size≤b) (hn:H' b=none):FpOk X pins H' b:=by
 refine⟨hn,Nat.ne_of_gt (Nat.lt_of_lt_of_le I.lt hb),I.nofs hb,.inr (Nat.le_trans I.sz hb),fun x c e z=>?_,fun p hp z=>?_⟩
 ·obtain⟨v,q⟩:=I.cell x c e
  exact absurd (Nat.lt_of_lt_of_le q.lt (by rw[z];exact hb)) (Nat.lt_irrefl _)
 ·exact absurd (Nat.lt_of_lt_of_le (Heap.lt_size (I.pin p hp).1) (by rw[z];exact hb)) (Nat.lt_irrefl _)
structure Turn (P:Program) (w:World) (K:W.Frag) (tg:Expr) (J:It) (fp:List Addr) (it:Addr) (tn:Nat→Heap→Prop):Prop where
 mem:it∈fp
 obj:∀ i h,tn i h→∀ b∈fp,∃ o,h.get? b=some o∧∀ v,o.data ≠ .cell v
 keep:∀ i h h',tn i h→(∀ b∈fp,∀ o,h.get? b=some o→h'.get? b=some o)→tn i h'
 item:∀ (X:Cx),X.prog=P→X.w=w→X.K=K→X.calm=true→∀ (i:Nat) (pins:List (Addr×Obj)) (s:Shared) (σ : St) (H:Hp) (E:Value→Shared→Prop),Inv X pins σ H s→(∀ b∈fp,FpOk X pins H b)→tn i s.heap→J.go i H →
  wpAny (model P w) X.A (pyNext (.ref it)) (fun r s1=>∃ u,r=some u ∧
   wpAny (model P w) X.A (letOwnedTupleGo tg (.ref it) u) (fun _ s2=>∃ x H',Inv X pins σ H' s2∧RelV x u∧J.yld i H x H'∧tn (i+1) s2.heap∧∀ b∈fp,H' b=none) E s1) E s
 done:∀ (X:Cx),X.prog=P→X.w=w→X.K=K→X.calm=true→∀ (i:Nat) (pins:List (Addr×Obj)) (s:Shared) (σ : St) (H:Hp) (E:Value→Shared→Prop),Inv X pins σ H s→(∀ b∈fp,FpOk X pins H b)→tn i s.heap→J.stop i H →
  wpAny (model P w) X.A (pyNext (.ref it)) (fun r s1=>r=none∧Inv X pins σ H s1) E s
 self:∀ (A:Around) (i:Nat) (s:Shared) (Q:Value→Shared→Prop) (E:Value→Shared→Prop),tn i s.heap→Q (.ref it) s→wpAny (model P w) A (pyIter (.ref it)) Q E s
abbrev TI:=St→Hp→(It→Hp→Prop)→Prop
def PIE (X:Cx) (pins:List (Addr×Obj)) (σ : St) (tg:Expr) (R:It→Hp→Prop) (itv:Value) (s2:Shared):Prop :=
 ∃ (it:Addr) (fp:List Addr) (tn:Nat→Heap→Prop) (J:It) (H':Hp),itv = .ref it∧Inv X pins σ H' s2∧Turn X.prog X.w X.K tg J fp it tn∧tn 0 s2.heap∧(∀ b∈fp,FpOk X pins H' b)∧R J H'
def PI (X:Cx) (tg iter:Expr) (wi:TI):Prop :=
 ∀ (pins:List (Addr×Obj)) (s:Shared) (σ : St) (H:Hp) (R:It→Hp→Prop),Inv X pins σ H s→wi σ H R →
  wpAny (model X.prog X.w) X.A (eval iter X.env) (fun v s1=>wpAny (model X.prog X.w) X.A (pyIter v) (PIE X pins σ tg R) X.xe s1) X.xe s
theorem aoM {M:Model} {A:Around} {E:Value→Shared→Prop} {s:Shared} {tg:Expr} {it:Addr} {u:Value} {o:Obj} {n:String} {vs:Array Value} {Q:Unit→Shared→Prop} (ho:s.heap.get? it=some o) (hc:o.cls = .type n) (hd:o.data = .fields vs)
  (hn:["enumerate", "zip", "dict_itemiterator", "dict_reverseitemiterator", "odict_iterator", "itertools.zip_longest", "itertools.pairwise"].contains n=false) (hQ:Q () s):wpAny M A (letOwnedTupleGo tg (.ref it) u) Q E s:=by
 unfold letOwnedTupleGo
 cases tg <;> first
  | exact wpAny_pure hQ
  | (cases u <;> first
    | exact wpAny_pure hQ
    | (
      refine wpAny_bind (wpAny_load ho ?_)
      rw[hc,hd]
      show wpAny M A (if (["enumerate", "zip", "dict_itemiterator", "dict_reverseitemiterator", "odict_iterator", "itertools.zip_longest", "itertools.pairwise"].contains n && vs[0]? == some (rawInt _))=true then _ else _) Q E s
      rw[if_neg (by intro h;rw[hn,Bool.false_and] at h;cases h)]
      exact wpAny_pure hQ))
def Itl (K:W.Frag) (a:Addr):It :=
 ⟨fun i H=>∃ xs x,SqL K H a xs∧xs[i]? = some x,fun i H x H'=>H' = H∧∀ xs,SqL K H a xs→xs[i]? = some x,fun i H=>∃ xs,SqL K H a xs∧xs.length≤i⟩
def Itr (lo:Int) (n:Nat):It:=⟨fun i _=>i<n,fun i H x H'=>H' = H∧x = .int (lo+i),fun i _=>n≤i⟩
theorem alw {P:Program} {w:World} {K:W.Frag} {tg:Expr} (a it:Addr):Turn P w K tg (Itl K a) [it] it (fun i h=>h.IsListIter it a i) where
 mem:=by simp
 obj:=fun i h st b hb=>by
  have e:b=it:=by simpa using hb
  subst e
  obtain⟨o,e,c,d⟩:=st
  exact⟨o,e,fun v z=>by rw[d] at z;cases z⟩
 keep:=fun i h h' st k=>st.at fun o e=>k it (by simp) o e
 item:=by
  intro X hP hw hK hc i pins s σ H E I hf st hg
  subst hP hw hK
  obtain⟨xs,x,hq,hx⟩:=hg
  obtain⟨its,rv,p,hz⟩:=I.list hq
  obtain⟨u,hu,ru⟩:=rv.get hx
  obtain⟨f0,f1,f2,f3,f4,f5⟩:=hf it (by simp)
  refine wpAny_pyNext_list_item st p.isList (x:=u) (by simpa using hu) fun h' st' sb=>?_
  have I1:Inv X pins σ H { s with heap:=h' }:=I.turned (t':=s.toks) (fun b o hb e=>(sb.2 b hb).trans e) f0 f1 f3 f4 f5
  obtain⟨o,e,c,d⟩:=id st'
  exact⟨u,rfl,aoM (s:={ s with heap:=h' }) e c d (by decide) ⟨x,H,I1,ru,⟨rfl,fun ys hy=>by rw[I.G9 hy hq];exact hx⟩,st',fun b hb=>(hf b hb).1⟩⟩
 done:=by
  intro X hP hw hK hc i pins s σ H E I hf st hg
  subst hP hw hK
  obtain⟨xs,hq,hx⟩:=hg
  obtain⟨its,rv,p,hz⟩:=I.list hq
  obtain⟨f0,f1,f2,f3,f4,f5⟩:=hf it (by simp)
  have hl:=rv.length
  exact wpAny_pyNext_list_end (I.ok.hd hc) st p.isList (by simp;omega) fun h' eb=>⟨rfl,I.turned (t':=s.toks) (fun b o hb e=>eb b o hb e) f0 f1 f3 f4 f5⟩
 self:=fun _ _ _ _ _ st h=>wpAny_pyIter_listiter st h
theorem ajh {P:Program} {w:World} {K:W.Frag} {tg:Expr} (it:Addr) (lo:Int) (n:Nat):Turn P w K tg (Itr lo n) [it] it (fun i h=>IsRangeIter h it (lo+(i:Nat) * 1) ((n:Int) - (i:Nat)) 1) where
 mem:=by simp
 obj:=fun i h st b hb=>by
  have e:b=it:=by simpa using hb
  subst e
  exact⟨_,st,fun v z=>by
   have z':Data.fields _=Data.cell v:=z
   cases z'⟩
 keep:=fun i h h' st k=>k it (by simp) _ st
 item:=by
  intro X hP hw hK hc i pins s σ H E I hf st hg
  subst hP hw hK
  obtain⟨f0,f1,f2,f3,f4,f5⟩:=hf it (by simp)
  have W:=Walks.range (prog:=X.prog) (w:=X.w) (I.ok.hd hc) it lo 1 n
  refine W.item i s _ _ hg st fun v h' tk hv st' kk=>?_
  obtain⟨t,rfl⟩:=hv
  have I1:Inv X pins σ H { s with heap:=h',toks:=tk }:=I.turned (fun b o hb e=>kk b o (by simpa using hb) e) f0 f1 f3 f4 f5
  refine⟨_,rfl,aoM (s:={ s with heap:=h',toks:=tk }) (n := "range_iterator") st' rfl rfl (by decide) ⟨.int (lo+i),H,I1,⟨t,?_⟩,⟨rfl,rfl⟩,st',fun b hb=>(hf b hb).1⟩⟩
  rw[Int.mul_one]
 done:=by
  intro X hP hw hK hc i pins s σ H E I hf st hg
  subst hP hw hK
  obtain⟨f0,f1,f2,f3,f4,f5⟩:=hf it (by simp)
  exact wpAny_pyNext_range_end (I.ok.hd hc) st (by have:n≤i:=hg;omega) fun h' eb=>⟨rfl,I.turned (t':=s.toks) (fun b o hb e=>eb b o hb e) f0 f1 f3 f4 f5⟩
 self:=fun _ _ _ _ _ st h=>wpAny_pyIter_rangeiter st h
end L2
namespace L2
open PySem PySem.Spec PyProof.Rows
section
variable {X:Cx} {tg:Expr}
def aoN (K:W.Frag) (tl:TE):TI:=fun σ H R=>tl σ H fun x H1=>∃ a,x = .ref a∧(∃ xs,SqL K H1 a xs)∧R (Itl K a) H1
theorem an5 {l:Expr} {tl:TE} (hl:PE X l tl):PI X tg l (aoN X.K tl):=by
 intro pins s σ H R I h
 refine thn (hl pins s σ H _ I h) fun v s1 ⟨x,H1,I1,r1,q1⟩=>?_
 obtain⟨a,e,⟨xs,hq⟩,q⟩:=q1
 subst e
 cases r1
 obtain⟨its,rv,p,hz⟩:=I1.list hq
 refine wpAny_pyIter_list p.isList ?_
 refine⟨s1.heap.objs.size,[s1.heap.objs.size],_,_,H1,rfl,I1.kept (t':=s1.toks) fun b o e=>Heap.get?_push_of_some _ e,alw a _,⟨_,Heap.get?_push_size _ rfl,rfl,rfl⟩,fun b hb=>?_,q⟩
 have e:b=s1.heap.objs.size:=by simpa using hb
 subst e
 exact I1.fpOk (Nat.le_refl _) (I1.hok.fresh (Nat.le_refl _))
theorem amK {pins:List (Addr×Obj)} {σ : St} {H:Hp} {s:Shared} {R:It→Hp→Prop} {E:Value→Shared→Prop} {lo hi:Int} {t u v:Tok} {tk:Nat} (I:Inv X pins σ H s) (h1 : -(2 ^ 62)≤lo) (h2:lo < 2 ^ 62) (h3 : -(2 ^ 62)≤hi) (h4:hi < 2 ^ 62)
  (q:R (Itr lo (hi - lo).toNat) H):wpAny (model X.prog X.w) X.A (pyIter (.ref s.heap.objs.size)) (PIE X pins σ tg R) E { s with heap:=s.heap.push { cls:=.type "range",data:=.fields #[.int lo t,.int hi u,.int 1 v] },toks:=tk }:=by
 refine wpAny_pyIter_range (IsRange.new ..) (small_one h1 h2 h3 h4) ?_
 have I1:Inv X pins σ H { s with heap:=s.heap.push { cls:=.type "range",data:=.fields #[.int lo t,.int hi u,.int 1 v] },toks:=tk }:=I.kept fun b o e=>Heap.get?_push_of_some _ e
 refine⟨(s.heap.push { cls:=.type "range",data:=.fields #[.int lo t,.int hi u,.int 1 v] }).objs.size,[(s.heap.push { cls:=.type "range",data:=.fields #[.int lo t,.int hi u,.int 1 v] }).objs.size],_,_,H,rfl,
  I1.kept (t':=tk) fun b o e=>Heap.get?_push_of_some _ e,ajh _ lo (hi - lo).toNat,?_,fun b hb=>?_,q⟩
 ·have e1:lo+((0:Nat):Int) * 1=lo:=by simp
  have e2:(((hi - lo).toNat:Nat):Int) - ((0:Nat):Int)=Builtin.Range.rangeSize lo hi 1:=by rw[rangeSize_one];split <;> omega
  show IsRangeIter _ _ (lo+((0:Nat):Int) * 1) ((((hi - lo).toNat:Nat):Int) - ((0:Nat):Int)) 1
  rw[e1,e2]
  exact Heap.get?_push_size _ rfl
 ·have e:b=(s.heap.push { cls:=.type "range",data:=.fields #[.int lo t,.int hi u,.int 1 v] }).objs.size:=by simpa using hb
  subst e
  exact I1.fpOk (Nat.le_refl _) (I1.hok.fresh (Nat.le_refl _))
def apV (ta:TA):TI:=fun σ H R=>ta σ H fun vs H1=>∃ j:Int,vs = [.int j] ∧ -(2 ^ 62)≤j∧j < 2 ^ 62∧R (Itr 0 j.toNat) H1
theorem cN {a:Expr} {ta:TA} {p pos:Pos} (hg:Gl X "range") (hm:X.mg "range" = none) (ha:PA X [a] ta) (hs:starEach [a] X.env = [(false,eval a X.env)]:=by rfl):PI X tg (.Call (.Name "range" p) [a] [] pos) (apV ta):=by
 intro pins s σ H R I h
 refine Call_ (Pg I hg hm boot_range (PyProof.Rows.callWith_type1 (thn (ha pos pins s σ H _ I h) fun us s1 ⟨vs,H1,I1,r1,q1⟩=>?_) hs rfl))
 obtain⟨j,e,q1,q2,q⟩:=q1
 subst e
 cases r1 with
 | cons r rr =>
  cases rr
  obtain⟨t,rfl⟩:=r
  exact call_range_1 (amK I1 (by omega) (by omega) q1 q2 (by simpa using q))
def tFor (wi:TI) (g:TG) (tb:TS):TS:=fun D σ H=>wi σ H fun J H1=>∃ W:Nat→Nat→St→Hp→Prop,(∃ m,W 0 m σ H1)∧∀ i m σ H,W i m σ H →
 (J.stop i H∧D.nx σ H)∨(J.go i H∧∃ N:St→Hp→Prop,(∀ σ' H',N σ' H'→∃ m',m'<m∧W (i+1) m' σ' H')∧∀ x H',J.yld i H x H'→g x σ H' fun σ2 H2=>tb { D with nx:=N,ct:=N,bk:=D.nx } σ2 H2)
def Zm (fp:List Addr) (h:Heap):List (Addr×Obj):=fp.filterMap fun b=>(h.get? b).map fun o=>(b,o)
theorem CT {fp:List Addr} {h:Heap} {b:Addr} {o:Obj} (hb:b∈fp) (e:h.get? b=some o):(b,o)∈Zm fp h:=List.mem_filterMap.mpr ⟨b,hb,by rw[e];rfl⟩
theorem alx {fp:List Addr} {h:Heap} {p:Addr×Obj} (hp:p∈Zm fp h):p.1∈fp∧h.get? p.1=some p.2:=by
 obtain⟨b,hb,e⟩:=List.mem_filterMap.mp hp
 cases q:h.get? b with
 | none=>rw[q] at e;cases e
 | some o =>
  rw[q] at e
  have e':(b,o)=p:=Option.some.inj e
  subst e'
  exact⟨hb,q⟩
theorem Inv.pinned {pins:List (Addr×Obj)} {σ : St} {H:Hp} {s:Shared} {fp:List Addr} (I:Inv X pins σ H s) (hf:∀ b∈fp,FpOk X pins H b) (ho:∀ b∈fp,∃ o,s.heap.get? b=some o∧∀ v,o.data ≠ .cell v):Inv X (pins++Zm fp s.heap) σ H s :=
 I.aeP fun p hp=>(List.mem_append.mp hp).elim (fun z=>I.pin p (List.mem_append_right _ z)) fun z=>by
  obtain⟨hb,e⟩:=alx z
  obtain⟨f0,f1,f2,_⟩:=hf p.1 hb
  obtain⟨o,e',d⟩:=ho p.1 hb
  rw[e] at e';cases e'
  exact⟨e,f0,f1,f2,d⟩
theorem Inv.Hf {pins pl:List (Addr×Obj)} {σ : St} {H:Hp} {s:Shared} (I:Inv X (pins++pl) σ H s):Inv X pins σ H s:=I.aeP fun p hp=>I.pin p (List.mem_append_right _ (List.mem_append_left _ hp))
theorem dR {iter:Expr} {body:List Stmt} {wi:TI} {g:TG} {tb:TS} {pos:Pos} (hp:PassesOwn (model X.prog X.w) X.A X.env X.xe) (hc:X.calm=true) (hi:PI X tg iter wi) (hg:PG X tg g) (hb:PSs X body tb)
  (hs:∀ x,foldedSetIterable iter X.env x=pure x:=by intro _;rfl):PS X (.For tg iter body [] pos) (tFor wi g tb):=by
 intro pins s σ H D I h
 refine wpAny_For (thn (hi pins s σ H _ I h) fun v s1 h1=>thn h1 fun itv s2 h2=>?_) hs
 obtain⟨it,fp,tn,J,H2,e,I2,T,st2,f2,W,⟨m0,w0⟩,turn⟩:=h2
 subst e
 have stat:∀ {H':Hp},(∀ b∈fp,H' b=none)→∀ b∈fp,FpOk X pins H' b:=fun hn b hb=>⟨hn b hb,(f2 b hb).2⟩
 refine codeAny_forLoop_any (fun n s'=>∃ i σ' H',Inv X pins σ' H' s'∧tn i s'.heap∧(∀ b∈fp,H' b=none)∧W i n σ' H') ?_ m0 ⟨0,σ,H2,I2,st2,fun b hb=>(f2 b hb).1,w0⟩
 rintro n s3 ⟨i,σ3,H3,I3,st3,fr3,w3⟩
 rcases turn i n σ3 H3 w3 with ⟨stop,qn⟩ | ⟨go,N,hN,step⟩
 ·refine wpAny_passesOwn hp (thn (T.done X rfl rfl rfl hc i pins s3 σ3 H3 X.xe I3 (stat fr3) st3 stop) fun r s4 ⟨hr,I4⟩=>?_)
  subst hr
  exact wpAny_execs_nil ⟨σ3,H3,I4,qn⟩
 ·refine wpAny_passesOwn hp (thn (T.item X rfl rfl rfl hc i pins s3 σ3 H3 X.xe I3 (stat fr3) st3 go) fun r s4 ⟨u,hr,h4⟩=>?_)
  subst hr
  refine wpAny_passesOwn hp (thn h4 fun _ s5 ⟨x,H5,I5,r5,y5,st5,fr5⟩=>?_)
  have I5':=I5.pinned (stat fr5) (T.obj _ _ st5)
  refine wpAny_passesOwn hp (thn (hg _ s5 σ3 H5 x u _ I5' r5 (step x H5 y5)) fun _ s6 ⟨σ6,H6,I6,q6⟩=>?_)
  refine wpAny_passesOwn hp (thn (hb _ s6 σ6 H6 _ I6 q6) fun f s7 q7=>?_)
  have again:∀ {σ7:St} {H7:Hp},Inv X (pins++Zm fp s5.heap) σ7 H7 s7→N σ7 H7→∃ m,m<n∧∃ i σ' H',Inv X pins σ' H' s7∧tn i s7.heap∧(∀ b∈fp,H' b=none)∧W i m σ' H':=fun {σ7 H7} I7 n7=>by
   obtain⟨m',hm,w7⟩:=hN σ7 H7 n7
   refine⟨m',hm,i+1,σ7,H7,I7.Hf,T.keep _ _ _ st5 fun b hb o e=>(I7.pin (b,o) (List.mem_append_right _ (List.mem_append_right _ (CT hb e)))).1,fun b hb=>?_,w7⟩
   obtain⟨o,e,d⟩:=T.obj _ _ st5 b hb
   exact(I7.pin (b,o) (List.mem_append_right _ (List.mem_append_right _ (CT hb e)))).2.1
  cases f with
  | next=>obtain⟨σ7,H7,I7,n7⟩:=q7;exact again I7 n7
  | cont=>obtain⟨σ7,H7,I7,n7⟩:=q7;exact again I7 n7
  | brk=>obtain⟨σ7,H7,I7,q7⟩:=q7;exact⟨σ7,H7,I7.Hf,q7⟩
  | ret v=>obtain⟨x7,σ7,H7,I7,r7,q7⟩:=q7;exact⟨x7,σ7,H7,I7.Hf,r7,q7⟩
end
theorem f9 {K:W.Frag} {a:Addr} {xs:List V} {g:TG} {tb:TS} {D:Ends} {σ : St} {H:Hp} (Pv:Nat→St→Hp→Prop) (h0:Pv 0 σ H) (hl:∀ i σ H,i≤xs.length→Pv i σ H→SqL K H a xs)
  (hs:∀ i x σ H,xs[i]? = some x→Pv i σ H→g x σ H fun σ2 H2=>tb { D with nx:=Pv (i+1),ct:=Pv (i+1),bk:=D.nx } σ2 H2) (hd:∀ σ H,Pv xs.length σ H→D.nx σ H) :
  ∃ W:Nat→Nat→St→Hp→Prop,(∃ m,W 0 m σ H)∧∀ i m σ H,W i m σ H →
   ((Itl K a).stop i H∧D.nx σ H)∨((Itl K a).go i H∧∃ N:St→Hp→Prop,(∀ σ' H',N σ' H'→∃ m',m'<m∧W (i+1) m' σ' H')∧∀ x H',(Itl K a).yld i H x H'→g x σ H' fun σ2 H2=>tb { D with nx:=N,ct:=N,bk:=D.nx } σ2 H2):=by
 refine⟨fun i m σ H=>m=xs.length - i∧i≤xs.length∧Pv i σ H,⟨xs.length,by simp,Nat.zero_le _,h0⟩,?_⟩
 rintro i m σ H ⟨rfl,hi,p⟩
 have q:=hl i σ H hi p
 by_cases hlt:i<xs.length
 ·refine .inr ⟨⟨xs,xs[i],q,by simp [hlt]⟩,Pv (i+1),fun σ' H' p'=>⟨xs.length - (i+1),by omega,rfl,hlt,p'⟩,fun x H' y=>?_⟩
  obtain⟨e,y⟩:=y
  subst e
  exact hs i x σ _ (y xs q) p
 ·have e:i=xs.length:=by omega
  subst e
  exact .inl ⟨⟨xs,q,Nat.le_refl _⟩,hd σ H p⟩
theorem j6 {lo:Int} {n:Nat} {g:TG} {tb:TS} {D:Ends} {σ : St} {H:Hp} (Pv:Nat→St→Hp→Prop) (h0:Pv 0 σ H)
  (hs:∀ i σ H,i<n→Pv i σ H→g (.int (lo+i)) σ H fun σ2 H2=>tb { D with nx:=Pv (i+1),ct:=Pv (i+1),bk:=D.nx } σ2 H2) (hd:∀ σ H,Pv n σ H→D.nx σ H) :
  ∃ W:Nat→Nat→St→Hp→Prop,(∃ m,W 0 m σ H)∧∀ i m σ H,W i m σ H →
   ((Itr lo n).stop i H∧D.nx σ H)∨((Itr lo n).go i H∧∃ N:St→Hp→Prop,(∀ σ' H',N σ' H'→∃ m',m'<m∧W (i+1) m' σ' H')∧∀ x H',(Itr lo n).yld i H x H'→g x σ H' fun σ2 H2=>tb { D with nx:=N,ct:=N,bk:=D.nx } σ2 H2):=by
 refine⟨fun i m σ H=>m=n - i∧i≤n∧Pv i σ H,⟨n,by simp,Nat.zero_le _,h0⟩,?_⟩
 rintro i m σ H ⟨rfl,hi,p⟩
 by_cases hlt:i<n
 ·refine .inr ⟨hlt,Pv (i+1),fun σ' H' p'=>⟨n - (i+1),by omega,rfl,hlt,p'⟩,fun x H' y=>?_⟩
  obtain⟨e,y⟩:=y
  subst e y
  exact hs i σ _ hlt p
 ·have e:i=n:=by omega
  subst e
  exact .inl ⟨Nat.le_refl _,hd σ H p⟩
theorem ahk {c:TT} {tb:TS} {D:Ends} {σ : St} {H:Hp} (Pv:St→Hp→Prop) (μ : St→Hp→Nat) (h0:Pv σ H)
  (hs:∀ σ H,Pv σ H→c σ H fun b H1=>if b=true then tb { D with nx:=fun σ' H'=>Pv σ' H' ∧ μ σ' H' < μ σ H,ct:=fun σ' H'=>Pv σ' H' ∧ μ σ' H' < μ σ H,bk:=D.nx } σ H1 else D.nx σ H1)
  (mono:∀ σ H Q Q',(∀ b H1,Q b H1→Q' b H1)→c σ H Q→c σ H Q'):ajg c tb D σ H:=by
 refine⟨fun m σ H=>m = μ σ H∧Pv σ H,⟨_,rfl,h0⟩,?_⟩
 rintro m σ H ⟨rfl,p⟩
 refine mono σ H _ _ (fun b H1 q=>?_) (hs σ H p)
 cases b with
 | true=>exact⟨_,fun σ' H' ⟨p',l⟩=>⟨_,l,rfl,p'⟩,q⟩
 | false=>exact q
end L2
namespace L2
open PySem PySem.Spec PyProof.Rows
abbrev R2:=V→V→Hp→VK→Prop
def OpR (X:Cx) (f:Value→Value→Sem Value) (r:R2):Prop :=
 ∀ (pins:List (Addr×Obj)) (s:Shared) (σ : St) (H:Hp) (x y:V) (v u:Value) (Q:VK),Inv X pins σ H s→RelV x v→RelV y u→r x y H Q →
  wpAny (model X.prog X.w) X.A (f v u) (EP X pins σ Q) X.xe s
def UnR (X:Cx) (f:Value→Sem Value) (r:V→Hp→VK→Prop):Prop :=
 ∀ (pins:List (Addr×Obj)) (s:Shared) (σ : St) (H:Hp) (x:V) (v:Value) (Q:VK),Inv X pins σ H s→RelV x v→r x H Q →
  wpAny (model X.prog X.w) X.A (f v) (EP X pins σ Q) X.xe s
def mK (X:Cx) (f:Value) (r:List V→Hp→VK→Prop):Prop :=
 ∀ (pins:List (Addr×Obj)) (s:Shared) (σ : St) (H:Hp) (xs:List V) (us:List Value) (Q:VK),Inv X pins σ H s→Vals xs us→r xs H Q →
  wpAny (model X.prog X.w) X.A (call f us) (EP X pins σ Q) X.xe s
def TruR (X:Cx) (r:V→Hp→(Bool→Hp→Prop)→Prop):Prop :=
 ∀ (pins:List (Addr×Obj)) (s:Shared) (σ : St) (H:Hp) (x:V) (v:Value) (Q:Bool→Hp→Prop),Inv X pins σ H s→RelV x v→r x H Q →
  wpAny (model X.prog X.w) X.A (truthy v) (TP X pins σ Q) X.xe s
def tOp (r:R2) (ta tb:TE):TE:=fun σ H Q=>ta σ H fun x H1=>tb σ H1 fun y H2=>r x y H2 Q
def tUn (r:V→Hp→VK→Prop) (ta:TE):TE:=fun σ H Q=>ta σ H fun x H1=>r x H1 Q
def rI (C:Int→Int→Prop) (g:Int→Int→V):R2:=fun x y H Q=>∃ i j,x = .int i∧y = .int j∧C i j∧Q (g i j) H
def rI0 (g:Int→Int→V):R2:=fun x y H Q=>∃ i j,x = .int i∧y = .int j∧Q (g i j) H
def rU (g:Int→V):V→Hp→VK→Prop:=fun x H Q=>∃ i,x = .int i∧Q (g i) H
section
variable {X:Cx} {a b c:Expr} {ta tb tc:TE} {pos:Pos}
theorem binT (ha:PE X a ta) (hb:PE X b tb) {pins:List (Addr×Obj)} {s:Shared} {σ : St} {H:Hp} {R:V→V→Hp→Prop} (I:Inv X pins σ H s)
  (h:ta σ H fun x H1=>tb σ H1 fun y H2=>R x y H2) {Q:Value→Shared→Prop} {f:Value→Value→Sem Value}
  (hf:∀ v u s2 x y H2,Inv X pins σ H2 s2→RelV x v→RelV y u→R x y H2→wpAny (model X.prog X.w) X.A (f v u) Q X.xe s2) :
  wpAny (model X.prog X.w) X.A (eval a X.env) (fun v s₁ => wpAny (model X.prog X.w) X.A (eval b X.env) (fun u s₂ => wpAny (model X.prog X.w) X.A (f v u) Q X.xe s₂) X.xe s₁) X.xe s:=by
 refine thn (ha pins s σ H _ I h) fun v s1 ⟨x,H1,I1,r1,q1⟩=>?_
 refine thn (hb pins s1 σ H1 _ I1 q1) fun u s2 ⟨y,H2,I2,r2,q2⟩=>?_
 exact hf v u s2 x y H2 I2 r1 r2 q2
theorem bw {op:Operator} {r:R2} (ho:OpR X (binaryOp op) r) (ha:PE X a ta) (hb:PE X b tb):PE X (.BinOp a op b pos) (tOp r ta tb):=by
 intro pins s σ H Q I h
 exact wpAny_BinOp (binT ha hb I h fun v u s2 x y H2 I2 rx ry q=>ho pins s2 σ H2 x y v u Q I2 rx ry q)
theorem akF {op:UnaryOp} {r:V→Hp→VK→Prop} (ho:UnR X (unaryOp op) r) (ha:PE X a ta):PE X (.UnaryOp op a pos) (tUn r ta):=by
 intro pins s σ H Q I h
 exact UnaryOp_ (thn (ha pins s σ H _ I h) fun v s1 ⟨x,H1,I1,r1,q1⟩=>ho pins s1 σ H1 x v Q I1 r1 q1)
theorem opI {f:Value→Value→Sem Value} {C:Int→Int→Prop} {g:Int→Int→Int}
  (rule:∀ (i j:Int) (t u:Tok) (s:Shared) (Q:Value→Shared→Prop) (E:Value→Shared→Prop),C i j→Q (.int (g i j) s.toks) { s with toks:=s.toks+1 }→wpAny (model X.prog X.w) X.A (f (.int i t) (.int j u)) Q E s) :
  OpR X f (rI C fun i j=>.int (g i j)):=by
 intro pins s σ H x y v u Q I rx ry h
 obtain⟨i,j,rfl,rfl,hc,q⟩:=h
 obtain⟨t,rfl⟩:=rx
 obtain⟨t',rfl⟩:=ry
 exact rule i j t t' s _ _ hc ⟨.int (g i j),H,I.tok _,⟨_,rfl⟩,q⟩
theorem opI0 {f:Value→Value→Sem Value} {g:Int→Int→Int}
  (rule:∀ (i j:Int) (t u:Tok) (s:Shared) (Q:Value→Shared→Prop) (E:Value→Shared→Prop),Q (.int (g i j) s.toks) { s with toks:=s.toks+1 }→wpAny (model X.prog X.w) X.A (f (.int i t) (.int j u)) Q E s) :
  OpR X f (rI0 fun i j=>.int (g i j)):=by
 intro pins s σ H x y v u Q I rx ry h
 obtain⟨i,j,rfl,rfl,q⟩:=h
 obtain⟨t,rfl⟩:=rx
 obtain⟨t',rfl⟩:=ry
 exact rule i j t t' s _ _ ⟨.int (g i j),H,I.tok _,⟨_,rfl⟩,q⟩
theorem opB0 {f:Value→Value→Sem Value} {g:Int→Int→Bool}
  (rule:∀ (i j:Int) (t u:Tok) (s:Shared) (Q:Value→Shared→Prop) (E:Value→Shared→Prop),Q (.bool (g i j)) s→wpAny (model X.prog X.w) X.A (f (.int i t) (.int j u)) Q E s) :
  OpR X f (rI0 fun i j=>.bl (g i j)):=by
 intro pins s σ H x y v u Q I rx ry h
 obtain⟨i,j,rfl,rfl,q⟩:=h
 obtain⟨t,rfl⟩:=rx
 obtain⟨t',rfl⟩:=ry
 exact rule i j t t' s _ _ ⟨.bl (g i j),H,I,rfl,q⟩
def CDiv (i j:Int):Prop:=0 < j∧j < 1073741824
def CPow (i j:Int):Prop:=0≤j∧j≤1000000∧i.natAbs < 2 ^ 64
def CMul (i j:Int):Prop:=(-(2 ^ 64)<i∧i < 2 ^ 64)∨(-(2 ^ 64)<j∧j < 2 ^ 64)
theorem CMul.ok {i j:Int} (h:CMul i j):IntMulOk i j:=by
 rcases h with ⟨h1,h2⟩ | ⟨h1,h2⟩
 ·exact .of_left (intBits_le_64 h1 h2)
 ·exact .of_right (intBits_le_64 h1 h2)
theorem two_pow_nn (k:Nat):(0:Int)≤2 ^ k:=by
 rw[two_pow_cast]
 exact Int.natCast_nonneg _
theorem eF:OpR X (binaryOp .Add) (rI0 fun i j=>.int (i+j)):=opI0 fun _ _ _ _ _ _ _ q=>add_int q
theorem aeT:OpR X (binaryOp .Sub) (rI0 fun i j=>.int (i - j)):=opI0 fun _ _ _ _ _ _ _ q=>sub_int q
theorem uY:OpR X (binaryOp .Mult) (rI CMul fun i j=>.int (i * j)):=opI fun _ _ _ _ _ _ _ hc q=>mul_int q hc.ok
theorem sY:OpR X (binaryOp .FloorDiv) (rI CDiv fun i j=>.int (i / j)):=opI fun i j _ _ _ _ _ hc q=>by
 have h1:(0:Int)<j:=hc.1
 have h2:j < 1073741824:=hc.2
 exact floordiv_int (by omega) (by rw[Int.fdiv_eq_ediv_of_nonneg i (by omega)];exact q) (.inl (PyProof.noPylong_small (by omega)))
theorem mL:OpR X (binaryOp .Mod) (rI (fun _ j=>0 < j) fun i j=>.int (i % j)):=opI fun i j _ _ _ _ _ hc q=>by
 have h1:(0:Int)<j:=hc
 exact mod_int' (by omega) (by rw[Int.fmod_eq_emod_of_nonneg i (by omega)];exact q)
theorem CV:OpR X (binaryOp .LShift) (rI CPow fun i j=>.int (i * 2 ^ j.toNat)):=opI fun _ _ _ _ _ _ _ hc q=>lshift_int_small hc.1 hc.2.1 hc.2.2 q
theorem aji:OpR X (binaryOp .RShift) (rI (fun _ j=>0≤j) fun i j=>.int (i / 2 ^ j.toNat)):=opI fun i j _ _ _ _ _ hc q =>
 rshift_int hc (by rw[Int.fdiv_eq_ediv_of_nonneg i (two_pow_nn _)];exact q)
theorem CZ:OpR X (binaryOp .BitAnd) (rI0 fun i j=>.int (Builtin.bitAnd i j)):=opI0 fun _ _ _ _ _ _ _ q=>and_int q
theorem Rh:OpR X (binaryOp .BitOr) (rI0 fun i j=>.int (Builtin.bitOr i j)):=opI0 fun _ _ _ _ _ _ _ q=>or_int q
theorem unI {f:Value→Sem Value} {g:Int→Int}
  (rule:∀ (i:Int) (t:Tok) (s:Shared) (Q:Value→Shared→Prop) (E:Value→Shared→Prop),Q (.int (g i) s.toks) { s with toks:=s.toks+1 }→wpAny (model X.prog X.w) X.A (f (.int i t)) Q E s) :
  UnR X f (rU fun i=>.int (g i)):=by
 intro pins s σ H x v Q I rx h
 obtain⟨i,rfl,q⟩:=h
 obtain⟨t,rfl⟩:=rx
 exact rule i t s _ _ ⟨.int (g i),H,I.tok _,⟨_,rfl⟩,q⟩
theorem ajj:UnR X (unaryOp .USub) (rU fun i=>.int (-i)):=unI fun _ _ _ _ _ q=>neg_int q
theorem apc:UnR X (unaryOp .Invert) (rU fun i=>.int (Builtin.bitNot i)):=unI fun _ _ _ _ _ q=>invert_int q
end
def scal:V→V→Bool
 | .non,.non=>true | .non,.int _=>true | .int _,.non=>true | .non,.bl _=>true | .bl _,.non=>true | .non,.str _=>true | .str _,.non=>true
 | .int _,.int _=>true | .bl _,.bl _=>true | .str _,.str _=>true | .byt _,.byt _=>true
 | .int _,.str _=>true | .str _,.int _=>true | .bl _,.str _=>true | .str _,.bl _=>true
 | _,_=>false
def rEq:R2:=fun x y H Q=>scal x y=true∧Q (.bl (decide (x=y))) H
def rNe:R2:=fun x y H Q=>scal x y=true∧Q (.bl (!decide (x=y))) H
theorem Y5 {i j:Int}:decide (V.int i=V.int j)=(i == j):=by
 rw[Bool.eq_iff_iff]
 simp
theorem amL {i j:Bool}:decide (V.bl i=V.bl j)=(i == j):=by
 rw[Bool.eq_iff_iff]
 simp
theorem akG {i j:Str}:decide (V.str i=V.str j)=(i == j):=by
 rw[Bool.eq_iff_iff]
 simp
theorem akH {i j:Array UInt8}:decide (V.byt i=V.byt j)=(i.toList == j.toList):=by
 rw[Bool.eq_iff_iff]
 cases i
 cases j
 simp
section
variable {X:Cx} {a b c:Expr} {ta tb tc:TE} {pos:Pos}
theorem fj {pins:List (Addr×Obj)} {σ : St} {H:Hp} {s:Shared} {Q:VK} {k k':Bool} (I:Inv X pins σ H s) (q:Q (.bl k) H) (e:k=k'):EP X pins σ Q (.bool k') s:=by
 subst e
 exact⟨.bl k,H,I,rfl,q⟩
theorem mO:OpR X (compareOp .Eq) rEq:=by
 intro pins s σ H x y v u Q I rx ry h
 obtain⟨hs,q⟩:=h
 cases x with
 | non =>
  cases rx
  cases y with
  | non=>cases ry;exact PySem.EqNone.eq_none_none (fj I q (by simp))
  | bl j=>cases ry;exact PySem.EqNone.eq_none_bool (fj I q (by simp))
  | int j=>obtain⟨t',rfl⟩:=ry;exact PySem.EqNone.eq_none_int (fj I q (by simp))
  | str j=>obtain⟨t',rfl⟩:=ry;exact PySem.EqNone.eq_none_str (fj I q (by simp))
  | _=>exact absurd (show false=true from hs) Bool.false_ne_true
 | bl i =>
  cases rx
  cases y with
  | non=>cases ry;exact PySem.EqNone.eq_bool_none (fj I q (by simp))
  | bl j=>cases ry;exact eq_bool (fj I q amL)
  | str j=>obtain⟨t',rfl⟩:=ry;exact PySem.EqMixed.eq_bool_str (fj I q (by simp))
  | _=>exact absurd (show false=true from hs) Bool.false_ne_true
 | int i =>
  obtain⟨t,rfl⟩:=rx
  cases y with
  | non=>cases ry;exact PySem.EqNone.eq_int_none (fj I q (by simp))
  | int j=>obtain⟨t',rfl⟩:=ry;exact eq_int (fj I q Y5)
  | str j=>obtain⟨t',rfl⟩:=ry;exact PySem.EqMixed.eq_int_str (fj I q (by simp))
  | _=>exact absurd (show false=true from hs) Bool.false_ne_true
 | str i =>
  obtain⟨t,rfl⟩:=rx
  cases y with
  | non=>cases ry;exact PySem.EqNone.eq_str_none (fj I q (by simp))
  | bl j=>cases ry;exact PySem.EqMixed.eq_str_bool (fj I q (by simp))
  | int j=>obtain⟨t',rfl⟩:=ry;exact PySem.EqMixed.eq_str_int (fj I q (by simp))
  | str j=>obtain⟨t',rfl⟩:=ry;exact eq_str (fj I q akG)
  | _=>exact absurd (show false=true from hs) Bool.false_ne_true
 | byt i =>
  obtain⟨t,rfl⟩:=rx
  cases y with
  | byt j=>obtain⟨t',rfl⟩:=ry;exact W.eq_bytes (fj I q akH)
  | _=>exact absurd (show false=true from hs) Bool.false_ne_true
 | _=>cases y <;> exact absurd (show false=true from hs) Bool.false_ne_true
theorem GP:OpR X (compareOp .NotEq) rNe:=by
 intro pins s σ H x y v u Q I rx ry h
 obtain⟨hs,q⟩:=h
 cases x with
 | non =>
  cases rx
  cases y with
  | non=>cases ry;exact PySem.EqNone.ne_none_none (fj I q (by simp))
  | bl j=>cases ry;exact PySem.EqNone.ne_none_bool (fj I q (by simp))
  | int j=>obtain⟨t',rfl⟩:=ry;exact PySem.EqNone.ne_none_int (fj I q (by simp))
  | str j=>obtain⟨t',rfl⟩:=ry;exact PySem.EqNone.ne_none_str (fj I q (by simp))
  | _=>exact absurd (show false=true from hs) Bool.false_ne_true
 | bl i =>
  cases rx
  cases y with
  | non=>cases ry;exact PySem.EqNone.ne_bool_none (fj I q (by simp))
  | bl j=>cases ry;exact ne_bool (fj I q (congrArg not amL))
  | str j=>obtain⟨t',rfl⟩:=ry;exact PySem.EqMixed.ne_bool_str (fj I q (by simp))
  | _=>exact absurd (show false=true from hs) Bool.false_ne_true
 | int i =>
  obtain⟨t,rfl⟩:=rx
  cases y with
  | non=>cases ry;exact PySem.EqNone.ne_int_none (fj I q (by simp))
  | int j=>obtain⟨t',rfl⟩:=ry;exact ne_int (fj I q (congrArg not Y5))
  | str j=>obtain⟨t',rfl⟩:=ry;exact PySem.EqMixed.ne_int_str (fj I q (by simp))
  | _=>exact absurd (show false=true from hs) Bool.false_ne_true
 | str i =>
  obtain⟨t,rfl⟩:=rx
  cases y with
  | non=>cases ry;exact PySem.EqNone.ne_str_none (fj I q (by simp))
  | bl j=>cases ry;exact PySem.EqMixed.ne_str_bool (fj I q (by simp))
  | int j=>obtain⟨t',rfl⟩:=ry;exact PySem.EqMixed.ne_str_int (fj I q (by simp))
  | str j=>obtain⟨t',rfl⟩:=ry;exact ne_str (fj I q (congrArg not akG))
  | _=>exact absurd (show false=true from hs) Bool.false_ne_true
 | byt i =>
  obtain⟨t,rfl⟩:=rx
  cases y with
  | byt j=>obtain⟨t',rfl⟩:=ry;exact W.ne_bytes (fj I q (congrArg not akH))
  | _=>exact absurd (show false=true from hs) Bool.false_ne_true
 | _=>cases y <;> exact absurd (show false=true from hs) Bool.false_ne_true
theorem Zn:OpR X (compareOp .Lt) (rI0 fun i j=>.bl (decide (i<j))):=opB0 fun _ _ _ _ _ _ _ q=>lt_int q
theorem ahl:OpR X (compareOp .LtE) (rI0 fun i j=>.bl (decide (i≤j))):=opB0 fun _ _ _ _ _ _ _ q=>le_int q
theorem amM:OpR X (compareOp .Gt) (rI0 fun i j=>.bl (decide (j<i))):=opB0 fun _ _ _ _ _ _ _ q=>gt_int q
theorem amN:OpR X (compareOp .GtE) (rI0 fun i j=>.bl (decide (j≤i))):=opB0 fun _ _ _ _ _ _ _ q=>ge_int q
theorem OpR.or {f:Value→Value→Sem Value} {r r':R2} (h:OpR X f r) (h':OpR X f r'):OpR X f (fun x y H Q=>r x y H Q∨r' x y H Q):=by
 intro pins s σ H x y v u Q I rx ry q
 rcases q with q | q
 ·exact h pins s σ H x y v u Q I rx ry q
 ·exact h' pins s σ H x y v u Q I rx ry q
theorem bF (b:Expr) {op:CmpOp} (h:op ≠ .In:=by decide) (h2:op ≠ .NotIn:=by decide):behindInMarks op b=false:=by
 have e1:(op == CmpOp.In)=false:=by cases op <;> first | rfl | exact absurd rfl h
 have e2:(op == CmpOp.NotIn)=false:=by cases op <;> first | rfl | exact absurd rfl h2
 cases b <;> simp [behindInMarks,e1,e2]
theorem mj {op:CmpOp} {r:R2} (ho:OpR X (compareOp op) r) (ha:PE X a ta) (hb:PE X b tb) (hm:behindInMarks op b=false):PE X (.Compare a [op] [b] pos) (tOp r ta tb):=by
 intro pins s σ H Q I h
 exact wpAny_Compare1 (binT ha hb I h fun v u s2 x y H2 I2 rx ry q=>ho pins s2 σ H2 x y v u Q I2 rx ry q) hm
def apW (t:TE):TT:=fun σ H Q=>t σ H fun x H'=>∃ k,x = .bl k∧Q k H'
theorem bA {op:CmpOp} {r:R2} (ho:OpR X (compareOp op) r) (ha:PE X a ta) (hb:PE X b tb) (hm:behindInMarks op b=false):PT X (.Compare a [op] [b] pos) (apW (tOp r ta tb)):=by
 intro pins s σ H Q I h
 refine wpAny_isTrue_Compare1 (thn (ha pins s σ H _ I h) fun v s1 ⟨x,H1,I1,r1,q1⟩=>thn (hb pins s1 σ H1 _ I1 q1) fun u s2 ⟨y,H2,I2,r2,q2⟩ =>
  thn (ho pins s2 σ H2 x y v u _ I2 r1 r2 q2) fun c s3 ⟨z,H3,I3,r3,k,e,q3⟩=>?_) hm
 subst e
 cases r3
 exact wpAny_truthy_bool ⟨H3,I3,q3⟩
def apd (r r':R2) (ta tb tc:TE):TE:=fun σ H Q=>ta σ H fun x H1=>tb σ H1 fun y H2=>r x y H2 fun z H3=>∃ k,z = .bl k ∧
 (if k=true then tc σ H3 fun w' H4=>r' y w' H4 Q else Q (.bl false) H3)
theorem Zo {op op':CmpOp} {r r':R2} (ho:OpR X (compareOp op) r) (ho':OpR X (compareOp op') r') (ha:PE X a ta) (hb:PE X b tb) (hc:PE X c tc)
  (hm:lastMarks [op,op'] [b,c] = false:=by with_unfolding_all rfl):PE X (.Compare a [op,op'] [b,c] pos) (apd r r' ta tb tc):=by
 intro pins s σ H Q I h
 refine Compare_chain (thn (ha pins s σ H _ I h) fun v s1 ⟨x,H1,I1,r1,q1⟩=>chain_link (thn (hb pins s1 σ H1 _ I1 q1) fun u s2 ⟨y,H2,I2,r2,q2⟩ =>
  thn (ho pins s2 σ H2 x y v u _ I2 r1 r2 q2) fun d s3 ⟨z,H3,I3,r3,k,e,q3⟩=>?_)) hm
 subst e
 cases r3
 refine wpAny_truthy_bool ?_
 cases k with
 | false=>exact ite_ff ⟨.bl false,H3,I3,rfl,q3⟩
 | true=>exact ite_tt (chain_last (thn (hc pins s3 σ H3 _ I3 q3) fun w' s4 ⟨z',H4,I4,r4,q4⟩=>ho' pins s4 σ H4 y z' u w' Q I4 r2 r4 q4))
def TruV (K:W.Frag) (x:V) (H:Hp) (k:Bool):Prop :=
 match x with
 | .non=>k=false
 | .bl b=>k=b
 | .int i=>k=(i != 0)
 | .str y=>y.length≤sizeLine∧k=((y.length:Int) != 0)
 | .byt y=>y.size≤sizeLine∧k=((y.size:Int) != 0)
 | .ref p=>(∃ xs,SqL K H p xs∧k = !xs.isEmpty)∨(∃ xs,SqT K H p xs∧k = !xs.isEmpty) ∨ ∃ kvs,H p=some (.dK kvs)∧k = !kvs.isEmpty
 | _=>False
theorem ajk {κ : Type} {kvs:List (κ × V)} {vs:List (κ × Value)} (r:KV kvs vs):(!vs.isEmpty) = !kvs.isEmpty:=by
 cases r <;> rfl
theorem Zq {xs:List V} {its:List Value} (r:Vals xs its):(!its.toArray.isEmpty) = !xs.isEmpty:=by
 cases r <;> simp
theorem Zr:(sizeLine:Nat) < 2 ^ 63:=by rw[sizeLine_eq];decide
theorem ape:TruR X (fun x H Q=>∃ k,TruV X.K x H k∧Q k H):=by
 intro pins s σ H x v Q I rx h
 obtain⟨k,e,q⟩:=h
 have hl:=Zr
 have hs:sizeLine=16777216:=sizeLine_eq
 cases x with
 | non =>
  cases rx
  have e':k=false:=e
  subst e'
  exact truthy_none ⟨H,I,q⟩
 | bl b =>
  cases rx
  have e':k=b:=e
  subst e'
  exact wpAny_truthy_bool ⟨H,I,q⟩
 | int i =>
  obtain⟨t,rfl⟩:=rx
  have e':k=(i != 0):=e
  subst e'
  exact PySem.P.truthy_int ⟨H,I,q⟩
 | str y =>
  obtain⟨t,rfl⟩:=rx
  obtain⟨hy,e'⟩ : y.length≤sizeLine∧k=((y.length:Int) != 0):=e
  subst e'
  exact PySem.P.truthy_str (by omega) ⟨H,I.tok _,q⟩
 | byt y =>
  obtain⟨t,rfl⟩:=rx
  obtain⟨hy,e'⟩ : y.size≤sizeLine∧k=((y.size:Int) != 0):=e
  subst e'
  exact W.truthy_bytes (by omega) ⟨H,I.tok _,q⟩
 | ref p =>
  cases rx
  have e':(∃ xs,SqL X.K H p xs∧k = !xs.isEmpty)∨(∃ xs,SqT X.K H p xs∧k = !xs.isEmpty) ∨ ∃ kvs,H p=some (.dK kvs)∧k = !kvs.isEmpty:=e
  rcases e' with ⟨xs,hx,e'⟩ | ⟨xs,hx,e'⟩ | ⟨kvs,hx,e'⟩
  ·subst e'
   obtain⟨its,r,pl,hz⟩:=I.list hx
   have hlen:=r.length
   exact wpAny_truthy_list pl.isList (by simp only [List.size_toArray];omega) ⟨H,I.tok _,by rw[Zq r];exact q⟩
  ·subst e'
   obtain⟨its,r,pl,hz⟩:=I.tuple hx
   have hlen:=r.length
   exact truthy_tuple pl (by simp only [List.size_toArray];omega) ⟨H,I.tok _,by rw[Zq r];exact q⟩
  ·subst e'
   obtain⟨hz,hS,vs,r,m⟩ : kvs.length≤sizeLine∧(p == sysModules)=false∧∃ vs,KV kvs vs∧s.heap.DictOf (nT X.prog X.w) p vs:=I.hok p _ hx
   have hlen:kvs.length=vs.length:=Paired.length r
   exact wpAny_truthy_dict hS m (by omega) ⟨H,I.tok _,by rw[ajk r];exact q⟩
 | _=>exact(show False from e).elim
theorem amO (ha:PE X a ta) (he:∀ whole,isTrue a X.env whole=(do let v ← whole;standAt a.pos;holding [v] (truthy v))) :
  PT X a (fun σ H Q=>ta σ H fun x H'=>∃ k,TruV X.K x H' k∧Q k H'):=by
 intro pins s σ H Q I h
 exact isTrue_plain (thn (ha pins s σ H _ I h) fun v s1 ⟨x,H1,I1,r1,q1⟩=>ape pins s1 σ H1 x v Q I1 r1 q1) (he _)
theorem vals1 {x:V} {us:List Value} (r:Vals [x] us):∃ u,us = [u]∧RelV x u:=by
 cases r with
 | cons r1 r2=>cases r2;exact⟨_,rfl,r1⟩
theorem vals2 {x y:V} {us:List Value} (r:Vals [x,y] us):∃ u w',us = [u,w']∧RelV x u∧RelV y w':=by
 cases r with
 | cons r1 r2 =>
  cases r2 with
  | cons r3 r4=>cases r4;exact⟨_,_,rfl,r1,r3⟩
theorem aly (hc:X.calm=true):mK X (.builtin "min") (fun xs H Q=>∃ i j,xs = [.int i,.int j]∧Q (.int (if j<i then j else i)) H):=by
 intro pins s σ H xs us Q I r h
 obtain⟨i,j,rfl,q⟩:=h
 obtain⟨u,w',rfl,⟨t,rfl⟩,⟨t',rfl⟩⟩:=vals2 r
 refine min_two_ints (I.ok.hd hc) fun h' tk k=>⟨_,H,I.kept k,?_,q⟩
 by_cases hj:j<i
 ·rw[if_pos hj,if_pos hj];exact⟨_,rfl⟩
 ·rw[if_neg hj,if_neg hj];exact⟨_,rfl⟩
end
end L2
namespace L2
open PySem PySem.Spec PyProof.Rows
structure ObjM (h:Heap) (x dx C:Addr) (mA:Str→Option Value):Prop where
 obj:h.get? x=some (W.instObj C dx)
 ns:h.Ns1 dx mA
 ne:dx≠x
theorem alz {h:Heap} {dx:Addr} {mA:Str→Option Value} (n:h.Ns1 dx mA):∃ od,h.get? dx=some od∧∀ name,W.lookIn name od=some (mA name):=by
 obtain⟨o,es,ep,ho,hd,hk,_,hm⟩:=n
 refine⟨o,ho,fun name=>?_⟩
 have e:=hm name
 unfold nsFind findBy at e
 rw[← Array.find?_toList] at e
 unfold W.lookIn
 rw[hd]
 dsimp only
 split
 ·rename_i y q
  rw[q] at e
  exact congrArg some e
 ·rename_i q
  rw[q] at e
  have a:es.toList.any (·.refKey)=false:=by
   rw[List.any_eq_false]
   intro y hy
   obtain⟨z,t,hkey⟩:=hk y (Array.mem_toList_iff.mp hy)
   simp [DictEntry.refKey,hkey]
  have a':¬ es.toList.any (·.refKey)=true:=by rw[a];exact Bool.false_ne_true
  rw[if_neg a']
  exact congrArg some e
theorem ObjM.look {h:Heap} {x dx C:Addr} {mA:Str→Option Value} (I:ObjM h x dx C mA):∃ od,W.InstAt h x (W.instObj C dx) C (some od)∧∀ name,W.lookIn name od=some (mA name) :=
 let ⟨od,ho,hl⟩:=alz I.ns
 ⟨od,⟨I.obj,rfl,rfl,ho⟩,hl⟩
section
variable {prog:Program} {w:World} {A:Around} {E:Value→Shared→Prop} {s:Shared} {K:W.Frag} {x dx C f:Addr} {mA:Str→Option Value} {name:Str} {v:Value}
theorem get_map {expr:Bool} {Q:Value→Shared→Prop} (X:K.In s.heap) (I:ObjM s.heap x dx C mA) (hg:W.plainGet K C name=true) (hh:W.hasDictIn K C=true)
  (ha:W.findIn K (.ref C) name=some none) (hv:mA name=some v) (hv':W.handedIn v=true) (h:Q v { s with toks:=s.toks+1 }) :
  wpAny (model prog w) A (getAttr (.ref x) name expr) Q E s:=by
 obtain⟨od,J,hl⟩:=I.look
 exact W.get_value X J (W.plainGet_of hg).1 (W.findObj_own hh ha rfl (by rw[hl,hv])) hv' h
theorem amP {pl:Sem Bool} {Q:Value×List Value→Shared→Prop} (X:K.In s.heap) (I:ObjM s.heap x dx C mA) (hg:W.plainGet K C name=true)
  (hf:W.findIn K (.ref C) name=some (some (.ref f))) (ht:W.isFn K (.ref f)=true) (hv:mA name=none) (h:Q (.ref f,[.ref x]) s) :
  wpAny (model prog w) A (getMethod (.ref x) name pl) Q E s:=by
 obtain⟨od,J,hl⟩:=I.look
 exact W.method_fn X J (W.plainGet_of hg).1 (W.plainGet_of hg).2 hf (beq_iff_eq.mp ht) (by show(W.lookIn name od).map (·.isSome)=some false;rw[hl,hv];rfl) h
theorem an6 {ns:List Str} {Q:Unit→Shared→Prop} (X:K.In s.heap) (I:ObjM s.heap x dx C mA)
  (hs:W.findIn K (.ref C) "__setattr__" = some (some (.builtin "object.__setattr__"))) (hp:W.plainOver K C=true) (ht:W.takerIn K C name=some none) (hh:W.hasDictIn K C=true)
  (hw:PySem.Within mA ns) (hsz:ns.length≤sizeLine)
  (h:∀ h',ObjM h' x dx C (fun y=>if y=name then some v else mA y)→Heap.SameBut dx s.heap h'→Q () { s with heap:=h',toks:=s.toks+2 }) :
  wpAny (model prog w) A (setAttr (.ref x) name v) Q E s:=by
 obtain⟨od,J,hl⟩:=I.look
 refine W.set_plain X J hs (W.osa_open (s:={ s with toks:=s.toks+1 }) (r:=none) X J hp ht fun b=>?_)
 obtain⟨cd,hc,hd'⟩:=W.any_some hh
 have hx:s.heap.get? x=some ⟨.ref C,some dx,.plain,#[]⟩:=I.obj
 refine wpAny_bind (wpAny_pure (wpAny_bind (wpAny_bind (wpAny_loadPart hx (wpAny_bind (W.Looks.here (s:={ s with toks:=s.toks+1 }) (W.looks_clsIn X hc) ?_))))))
 rw[hd']
 refine wpAny_pure (a:=some dx) (wpAny_bind (wpAny_pure (wpAny_bind ?_)))
 refine wpAny_nsSet1 (s:={ s with toks:=s.toks+1 }) I.ns fun h' hn2 hs2=>?_
 obtain⟨oD,esD,epD,hoD,hdD,hcD⟩:=hn2.count (PySem.Within.cons name v hw)
 refine wpAny_bind (wpAny_lookBehind hoD (by rw[hdD];exact pastItsLine_dict (Nat.le_trans hcD (by rw[List.length_cons];omega))) ?_)
 exact wpAny_pure (h _ ⟨(hs2.2 _ (Ne.symm I.ne)).trans I.obj,hn2,I.ne⟩ hs2)
theorem amQ {R:Result→Shared→Prop} {vs:List Value} {kw:List (Str×Value)} (X:K.In s.heap) (hm:W.makesIn K C=true)
  (hi:W.findIn K (.ref C) "__init__" = some (some (.ref f))) (hf:W.typeIn K (.ref f)=some (.type "function"))
  (h:codeAny (model prog w) (A.under (.builtin "type.__call__" ⟨.ref C::vs,kw⟩)) (.call (.ref f) ⟨.ref (s.heap.objs.size+1)::vs,kw⟩) (W.InitBack (s.heap.objs.size+1) R)
   { s with heap:=(s.heap.push W.emptyDict).push (W.instObj C s.heap.objs.size) }) :
  codeAny (model prog w) A (.call (.ref C) ⟨vs,kw⟩) R s:=by
 obtain⟨hh,g,d,t,os⟩:=s
 exact W.make_core (W.makes_of X hm) (W.looks_findIn X hi) (fun self=>W.bind_fn X self hf) (.inl rfl) h
end
def putF (f:Str) (v:V):List (Str×V)→List (Str×V)
 | []=>[(f,v)]
 | (g,x)::r=>if g=f then (g,v)::r else (g,x)::putF f v r
theorem aZ (f g:Str) (v:V):∀ fs:List (Str×V),(putF f v fs).lookup g=if g=f then some v else fs.lookup g
 | []=>by
  show List.lookup g [(f,v)] = _
  by_cases h:g=f
  ·have hb:(g == f)=true:=beq_iff_eq.mpr h
   simp only [List.lookup,hb,if_pos h]
  ·have hb:(g == f)=false:=beq_eq_false_iff_ne.mpr h
   simp only [List.lookup,hb,if_neg h]
 | (k,x)::r=>by
  have ih:=aZ f g v r
  rw[show putF f v ((k,x)::r)=(if k=f then (k,v)::r else (k,x)::putF f v r) from rfl]
  by_cases hk:k=f
  ·rw[if_pos hk]
   by_cases h:g=k
   ·have hb:(g == k)=true:=beq_iff_eq.mpr h
    simp only [List.lookup,hb,if_pos (h.trans hk)]
   ·have hb:(g == k)=false:=beq_eq_false_iff_ne.mpr h
    simp only [List.lookup,hb,if_neg (fun e:g=f=>h (e.trans hk.symm))]
  ·rw[if_neg hk]
   by_cases h:g=k
   ·have hb:(g == k)=true:=beq_iff_eq.mpr h
    simp only [List.lookup,hb,if_neg (fun e:g=f=>hk (h.symm.trans e))]
   ·have hb:(g == k)=false:=beq_eq_false_iff_ne.mpr h
    simp only [List.lookup,hb]
    exact ih
theorem Vu (f:Str) (v:V):∀ fs:List (Str×V),f∈(putF f v fs).map (·.1)∧∀ g,g∈fs.map (·.1)→g∈(putF f v fs).map (·.1)
 | []=>⟨by simp [putF],fun g h=>by simp at h⟩
 | (k,x)::r=>by
  obtain⟨i1,i2⟩:=Vu f v r
  rw[show putF f v ((k,x)::r)=(if k=f then (k,v)::r else (k,x)::putF f v r) from rfl]
  by_cases hk:k=f
  ·rw[if_pos hk]
   subst hk
   exact⟨by simp,fun g h=>by simpa using h⟩
  ·rw[if_neg hk]
   refine⟨?_,fun g h=>?_⟩
   ·rw[List.map_cons]
    exact List.mem_cons_of_mem _ i1
   ·rw[List.map_cons] at h ⊢
    rcases List.mem_cons.mp h with e | e
    ·exact List.mem_cons.mpr (.inl e)
    ·exact List.mem_cons_of_mem _ (i2 g e)
theorem WD (f:Str) (v:V):∀ fs:List (Str×V),(putF f v fs).length≤fs.length+1
 | []=>by simp [putF]
 | (k,x)::r=>by
  have ih:=WD f v r
  rw[show putF f v ((k,x)::r)=(if k=f then (k,v)::r else (k,x)::putF f v r) from rfl]
  by_cases hk:k=f
  ·rw[if_pos hk,List.length_cons,List.length_cons];omega
  ·rw[if_neg hk,List.length_cons,List.length_cons];omega
theorem RelO.some_of {v:V} {o:Option Value} (r:RelO (some v) o):∃ u,o=some u∧RelV v u:=by
 cases o with
 | none=>exact(show False from r).elim
 | some u=>exact⟨u,rfl,r⟩
theorem RelO.none_of {o:Option Value} (r:RelO none o):o=none:=by
 cases o with
 | none=>rfl
 | some u=>exact(show False from r).elim
theorem alA {v:V} {u:Value} (r:RelV v u):W.handedIn u=true:=by
 cases v with
 | non=>cases (show u=Value.none from r);rfl
 | bl b=>cases (show u=Value.bool b from r);rfl
 | int i=>obtain⟨t,e⟩:=(show ∃ t,u=Value.int i t from r);cases e;rfl
 | str x=>obtain⟨t,e⟩:=(show ∃ t,u=Value.str x t from r);cases e;rfl
 | byt b=>obtain⟨t,e⟩:=(show ∃ t,u=Value.bytes b t from r);cases e;rfl
 | flt b=>obtain⟨t,e⟩:=(show ∃ t,u=Value.float b t from r);cases e;rfl
 | ref a=>cases (show u=Value.ref a from r);rfl
 | ty n=>cases (show u=Value.type n from r);rfl
section
variable {P:Program} {w:World} {H H':Hp} {h h':Heap} {a C dx:Addr} {fs fs':List (Str×V)}
theorem Y6 (hok:HOk P w H h) (e:H a=some (.ins C dx fs)):∃ mA,ObjM h a dx C mA∧(∀ f,RelO (fs.lookup f) (mA f))∧PySem.Within mA (fs.map (·.1))∧fs.length≤1000∧H dx=some (.own a):=by
 obtain⟨d,z,ne,ob,mA,n,r,q⟩:=(show jl P w H h a (.ins C dx fs) from hok a _ e)
 exact⟨mA,⟨ob,n,ne⟩,r,q,z,d⟩
end
structure Cls (K:W.Frag) (C:Addr):Prop where
 pg:W.plainGet K C Str.empty=true
 hd:W.hasDictIn K C=true
 po:W.plainOver K C=true
 sa:W.findIn K (.ref C) "__setattr__" = some (some (.builtin "object.__setattr__"))
theorem Cls.get {K:W.Frag} {C:Addr} (c:Cls K C) (f:Str):W.plainGet K C f=true:=c.pg
def j7 (K:W.Frag) (C:Addr) (f:Str):Prop:=W.findIn K (.ref C) f=some none
theorem j7.taker {K:W.Frag} {C:Addr} {f:Str} (n:j7 K C f):W.takerIn K C f=some none:=by
 unfold W.takerIn
 rw[show W.findIn K (.ref C) f=some none from n]
 rfl
structure Meth (K:W.Frag) (C:Addr) (m:Str) (f:Addr):Prop where
 at_:W.findIn K (.ref C) m=some (some (.ref f))
 fn:W.isFn K (.ref f)=true
 kp:W.keepIn K (.ref f)=true
section
variable {X:Cx} {pins:List (Addr×Obj)} {σ : St} {H:Hp} {s:Shared} {a C dx:Addr} {fs:List (Str×V)} {f:Str} {v:V} {A:Around} {E:Value→Shared→Prop}
theorem ajl {b:Bool} {Q:Value→Shared→Prop} (I:Inv X pins σ H s) (e:H a=some (.ins C dx fs)) (c:Cls X.K C) (n:j7 X.K C f) (l:fs.lookup f=some v)
  (h:∀ u s',Inv X pins σ H s'→RelV v u→Q u s'):wpAny (model X.prog X.w) A (getAttr (.ref a) f b) Q E s:=by
 obtain⟨mA,O,r,_,_,_⟩:=Y6 I.hok e
 obtain⟨u,hu,ru⟩:=RelO.some_of (v:=v) (o:=mA f) (by rw[← l];exact r f)
 exact get_map I.kIn O (c.get f) c.hd n hu (alA ru) (h u _ (I.tok _) ru)
theorem Zt {m:Str} {g:Addr} {pl:Sem Bool} {Q:Value×List Value→Shared→Prop} (I:Inv X pins σ H s) (e:H a=some (.ins C dx fs)) (c:Cls X.K C) (k:Meth X.K C m g) (l:fs.lookup m=none)
  (h:Q (.ref g,[.ref a]) s):wpAny (model X.prog X.w) A (getMethod (.ref a) m pl) Q E s:=by
 obtain⟨mA,O,r,_,_,_⟩:=Y6 I.hok e
 have hn:mA m=none:=RelO.none_of (by rw[← l];exact r m)
 exact amP I.kIn O (c.get m) k.at_ k.fn hn h
theorem ajm {y:V} {u:Value} {Q:Unit→Shared→Prop} (I:Inv X pins σ H s) (e:H a=some (.ins C dx fs)) (c:Cls X.K C) (n:j7 X.K C f) (hl:fs.length < 1000) (ry:RelV y u)
  (h:∀ s',Inv X pins σ (upd H a (.ins C dx (putF f y fs))) s'→Q () s'):wpAny (model X.prog X.w) A (setAttr (.ref a) f u) Q E s:=by
 obtain⟨mA,O,r,wi,_,ho⟩:=Y6 I.hok e
 have hz:(fs.map (·.1)).length≤sizeLine:=by rw[List.length_map,sizeLine_eq];omega
 refine an6 I.kIn O c.sa c.po n.taker c.hd wi hz fun h' O' sb=>h _ ?_
 have hd:∃ o,h'.get? dx=some o:=let ⟨o,_,_,e',_⟩:=O'.ns;⟨o,e'⟩
 refine I.write (x:=a) (e:=dx) (by rw[e];exact True.intro) (.inr ho) (fun b q hb z=>(sb.2 b hb).trans z) hd ?_
 refine⟨by rw[aG O.ne];exact ho,?_,O.ne,O'.obj,_,O'.ns,fun g=>?_,fun g hg=>?_⟩
 ·have:=WD f y fs;omega
 ·show RelO ((putF f y fs).lookup g) (if g=f then some u else mA g)
  rw[aZ]
  by_cases q:g=f
  ·rw[if_pos q,if_pos q];exact ry
  ·rw[if_neg q,if_neg q];exact r g
 ·by_cases q:g=f
  ·rw[q];exact(Vu f y fs).1
  ·refine(Vu f y fs).2 g (wi g fun z=>hg ?_)
   show(if g=f then some u else mA g)=none
   rw[if_neg q];exact z
theorem Inv.made (I:Inv X pins σ H s):Inv X pins σ (upd (upd H s.heap.objs.size (.own (s.heap.objs.size+1))) (s.heap.objs.size+1) (.ins C s.heap.objs.size []))
  { s with heap:=(s.heap.push W.emptyDict).push (W.instObj C s.heap.objs.size) }:=by
 have e1:(s.heap.push W.emptyDict).get? s.heap.objs.size=some W.emptyDict:=Heap.get?_push_size s.heap rfl
 have e2:((s.heap.push W.emptyDict).push (W.instObj C s.heap.objs.size)).get? (s.heap.objs.size+1)=some (W.instObj C s.heap.objs.size):=by
  have:=Heap.get?_push_size (s.heap.push W.emptyDict) (o:=W.instObj C s.heap.objs.size) rfl
  rwa [Heap.size_push] at this
 have e3:(s.heap.push W.emptyDict).Ns s.heap.objs.size (fun _=>none):=⟨W.emptyDict,#[],_,e1,rfl,(fun e he=>absurd he (by simp)),fun _=>rfl⟩
 have I1:=I.laid (a:=s.heap.objs.size) (o:=.own (s.heap.objs.size+1)) (h':=s.heap.push W.emptyDict) (t':=s.toks) (fun b u q=>Heap.get?_push_of_some _ q) (Nat.le_refl _) ⟨_,e1⟩
 refine I1.laid (a:=s.heap.objs.size+1) (o:=.ins C s.heap.objs.size []) (t':=s.toks) (fun b u q=>Heap.get?_push_of_some _ q) (Nat.le_of_eq (Heap.size_push _ _)) ?_
 have ne:s.heap.objs.size≠s.heap.objs.size+1:=Nat.ne_of_lt (Nat.lt_succ_self _)
 refine⟨by rw[aG ne,au],Nat.zero_le _,ne,e2,fun _=>none,(Heap.Ns1.of_empty e3).at fun o q=>Heap.get?_push_of_some _ q,fun _=>True.intro,fun y hy=>absurd rfl hy⟩
theorem an7 {prog:Program} {w:World} {env:Env} {e:Expr} {f:Str} {pos:Pos} {s:Shared} {Q:Value→Shared→Prop} (hb:attributeBase e f env (eval e env)=eval e env)
  (h:wpAny (model prog w) A (eval e env) (fun o s₁ => wpAny (model prog w) A (getAttr o f true) Q E s₁) E s):wpAny (model prog w) A (eval (.Attribute e f pos) env) Q E s :=
 Attribute_any_ h (by rw[arm_eval_Attribute,hb])
end
def tFld (K:W.Frag) (ta:TE) (f:Str):TE:=fun σ H Q=>ta σ H fun x H1=>∃ a C dx fs v,x = .ref a∧H1 a=some (.ins C dx fs)∧Cls K C∧j7 K C f∧fs.lookup f=some v∧Q v H1
def sFld (K:W.Frag) (ta tv:TE) (f:Str):TS:=fun D σ H=>tv σ H fun y H1=>ta σ H1 fun x H2=>∃ a C dx fs,x = .ref a∧H2 a=some (.ins C dx fs)∧Cls K C∧j7 K C f∧fs.length < 1000 ∧
 D.nx σ (upd H2 a (.ins C dx (putF f y fs)))
section
variable {X:Cx} {o e value:Expr} {f:Str} {pos pos' tpos:Pos} {ta tv:TE}
theorem apf (he:PE X e ta) (hb:attributeBase e f X.env (eval e X.env)=eval e X.env):PE X (.Attribute e f pos) (tFld X.K ta f):=by
 intro pins s σ H Q I h
 refine an7 hb (thn (he pins s σ H _ I h) fun u s1 ⟨x,H1,I1,rx,a,C,dx,fs,v,ex,ea,c,n,l,q⟩=>?_)
 subst ex
 obtain rfl:u=Value.ref a:=rx
 exact ajl I1 ea c n l fun u' s2 I2 ru=>⟨v,H1,I2,ru,q⟩
theorem apg (ha:PE X o ta) (hv:PE X value tv) (hs:swapsWith value (some (.Attribute o f pos')) pos.line X.env=pure false):PS X (.Assign [.Attribute o f pos'] value pos) (sFld X.K ta tv f):=by
 intro pins s σ H D I h
 refine plainObj_wpAny_Assign_Attribute (thn (hv pins s σ H _ I h) fun u s1 ⟨y,H1,I1,ry,q⟩=>thn (ha pins s1 σ H1 _ I1 q) fun ov s2 ⟨x,H2,I2,rx,a,C,dx,fs,ex,ea,c,n,l,q2⟩=>?_) hs
 subst ex
 obtain rfl:ov=Value.ref a:=rx
 exact ajm I2 ea c n l ry fun s3 I3=>⟨σ,_,I3,q2⟩
end
section
variable {X:Cx} {pins:List (Addr×Obj)} {σ : St} {H:Hp} {s:Shared} {A:Around} {E:Value→Shared→Prop} {Q:Value→Shared→Prop} {c:Value} {b:Bool}
inductive TyOf (K:W.Frag) (H:Hp):V→Value→Prop where
 | non:TyOf K H .non (.type "NoneType")
 | bl (x:Bool):TyOf K H (.bl x) (.type "bool")
 | int (i:Int):TyOf K H (.int i) (.type "int")
 | str (x:Str):TyOf K H (.str x) (.type "str")
 | flt (x:UInt64):TyOf K H (.flt x) (.type "float")
 | lst {a:Addr} {xs:List V} (e:H a=some (.lst xs)):TyOf K H (.ref a) (.type "list")
 | frz {a:Addr} {o:Obj} {xs:List V} (e:H a=some (.frz o (.lst xs))):TyOf K H (.ref a) (.type "list")
 | tup {a:Addr} {xs:List V} (e:H a=some (.tup xs)):TyOf K H (.ref a) (.type "tuple")
 | dK {a:Addr} {kvs:List (Key×V)} (e:H a=some (.dK kvs)):TyOf K H (.ref a) (.type "dict")
 | dT {a:Addr} {kvs:List (List Key×V)} (e:H a=some (.dT kvs)):TyOf K H (.ref a) (.type "dict")
 | ins {a C dx:Addr} {fs:List (Str×V)} (e:H a=some (.ins C dx fs)) (cl:Cls K C) (ha:W.findIn K (.ref C) "__class__" = some (some (.builtin "object.__class__")))
   (hn:W.specialIn K (.builtin "object.__class__") "__get__" = some (some (.builtin "getset_descriptor.__get__"))) (htk:W.takesIn K (.builtin "object.__class__")=some true)
   (hm:W.mroIn K C (.type "object")=some true):TyOf K H (.ref a) (.ref C)
theorem adV {x:V} {u t:Value} (I:Inv X pins σ H s) (rx:RelV x u) (ty:TyOf X.K H x t) (e:W.kitOne X.K t c=some b) (h:∀ tk,Q (.bool b) { s with toks:=tk }) :
  wpAny (model X.prog X.w) A (call (.builtin "isinstance") [u,c]) Q E s:=by
 cases ty with
 | non=>cases (show u=Value.none from rx);exact W.kia_one W.kitx_none I.kIn True.intro e (fun z=>nomatch z) h
 | bl y=>cases (show u=Value.bool y from rx);exact W.kia_one W.kitx_bool I.kIn True.intro e (fun z=>nomatch z) h
 | int i=>obtain⟨t,q⟩:=(show ∃ t,u=Value.int i t from rx);cases q;exact W.kia_one W.kitx_int I.kIn True.intro e (fun z=>nomatch z) h
 | str y=>obtain⟨t,q⟩:=(show ∃ t,u=Value.str y t from rx);cases q;exact W.kia_one W.kitx_str I.kIn True.intro e (fun z=>nomatch z) h
 | flt y=>obtain⟨t,q⟩:=(show ∃ t,u=Value.float y t from rx);cases q;exact W.kia_one W.kitx_float I.kIn True.intro e (fun z=>nomatch z) h
 | @lst a xs ea =>
  cases (show u=Value.ref a from rx)
  obtain⟨_,_,n,_,h1⟩:=(show jl X.prog X.w H s.heap a (.lst xs) from I.hok a _ ea)
  exact W.kia_one W.kitx_list I.kIn ⟨_,h1,rfl⟩ e (fun z=>nomatch z) h
 | @frz a ob xs ea =>
  cases (show u=Value.ref a from rx)
  obtain⟨_,_,_,n,_,h1⟩:=(show jl X.prog X.w H s.heap a (.frz ob (.lst xs)) from I.hok a _ ea)
  exact W.kia_one W.kitx_list I.kIn ⟨_,h1,rfl⟩ e (fun z=>nomatch z) h
 | @tup a xs ea =>
  cases (show u=Value.ref a from rx)
  obtain⟨_,_,_,p⟩:=(show jl X.prog X.w H s.heap a (.tup xs) from I.hok a _ ea)
  obtain⟨o,h1,h2,_⟩:=p
  exact W.kia_one W.kitx_tuple I.kIn ⟨o,h1,h2⟩ e (fun z=>nomatch z) h
 | @dK a kvs ea =>
  cases (show u=Value.ref a from rx)
  obtain⟨_,_,vs,_,p⟩:=(show jl X.prog X.w H s.heap a (.dK kvs) from I.hok a _ ea)
  obtain⟨o,es,ep,h1,h2,_⟩:=p
  exact W.kia_one W.kitx_dict I.kIn ⟨o,h1,h2.1⟩ e (fun z=>nomatch z) h
 | @dT a kvs ea =>
  cases (show u=Value.ref a from rx)
  obtain⟨_,_,xs,_,o,es,ep,h1,h2,_⟩:=(show jl X.prog X.w H s.heap a (.dT kvs) from I.hok a _ ea)
  exact W.kia_one W.kitx_dict I.kIn ⟨o,h1,h2.1⟩ e (fun z=>nomatch z) h
 | @ins a C dx fs ea cl ha hn htk hm =>
  cases (show u=Value.ref a from rx)
  obtain⟨mA,O,_⟩:=Y6 I.hok ea
  obtain⟨od,J,_⟩:=O.look
  exact W.kia_one (W.kitx_own (cl.get _) cl.hd ha hn htk hm) I.kIn J e (fun z=>nomatch z) h
end
end L2
namespace L2
open PySem PySem.Spec PyProof.Rows
structure Room (k:Nat) (A:Around):Prop where
 hd:A.handled=none
 dp:A.depth+3 * k+5 < recursionLimit
 un:A.units+16 * k+200 < cLine
theorem Room.mono {j k:Nat} {A:Around} (r:Room k A) (h:j≤k):Room j A:=⟨r.hd,by have:=r.dp;omega,by have:=r.un;omega⟩
theorem Room.deeper {k:Nat} {A:Around} (r:Room (k+1) A) (env:Env):Room k (A.deeper env) :=
 ⟨r.hd,by have:=r.dp;show A.depth+1+3 * k+5 < _;omega,by have:=r.un;show A.units+3+16 * k+200 < _;omega⟩
theorem Room.in1 {k:Nat} {A:Around} (r:Room (k+1) A):Room k A.in1 :=
 ⟨r.hd,by have:=r.dp;show A.depth+3 * k+5 < _;omega,by have:=r.un;show A.units+1+16 * k+200 < _;omega⟩
theorem ajn {A:Around} {C:Addr} {us:List Value} {kw:List (Str×Value)}:(A.under (.builtin "type.__call__" ⟨.ref C::us,kw⟩)).depth=A.depth+1:=by
 first | rfl | simp [Around.under,Code.weight,Code.isCreation,Code.isGuard,Code.isCaller,Code.frames,Code.isFrame,guardIds]
theorem ajo {A:Around} {C:Addr} {us:List Value} {kw:List (Str×Value)}:(A.under (.builtin "type.__call__" ⟨.ref C::us,kw⟩)).units=A.units+1:=by
 first | rfl | simp [Around.under,Code.cUnits,Code.frames,Code.isFrame]
theorem Room.make {k:Nat} {A:Around} (r:Room (k+1) A) (C:Addr) (us:List Value) (kw:List (Str×Value)):Room k (A.under (.builtin "type.__call__" ⟨.ref C::us,kw⟩)) :=
 ⟨r.hd,by have:=r.dp;rw[ajn];omega,by have:=r.un;rw[ajo];omega⟩
theorem Room.depth {k:Nat} {A:Around} (r:Room k A):A.depth<recursionLimit:=by have:=r.dp;omega
theorem Room.units {k:Nat} {A:Around} (r:Room k A):A.units+64 < cLine:=by have:=r.un;omega
def tNil:TA:=fun _ H Q=>Q [] H
def apY (ta:TE) (tr:TA):TA:=fun σ H Q=>ta σ H fun x H1=>tr σ H1 fun xs H2=>Q (x::xs) H2
section
variable {X:Cx} {e:Expr} {es:List Expr} {te:TE} {t:TA} {pos:Pos}
theorem ao:PA X [] tNil:=fun _ _ _ _ H Q I h=>Calls.spliced_nil ⟨[],H,I,.nil,h⟩
theorem aj (ha:PE X e te) (hr:PA X es t) (hs:starEach (e::es) X.env=(false,eval e X.env)::starEach es X.env:=by rfl):PA X (e::es) (apY te t):=by
 intro pos pins s σ H Q I h
 rw[hs]
 show wpAny _ _ (spliced ((false,eval e X.env)::backTo pos (starEach es X.env))) _ _ s
 refine Calls.spliced_cons (thn (ha pins s σ H _ I h) fun u s1 ⟨x,H1,I1,r1,q1⟩=>?_)
 exact thn (hr pos pins s1 σ H1 _ I1 q1) fun us s2 ⟨xs,H2,I2,r2,q2⟩=>⟨x::xs,H2,I2,.cons r1 r2,q2⟩
def tTup (t:TA):TE:=fun σ H Q=>t σ H fun xs H1=>xs.length≤sizeLine∧∀ p,H1 p=none→Q (.ref p) (upd H1 p (.tup xs))
def tLst (t:TA):TE:=fun σ H Q=>t σ H fun xs H1=>xs.length≤sizeLine∧∀ p,H1 p=none→Q (.ref p) (upd H1 p (.lst xs))
theorem Ab {x1} (h:PA X es t):PE X (.Tuple es x1 pos) (tTup t):=by
 intro pins s σ H Q I hq
 refine wpAny_Tuple_spliced (thn (h pos pins s σ H _ I hq) fun us s1 ⟨xs,H1,I1,r,z,q⟩=>⟨by rw[← r.length];exact z,?_⟩)
 have hf:H1 s1.heap.objs.size=none:=I1.hok.fresh (Nat.le_refl _)
 refine⟨.ref s1.heap.objs.size,upd H1 s1.heap.objs.size (.tup xs),I1.laid (t':=s1.toks) (fun b u e=>Heap.get?_push_of_some _ e) (Nat.le_refl _) ?_,rfl,q _ hf⟩
 exact⟨z,us,r,⟨_,Heap.get?_push_size _ rfl,rfl,_,rfl⟩⟩
theorem cD (h:PA X es t):PE X (.List es pos) (tLst t):=by
 intro pins s σ H Q I hq
 refine wpAny_List_spliced (thn (h pos pins s σ H _ I hq) fun us s1 ⟨xs,H1,I1,r,z,q⟩=>⟨by rw[← r.length];exact z,?_⟩)
 have hf:H1 s1.heap.objs.size=none:=I1.hok.fresh (Nat.le_refl _)
 refine⟨.ref s1.heap.objs.size,upd H1 s1.heap.objs.size (.lst xs),I1.laid (t':=s1.toks) (fun b u e=>Heap.get?_push_of_some _ e) (Nat.le_refl _) ?_,rfl,q _ hf⟩
 exact⟨z,us,0,r,Heap.get?_push_size _ rfl⟩
end
abbrev Sp:=List V→Hp→VK→XK→Prop
abbrev CXT:=List Env→Hp→Shared→XK→Value→Shared→Prop
structure Env0 (P:Program) (w:World) (K:W.Frag) (mg:Str→Option Value) (base:Heap) (A:Around) (outer:List Env) (s:Shared) (H:Hp):Prop where
 frames:A.frames=some outer
 mod:Mod K mg base
 bs:∀ b o,base.get? b=some o→s.heap.get? b=some o∧H b=none
 bsz:base.objs.size≤s.heap.objs.size
 funs:s.heap.FunFrames base outer
 frf:∀ b∈frs outer,H b=none
 hok:HOk P w H s.heap
 bare:AllBare s.gens
def CE (outer:List Env) (P:Program) (w:World) (H:Hp) (s:Shared) (Q:VK) (u:Value) (s':Shared):Prop :=
 ∃ v H',s'.os=s.os∧AllBare s'.gens∧Un (frs outer) [] H H' s.heap s'.heap∧HOk P w H' s'.heap∧RelV v u∧Q v H'
def CR (CX:CXT) (outer:List Env) (P:Program) (w:World) (H:Hp) (s:Shared) (Q:VK) (E:XK) (r:Result) (s':Shared):Prop :=
 match r with
 | .ok (.ret u)=>CE outer P w H s Q u s'
 | .ok _=>False
 | .error e=>CX outer H s E e s'
structure FnOk (P:Program) (w:World) (K:W.Frag) (mg:Str→Option Value) (base:Heap) (CX:CXT) (k:Nat) (f:Addr) (fd:FuncData) (ps:List Str) (sp:Sp):Prop where
 len:∀ vs H Q E,sp vs H Q E→vs.length=ps.length
 run:∀ (A:Around) (outer:List Env) (s:Shared) (H:Hp) (args:Args) (us:List Value) (vs:List V) (Q:VK) (E:XK),Room k A→Env0 P w K mg base A outer s H→BindsTo s fd args (ps.zip us)→Vals vs us→sp vs H Q E →
  codeAny (model P w) A (.call (.ref f) args) (CR CX outer P w H s Q E) s
theorem FnOk.mono {P:Program} {w:World} {K:W.Frag} {mg:Str→Option Value} {base:Heap} {CX:CXT} {j k:Nat} {f:Addr} {fd:FuncData} {ps:List Str} {sp:Sp} (F:FnOk P w K mg base CX j f fd ps sp) (h:j≤k) :
  FnOk P w K mg base CX k f fd ps sp:=⟨F.len,fun A outer s H args us vs Q E hr=>F.run A outer s H args us vs Q E (hr.mono h)⟩
theorem Env0.make {P:Program} {w:World} {K:W.Frag} {mg:Str→Option Value} {base:Heap} {A:Around} {outer:List Env} {s:Shared} {H:Hp} (e:Env0 P w K mg base A outer s H) (C:Addr) (us:List Value) (kw:List (Str×Value)) :
  Env0 P w K mg base (A.under (.builtin "type.__call__" ⟨.ref C::us,kw⟩)) outer s H:=⟨by first | exact e.frames | (simpa [Around.under,Code.envs,Code.isFrame,pushEnvs] using e.frames),e.mod,e.bs,e.bsz,e.funs,e.frf,e.hok,e.bare⟩
theorem Env0.in1 {P:Program} {w:World} {K:W.Frag} {mg:Str→Option Value} {base:Heap} {A:Around} {outer:List Env} {s:Shared} {H:Hp} (e:Env0 P w K mg base A outer s H) :
  Env0 P w K mg base A.in1 outer s H:=⟨e.frames,e.mod,e.bs,e.bsz,e.funs,e.frf,e.hok,e.bare⟩
section
variable {X:Cx} {pins:List (Addr×Obj)} {σ : St} {H:Hp} {s s':Shared}
theorem Inv.env0 (I:Inv X pins σ H s):Env0 X.prog X.w X.K X.mg X.base X.A X.stack s H :=
 ⟨I.ok.frames,I.ok.mod,I.bs,Nat.le_trans I.ok.bsz I.sz,I.stack,I.akE,I.hok,I.bare⟩
theorem Inv.after {Q:VK} {u:Value} (I:Inv X pins σ H s) (h:CE X.stack X.prog X.w H s Q u s'):EP X pins σ Q u s':=by
 obtain⟨v,H',os,bare,un,hok,r,q⟩:=h
 obtain⟨hh,g,d,t,os'⟩:=s'
 obtain rfl:os' = s.os:=os
 exact⟨v,H',I.call (h':=hh) (g':=g) (d':=d) (t':=t) (ch:=[]) un hok bare (fun b z=>absurd z (by simp)),r,q⟩
end
def apZ (sp:Sp) (dvs:List V) (E:XK) (t:TA):TE:=fun σ H Q=>t σ H fun vs H1=>sp (vs++dvs) H1 Q E
def aoO (C:Addr) (m:Str) (sp:Sp) (dvs:List V) (E:XK) (ta:TE) (t:TA):TE:=fun σ H Q=>ta σ H fun x H1=>∃ a dx fs,x = .ref a∧H1 a=some (.ins C dx fs)∧fs.lookup m=none ∧
 t σ H1 fun vs H2=>sp (x::(vs++dvs)) H2 Q E
def ap0 (C:Addr) (sp:Sp) (dvs:List V) (E:XK) (t:TA):TE:=fun σ H Q=>t σ H fun vs H1=>∀ x dx,H1 x=none→H1 dx=none→dx≠x →
 sp (.ref x::(vs++dvs)) (upd (upd H1 dx (.own x)) x (.ins C dx [])) (fun v H2=>v = .non∧Q (.ref x) H2) E
def Binds (K:W.Frag) (fd:FuncData) (ps:List Str) (ds:List Value):Prop :=
 ∀ (s:Shared) (us:List Value),K.In s.heap→(us++ds).length=ps.length→BindsTo s fd ⟨us,[]⟩ (ps.zip (us++ds))
theorem Binds.all {K:W.Frag} {fd:FuncData} {ps:List Str} (h:∀ us:List Value,us.length=ps.length→bindArgs fd ⟨us,[]⟩ = pure (ps.zip us)):Binds K fd ps []:=fun s us _ hl=>by
 rw[List.append_nil] at hl ⊢
 exact .of_eq (h us hl)
def Passes (CX:CXT) (X:Cx) (E:XK):Prop:=∀ (pins:List (Addr×Obj)) (σ : St) (H:Hp) (s:Shared) (e:Value) (s':Shared),Inv X pins σ H s→CX X.stack H s E e s'→X.xe e s'
section
variable {X:Cx} {CX:CXT} {k:Nat} {f C:Addr} {fd:FuncData} {ps:List Str} {sp:Sp} {dvs:List V} {ds:List Value} {E:XK} {x m:Str} {p pos apos:Pos} {e o:Expr} {es:List Expr} {ta:TE} {t:TA}
theorem ajp {pins:List (Addr×Obj)} {σ : St} {H:Hp} {s:Shared} {Q:VK} {us:List Value} {vs:List V} (F:FnOk X.prog X.w X.K X.mg X.base CX k f fd ps sp) (hr:Room k X.A) (hb:Binds X.K fd ps ds) (hd:Vals dvs ds) (hx:Passes CX X E)
  (I:Inv X pins σ H s) (r:Vals vs us) (h:sp (vs++dvs) H Q E):wpAny (model X.prog X.w) X.A (call (.ref f) us) (EP X pins σ Q) X.xe s:=by
 have r2:Vals (vs++dvs) (us++ds):=r.append hd
 have hl:(us++ds).length=ps.length:=by rw[← r2.length];exact F.len _ _ _ _ h
 refine wpAny_call (codeAny_mono (F.run X.A X.stack s H ⟨us,[]⟩ (us++ds) (vs++dvs) Q E hr I.env0 (hb s us I.kIn hl) r2 h) fun r s' hq=>?_)
 cases r with
 | error e=>exact hx pins σ H s e s' I hq
 | ok fl =>
  cases fl with
  | ret u=>exact I.after hq
  | next=>exact False.elim hq
  | brk=>exact False.elim hq
  | cont=>exact False.elim hq
theorem aC (F:FnOk X.prog X.w X.K X.mg X.base CX k f fd ps sp) (hr:Room k X.A) (hg:Gl X x) (hm:X.mg x=some (.ref f)) (hk:W.keepIn X.K (.ref f)=true) (hb:Binds X.K fd ps ds) (hd:Vals dvs ds) (hx:Passes CX X E)
  (ha:PA X (e::es) t) (hdb:(x == ("__debug__" : Str))=false:=by decide) (he:starEach (e::es) X.env=(false,eval e X.env)::starEach es X.env:=by rfl) (hpl:(backTo pos (starEach es X.env)).any (·.1)=false:=by rfl) :
  PE X (.Call (.Name x p) (e::es) [] pos) (apZ sp dvs E t):=by
 intro pins s σ H Q I h
 refine wpAny_Call_Name_kw (aeQ I hg hm ?_ hdb)
 refine W.callWith_K (h₀:=X.base) I.ok.mod.kin hk (thn (ha pos pins s σ H _ I h) fun us s1 ⟨vs,H1,I1,r,q⟩=>⟨I1.kIn,?_⟩) he hpl
 exact ajp F hr hb hd hx I1 r q
theorem nU {pl:Sem Bool} (he:PE X o ta) (c:Cls X.K C) (hm:Meth X.K C m f) (F:FnOk X.prog X.w X.K X.mg X.base CX k f fd ps sp) (hr:Room k X.A) (hb:Binds X.K fd ps ds) (hd:Vals dvs ds) (hx:Passes CX X E) (ha:PA X (e::es) t)
  (hst:starEach (e::es) X.env=(false,eval e X.env)::starEach es X.env:=by rfl) (hpl:(backTo pos (starEach es X.env)).any (·.1)=false:=by rfl)
  (ht:eval (.Call (.Attribute o m apos) (e::es) [] pos) X.env=(do
   let ov ← eval o X.env
   standAt apos.atName
   let (f,first) ← holding [ov] (getMethod ov m pl)
   callWith pos f first (backTo pos (starEach (e::es) X.env)) (backToKw pos (keywordEach [] X.env))):=by rfl) :
  PE X (.Call (.Attribute o m apos) (e::es) [] pos) (aoO C m sp dvs E ta t):=by
 intro pins s σ H Q I h
 refine W.methodCall_KW (pl:=pl) (thn (he pins s σ H _ I h) fun u s1 ⟨x,H1,I1,rx,a,dx,fs,ex,ea,l,q⟩=>?_) ht
 subst ex
 obtain rfl:u=Value.ref a:=rx
 refine Zt I1 ea c hm l ?_
 refine W.callWith_K (first:=[.ref a]) (h₀:=X.base) I.ok.mod.kin hm.kp (thn (ha pos pins s1 σ H1 _ I1 q) fun us s2 ⟨vs,H2,I2,r,q2⟩=>⟨I2.kIn,?_⟩) hst hpl
 exact ajp (us:=.ref a::us) (vs:=.ref a::vs) F hr hb hd hx I2 (.cons rfl r) q2
theorem eG {pl:Sem Bool} (he:PE X o ta) (c:Cls X.K C) (hm:Meth X.K C m f) (F:FnOk X.prog X.w X.K X.mg X.base CX k f fd ps sp) (hr:Room k X.A) (hb:Binds X.K fd ps ds) (hd:Vals dvs ds) (hx:Passes CX X E)
  (ht:eval (.Call (.Attribute o m apos) [] [] pos) X.env=(do
   let ov ← eval o X.env
   standAt apos.atName
   let (f,first) ← holding [ov] (getMethod ov m pl)
   callWith pos f first (backTo pos (starEach [] X.env)) (backToKw pos (keywordEach [] X.env))):=by rfl) :
  PE X (.Call (.Attribute o m apos) [] [] pos) (aoO C m sp dvs E ta tNil):=by
 intro pins s σ H Q I h
 refine W.methodCall_KW (pl:=pl) (thn (he pins s σ H _ I h) fun u s1 ⟨x,H1,I1,rx,a,dx,fs,ex,ea,l,q⟩=>?_) ht
 subst ex
 obtain rfl:u=Value.ref a:=rx
 refine Zt I1 ea c hm l ?_
 exact W.callWith_K0 (first:=[.ref a]) I1.kIn hm.kp (ajp (us:=[.ref a]) (vs:=[.ref a]) F hr hb hd hx I1 (.cons rfl .nil) q)
structure Mk (K:W.Frag) (C f:Addr):Prop where
 makes:W.makesIn K C=true
 init:W.findIn K (.ref C) "__init__" = some (some (.ref f))
 fn:W.isFn K (.ref f)=true
 kp:W.keepIn K (.ref C)=true
theorem amR {pins:List (Addr×Obj)} {σ : St} {H:Hp} {s:Shared} {Q:VK} {us:List Value} {vs:List V} (M:Mk X.K C f) (F:FnOk X.prog X.w X.K X.mg X.base CX k f fd ps sp) (hr:Room (k+1) X.A) (hb:Binds X.K fd ps ds) (hd:Vals dvs ds)
  (hx:Passes CX X E) (I:Inv X pins σ H s) (r:Vals vs us)
  (h:∀ x dx,H x=none→H dx=none→dx≠x→sp (.ref x::(vs++dvs)) (upd (upd H dx (.own x)) x (.ins C dx [])) (fun v H2=>v = .non∧Q (.ref x) H2) E) :
  wpAny (model X.prog X.w) X.A (call (.ref C) us) (EP X pins σ Q) X.xe s:=by
 have hq:=h (s.heap.objs.size+1) s.heap.objs.size (I.hok.fresh (Nat.le_succ _)) (I.hok.fresh (Nat.le_refl _)) (Nat.ne_of_lt (Nat.lt_succ_self _))
 have I2:=Inv.made (C:=C) I
 have r2:Vals (V.ref (s.heap.objs.size+1)::(vs++dvs)) (Value.ref (s.heap.objs.size+1)::(us++ds)):=.cons rfl (r.append hd)
 have hl:(Value.ref (s.heap.objs.size+1)::us++ds).length=ps.length:=by
  have e:=r2.length
  rw[F.len _ _ _ _ hq] at e
  exact e.symm
 refine wpAny_call (amQ (f:=f) I.kIn M.makes M.init (beq_iff_eq.mp M.fn) (codeAny_mono (F.run _ X.stack _ _ ⟨Value.ref (s.heap.objs.size+1)::us,[]⟩ (Value.ref (s.heap.objs.size+1)::(us++ds)) _ _ E (hr.make C us [])
  (I2.env0.make C us []) (hb _ (Value.ref (s.heap.objs.size+1)::us) I2.kIn hl) r2 hq) fun r s' hq'=>?_))
 cases r with
 | error e=>exact hx pins σ _ _ e s' I2 hq'
 | ok fl =>
  cases fl with
  | ret u =>
   obtain⟨v,H',I3,rv,ev,q3⟩:=I2.after hq'
   subst ev
   exact⟨rv,⟨V.ref (s.heap.objs.size+1),H',I3,rfl,q3⟩⟩
  | next=>exact False.elim hq'
  | brk=>exact False.elim hq'
  | cont=>exact False.elim hq'
theorem pN (M:Mk X.K C f) (F:FnOk X.prog X.w X.K X.mg X.base CX k f fd ps sp) (hr:Room (k+1) X.A) (hg:Gl X x) (hm:X.mg x=some (.ref C)) (hb:Binds X.K fd ps ds) (hd:Vals dvs ds) (hx:Passes CX X E)
  (ha:PA X (e::es) t) (hdb:(x == ("__debug__" : Str))=false:=by decide) (he:starEach (e::es) X.env=(false,eval e X.env)::starEach es X.env:=by rfl) (hpl:(backTo pos (starEach es X.env)).any (·.1)=false:=by rfl) :
  PE X (.Call (.Name x p) (e::es) [] pos) (ap0 C sp dvs E t):=by
 intro pins s σ H Q I h
 refine wpAny_Call_Name_kw (aeQ I hg hm ?_ hdb)
 refine W.callWith_K (h₀:=X.base) I.ok.mod.kin M.kp (thn (ha pos pins s σ H _ I h) fun us s1 ⟨vs,H1,I1,r,q⟩=>⟨I1.kIn,?_⟩) he hpl
 exact amR M F hr hb hd hx I1 r q
end
section
variable {X:Cx} {CX:CXT} {k:Nat} {f C:Addr} {fd:FuncData} {ps ks:List Str} {sp:Sp} {E:XK} {x m:Str} {p pos apos kpos:Pos} {e o:Expr} {es:List Expr} {kws:List Keyword} {te ta:TE} {t tk:TA} {nm:Option Str}
variable {g:List Value→List Value→List Value} {gV:List V→List V→List V}
end
structure aX (N P:List Str) (sc:Scope):Prop where
 kind:sc.kind = .function
 co:sc.isCoroutine=false
 gen:sc.isGenerator=false
 nd:N.Nodup
 pre:N.take P.length=P
 par:∀ x∈P,sc.names.lookup x=some .local∨sc.names.lookup x=some .cell
 aph:∀ y∈sc.names,y.2 ≠ .free
theorem adW {kindOf:Str→Option NameKind} {x:Str}:∀ {binds:List (Str×Value)} {m:Str→Option Value},(∀ v,(x,v)∉binds)→bindL kindOf binds m x=m x
 | [],_,_=>rfl
 | (n,v)::r,m,h=>by
  unfold bindL
  rw[adW fun w hw=>h w (List.mem_cons_of_mem _ hw)]
  split
  ·have:x≠n:=by rintro rfl;exact h v List.mem_cons_self
   simp [this]
  ·rfl
theorem adX {kindOf:Str→Option NameKind} {x:Str}:∀ {binds:List (Str×Value)} {m:Str→Option Value},(∀ v,(x,v)∉binds)→bindC kindOf binds m x=m x
 | [],_,_=>rfl
 | (n,v)::r,m,h=>by
  unfold bindC
  rw[adX fun w hw=>h w (List.mem_cons_of_mem _ hw)]
  split
  ·rfl
  ·have:x≠n:=by rintro rfl;exact h v List.mem_cons_self
   simp [this]
theorem adY {kindOf:Str→Option NameKind} {x:Str} {v:Value}:∀ {P:List Str} {vs:List Value} {i:Nat} {m:Str→Option Value},P.Nodup→P[i]? = some x→vs[i]? = some v→kindOf x=some .local →
  bindL kindOf (P.zip vs) m x=some v
 | [],_,_,_,_,h,_,_=>by simp at h
 | _::_,[],_,_,_,_,h,_=>by simp at h
 | p::P,w::vs,0,m,nd,h1,h2,hk=>by
  simp at h1 h2;subst h1;subst h2
  show bindL kindOf ((p,w)::P.zip vs) m p=_
  unfold bindL
  rw[adW fun v hv=>(List.nodup_cons.mp nd).1 (List.of_mem_zip hv).1,if_pos hk]
  simp
 | p::P,w::vs,i+1,m,nd,h1,h2,hk=>by
  show bindL kindOf ((p,w)::P.zip vs) m x=_
  unfold bindL
  exact adY (i:=i) (List.nodup_cons.mp nd).2 (by simpa using h1) (by simpa using h2) hk
theorem adZ {kindOf:Str→Option NameKind} {x:Str} {v:Value}:∀ {P:List Str} {vs:List Value} {i:Nat} {m:Str→Option Value},P.Nodup→P[i]? = some x→vs[i]? = some v→kindOf x≠some .local →
  bindC kindOf (P.zip vs) m x=some v
 | [],_,_,_,_,h,_,_=>by simp at h
 | _::_,[],_,_,_,_,h,_=>by simp at h
 | p::P,w::vs,0,m,nd,h1,h2,hk=>by
  simp at h1 h2;subst h1;subst h2
  show bindC kindOf ((p,w)::P.zip vs) m p=_
  unfold bindC
  rw[adX fun v hv=>(List.nodup_cons.mp nd).1 (List.of_mem_zip hv).1,if_neg hk]
  simp
 | p::P,w::vs,i+1,m,nd,h1,h2,hk=>by
  show bindC kindOf ((p,w)::P.zip vs) m x=_
  unfold bindC
  exact adZ (i:=i) (List.nodup_cons.mp nd).2 (by simpa using h1) (by simpa using h2) hk
def start (N:List Str) (vs:List V):St:=vs.map some++List.replicate (N.length - vs.length) none
def cxOf (CX:CXT) (P:Program) (w:World) (K:W.Frag) (mg:Str→Option Value) (base:Heap) (N:List Str) (qual:Str) (scope:Scope) (f:Addr) (cd:Value) (A:Around) (outer:List Env) (s:Shared) (H:Hp) (E:XK):Cx where
 prog:=P
 w:=w
 K:=K
 mg:=mg
 base:=base
 A:=A.deeper (envOfC qual scope s.heap.objs.size f cd)
 N:=N
 s₀:=s
 H₀:=H
 env:=envOfC qual scope s.heap.objs.size f cd
 outer:=outer
 stack:=envOfC qual scope s.heap.objs.size f cd::outer
 ex:=[]
 calm:=true
 fn:=fun _=>true
 pn:=[]
 xe:=fun e s'=>wpAny (model P w) (A.deeper (envOfC qual scope s.heap.objs.size f cd)) (leaving (envOfC qual scope s.heap.objs.size f cd) e) (fun _ s''=>CX outer H s E e s'') (fun e' s''=>CX outer H s E e' s'') s'
theorem ahm {sc:Scope} {n:Nat} {x:Str} (h:sc.names.lookup x=some .cell):∃ c,(cellsFrom n sc.names []).lookup x=some c:=by
 have q:=W.cellsFrom_some sc.names n [] (.inl h)
 exact Option.isSome_iff_exists.mp q
theorem alB {CX:CXT} {P:Program} {w:World} {K:W.Frag} {mg:Str→Option Value} {base:Heap} {N ps:List Str} {qual:Str} {scope:Scope} {f:Addr} {cd:Value} {A:Around} {outer:List Env} {s s1:Shared} {H:Hp} {E:XK} {us:List Value} {vs:List V}
  (S:aX N ps scope) (hd:A.handled=none) (e0:Env0 P w K mg base A outer s H) (hl:vs.length=ps.length) (r:Vals vs us)
  (x:InCallC s s.heap.objs.size (bindL (envOfC qual scope s.heap.objs.size f cd).kindOf (ps.zip us) fun _=>none) (cellsFrom (s.heap.objs.size+1) scope.names []) (bindC (envOfC qual scope s.heap.objs.size f cd).kindOf (ps.zip us) fun _=>none) s1) :
  Inv (cxOf CX P w K mg base N qual scope f cd A outer s H E) [] (start N vs) H s1:=by
 have hpl:ps.length≤N.length:=by have:=congrArg List.length S.pre;rw[List.length_take] at this;omega
 obtain⟨h1,tk,rfl,hk⟩:=x.done
 have noA:∀ b:Addr,b∉(cxOf CX P w K mg base N qual scope f cd A outer s H E).ex:=fun b z=>absurd (show b∈([]:List Addr) from z) (by simp)
 refine⟨⟨e0.mod,S.kind,rfl,rfl,Nat.le_refl _,fun y z c h1 h2=>?_,fun y hy=>?_,fun y c _ h=>?_,fun _=>hd,Around.frames_deeper e0.frames,.inr ⟨rfl,rfl⟩,fun b z=>absurd z (noA b),e0.bs,e0.bsz,fun b _ _=>noA b,fun b z=>absurd z (noA b),e0.funs,e0.frf⟩,
  rfl,e0.bare,Un.kept hk,⟨_,x.toInCall.ns,fun i y v h1 h2 h3=>?_⟩,fun y c h=>⟨_,x.cell y c h⟩,e0.hok.fresh (Nat.le_refl _),fun y c h=>?_,fun p hp=>absurd (show p∈([]:List (Addr×Obj)) from hp) (by simp),e0.hok.kept hk,?_⟩
 ·exact name_of_addr x.apart (PySem.mem_of_lookup h1) (PySem.mem_of_lookup h2)
 ·have hy:scope.names.lookup y=some .cell∨scope.names.lookup y=some .free:=hy
  rcases hy with hy | hy
  ·exact ahm hy
  ·exact absurd rfl (S.aph _ (PySem.mem_of_lookup hy))
 ·exact Nat.le_of_lt (x.above y c (PySem.mem_of_lookup h))
 ·have hi:i<vs.length:=by
   unfold start at h2
   by_cases hi:i<vs.length
   ·exact hi
   ·rw[List.getElem?_append_right (by simpa using hi)] at h2
    rw[List.getElem?_replicate] at h2
    split at h2 <;> cases h2
  have ha:vs[i]? = some v:=by
   unfold start at h2
   rw[List.getElem?_append_left (by simpa using hi),List.getElem?_map] at h2
   cases e:vs[i]? with
   | none=>rw[e] at h2;cases h2
   | some a=>rw[e] at h2;cases h2;rfl
  obtain⟨u,hu,rv⟩:=r.get ha
  have hp:ps[i]? = some y:=by
   rw[← S.pre,List.getElem?_take_of_lt (by omega)];exact h1
  have ndP:ps.Nodup:=by rw[← S.pre];exact S.nd.sublist (List.take_sublist _ _)
  refine⟨u,rv,?_⟩
  rcases S.par y (List.mem_of_getElem? hp) with k | k
  ·exact .inl ⟨k,adY ndP hp hu k⟩
  ·obtain⟨c,e⟩:=ahm (n:=s.heap.objs.size+1) k
   refine .inr ⟨.inl k,c,e,?_⟩
   have q:=x.cell y c e
   rw[adZ ndP hp hu (by show scope.names.lookup y≠_;rw[k];decide)] at q
   exact q
 ·exact e0.hok.fresh (Nat.le_of_lt (x.above y c (PySem.mem_of_lookup h)))
 ·unfold start
  show _=N.length
  rw[List.length_append,List.length_map,List.length_replicate]
  omega
theorem ap1 {CX:CXT} {P:Program} {w:World} {K:W.Frag} {mg:Str→Option Value} {base:Heap} {k:Nat} {f:Addr} {name qual:Str} {params:Arguments} {body:List Stmt} {scope:Scope} {dV kV doc pm cdv ct oc:Value} {an od:Option Addr}
  {osl:Array (Option Value)} {N ps:List Str} {sp:Sp} (lk:K.lookup f=some ⟨oc,od,.func (W.fnOf name qual params body scope dV kV doc pm an cdv ct),osl⟩) (hcd:W.codeIn K cdv qual=true) (S:aX N ps scope)
  (len:∀ vs H Q E,sp vs H Q E→vs.length=ps.length)
  (hbody:∀ (A:Around) (outer:List Env) (s:Shared) (H:Hp) (vs:List V) (Q:VK) (E:XK),Room k (A.deeper (envOfC qual scope s.heap.objs.size f cdv))→sp vs H Q E →
   ∃ t,PSs (cxOf CX P w K mg base N qual scope f cdv A outer s H E) body t∧t { nx:=fun _ H'=>Q .non H',rt:=Q } (start N vs) H) :
  FnOk P w K mg base CX (k+1) f (W.fnOf name qual params body scope dV kV doc pm an cdv ct) ps sp:=by
 refine⟨len,fun A outer s H args us vs Q E hr e0 hb r hsp=>?_⟩
 have hl:=len _ _ _ _ hsp
 have KX:K.In s.heap:=e0.mod.kin.keeps fun b o e=>(e0.bs b o e).1
 have lim:s.heap.NoLimit:=e0.mod.nolimit.keeps fun b o e=>(e0.bs b o e).1
 have hkind:∀ y∈ps.zip us,scope.names.lookup y.1=some .local∨(scope.names.lookup y.1=some .cell∧((cellsFrom (s.heap.objs.size+1) scope.names []).lookup y.1).isSome=true):=fun ⟨n,v⟩ hy=>by
  rcases S.par n (List.of_mem_zip hy).1 with q | q
  ·exact .inl q
  ·exact .inr ⟨q,W.cellsFrom_some _ _ _ (.inl q)⟩
 refine codeAny_call_function hr.depth (KX _ _ lk) rfl S.co S.gen rfl (W.codeRec_of KX hcd) (hb _ _ _ _ ?_)
 refine wpAny_newFunctionEnv_cells S.kind hkind fun env he s1 x=>?_
 subst he
 refine⟨lim.keeps x.toInCall.keep,codeAny_func ?_⟩
 obtain⟨t,ht,hq⟩:=hbody A outer s H vs Q E (hr.deeper _) hsp
 have I:Inv (cxOf CX P w K mg base N qual scope f cdv A outer s H E) [] (start N vs) H s1:=alB S hr.hd e0 hl r x
 refine wpAny_mono (ht [] s1 (start N vs) H _ I hq) (fun fl s' hs=>?_) fun e s' hs=>hs
 have fin:∀ {σ':St} {H':Hp} {v:V} {u:Value},Inv (cxOf CX P w K mg base N qual scope f cdv A outer s H E) [] σ' H' s'→RelV v u→Q v H'→CE outer P w H s Q u s' :=
  fun {σ' H' v u} J rv q=>⟨v,H',J.os,J.bare,J.base,J.hok,rv,q⟩
 cases fl with
 | ret u =>
  obtain⟨v,σ',H',J,rv,q⟩:=hs
  exact fin J rv q
 | next =>
  obtain⟨σ',H',J,q⟩:=hs
  exact fin (v:=V.non) (u:=Value.none) J rfl q
 | brk =>
  obtain⟨_,_,_,q⟩:=hs
  exact False.elim q
 | cont =>
  obtain⟨_,_,_,q⟩:=hs
  exact False.elim q
end L2
namespace L2
open PySem PySem.Spec PyProof.Rows
section
variable {X:Cx} {x:Str} {p pos:Pos} {e:Expr} {es:List Expr} {t:TA} {id T:String} {r:List V→Hp→VK→Prop}
def tCB (r:List V→Hp→VK→Prop) (t:TA):TE:=fun σ H Q=>t σ H fun vs H1=>r vs H1 Q
theorem aW (hc:mK X (.builtin id) r) (hg:Gl X x) (hm:X.mg x=none) (hv:bootBuiltins x=some (.builtin id)) (ha:PA X (e::es) t) (hn:x ≠ "__name__" := by decide) (hdb:(x == ("__debug__" : Str))=false:=by decide)
  (he:starEach (e::es) X.env=(false,eval e X.env)::starEach es X.env:=by rfl) (hpl:(backTo pos (starEach es X.env)).any (·.1)=false:=by rfl):PE X (.Call (.Name x p) (e::es) [] pos) (tCB r t):=by
 intro pins s σ H Q I h
 refine wpAny_Call_Name_kw (Pg I hg hm hv ?_ hn hdb)
 exact PyProof.Rows.callWith_builtin1 (thn (ha pos pins s σ H _ I h) fun us s1 ⟨vs,H1,I1,r1,q1⟩=>hc pins s1 σ H1 vs us Q I1 r1 q1) he hpl
theorem cC (hc:mK X (.type T) r) (hg:Gl X x) (hm:X.mg x=none) (hv:bootBuiltins x=some (.type T)) (ha:PA X (e::es) t) (hn:x ≠ "__name__" := by decide) (hdb:(x == ("__debug__" : Str))=false:=by decide)
  (he:starEach (e::es) X.env=(false,eval e X.env)::starEach es X.env:=by rfl) (hpl:(backTo pos (starEach es X.env)).any (·.1)=false:=by rfl):PE X (.Call (.Name x p) (e::es) [] pos) (tCB r t):=by
 intro pins s σ H Q I h
 refine wpAny_Call_Name_kw (Pg I hg hm hv ?_ hn hdb)
 exact PyProof.Rows.callWith_type1 (thn (ha pos pins s σ H _ I h) fun us s1 ⟨vs,H1,I1,r1,q1⟩=>hc pins s1 σ H1 vs us Q I1 r1 q1) he hpl
end
end L2
namespace HT
open PySem PyProof.Rows
section
open PySem.SeqAt
open PySem.AutoSeq1 (wpAny_loadPart')
open PySem.MeetsSeq PySem.MeetsSeq2 PySem.MeetsSeq3
end
section
variable {prog:Program} {w:World} {A:Around} {E:Value→Shared→Prop} {s:Shared}
def sIx (n d:Nat):Option Int→Nat
 | none=>d
 | some v=>if v < 0 then (v+(n:Int)).toNat else min v.toNat n
end
end HT
namespace L2
open PySem PySem.Spec PyProof.Rows
abbrev TO:=St→Hp→(Option Int→Hp→Prop)→Prop
def PO (X:Cx) (e:Option Expr) (t:TO):Prop :=
 ∀ (pins:List (Addr×Obj)) (s:Shared) (σ : St) (H:Hp) (Q:Option Int→Hp→Prop),Inv X pins σ H s→t σ H Q →
  wpAny (model X.prog X.w) X.A (evalPart e X.env) (fun u s'=>∃ o H',Inv X pins σ H' s'∧IsPart u o∧Q o H') X.xe s
def an8:TO:=fun _ H Q=>Q none H
def ap2 (t:TE):TO:=fun σ H Q=>t σ H fun x H1=>∃ i,x = .int i∧Q (some i) H1
section
variable {X:Cx} {e:Expr} {te:TE} {lo hi:Option Expr} {tl th:TO} {pos p2:Pos}
theorem sZ:PO X none an8:=by
 intro pins s σ H Q I h
 rw[evalPart_none]
 exact wpAny_pure ⟨none,H,I,.none,h⟩
theorem an9 (h:PE X e te):PO X (some e) (ap2 te):=by
 intro pins s σ H Q I hw
 rw[evalPart_some]
 refine thn (h pins s σ H _ I hw) fun u s1 ⟨x,H1,I1,r1,q1⟩=>?_
 obtain⟨i,rfl,q⟩:=q1
 obtain⟨t,rfl⟩:=r1
 exact⟨some i,H1,I1,.int i t,q⟩
def SlR (X:Cx) (r:V→Option Int→Option Int→Hp→VK→Prop):Prop :=
 ∀ (pins:List (Addr×Obj)) (s:Shared) (σ : St) (H:Hp) (x:V) (v vl vu:Value) (lo hi:Option Int) (sl:Addr) (Q:VK),Inv X pins σ H s→RelV x v→s.heap.IsSliceOf sl vl vu .none→IsPart vl lo→IsPart vu hi→r x lo hi H Q →
  ∃ T id,typeLookup (.type T) "__getitem__" = pure (some (.builtin id))∧s.TypeIs v T∧wpAny (model X.prog X.w) X.A (getItem v (.ref sl)) (EP X pins σ Q) X.xe s
theorem SlR.or {r r':V→Option Int→Option Int→Hp→VK→Prop} (h:SlR X r) (h':SlR X r'):SlR X (fun x lo hi H Q=>r x lo hi H Q∨r' x lo hi H Q):=by
 intro pins s σ H x v vl vu lo hi sl Q I rx hs pl pu q
 rcases q with q | q
 ·exact h pins s σ H x v vl vu lo hi sl Q I rx hs pl pu q
 ·exact h' pins s σ H x v vl vu lo hi sl Q I rx hs pl pu q
def tSl (r:V→Option Int→Option Int→Hp→VK→Prop) (te:TE) (tl th:TO):TE:=fun σ H Q=>te σ H fun x H1=>tl σ H1 fun l H2=>th σ H2 fun u H3=>r x l u H3 Q
theorem Hg {r:V→Option Int→Option Int→Hp→VK→Prop} (hr:SlR X r) (he:PE X e te) (hl:PO X lo tl) (hu:PO X hi th):PE X (.Subscript e (.Slice lo hi none p2) pos) (tSl r te tl th):=by
 intro pins s σ H Q I h
 refine Subscript_ (thn (he pins s σ H _ I h) fun v s1 ⟨x,H1,I1,r1,q1⟩=>?_)
 refine wpAny_Slice (thn (hl pins s1 σ H1 _ I1 q1) fun vl s2 ⟨l,H2,I2,pl,q2⟩=>thn (hu pins s2 σ H2 _ I2 q2) fun vu s3 ⟨u,H3,I3,pu,q3⟩=>?_)
 rw[evalPart_none]
 refine wpAny_pure ?_
 have I4:Inv X pins σ H3 { s3 with heap:=s3.heap.push { cls:=.type "slice",data:=.fields #[vl,vu,.none] } }:=I3.kept (t':=s3.toks) fun b ob q=>Heap.get?_push_of_some _ q
 obtain⟨T,id,hT,ht,hg⟩:=hr pins { s3 with heap:=s3.heap.push { cls:=.type "slice",data:=.fields #[vl,vu,.none] } } σ H3 x v vl vu l u s3.heap.objs.size Q I4 r1 (Heap.IsSliceOf.new ..) pl pu q3
 show wpAny (model X.prog X.w) X.A (subscriptTail e (.Slice lo hi none p2) v (.ref s3.heap.objs.size)) (EP X pins σ Q) X.xe { s3 with heap:=s3.heap.push { cls:=.type "slice",data:=.fields #[vl,vu,.none] } }
 exact tail_any (ops:=[.ref s3.heap.objs.size,v]) ht hT hg (by with_unfolding_all rfl)
def cutV (xs:List V) (lo hi:Option Int):List V:=(xs.drop (HT.sIx xs.length 0 lo)).take (HT.sIx xs.length xs.length hi - HT.sIx xs.length 0 lo)
theorem ahn (xs:List V) (lo hi:Option Int):(cutV xs lo hi).length≤xs.length:=by
 unfold cutV
 rw[List.length_take,List.length_drop]
 omega
end
end L2
namespace L2
open PySem PySem.Spec PyProof.Rows
def ixN (n:Nat) (i:Int):Option Nat:=if 0≤i then (if i<n then some i.toNat else none) else if -(n:Int)≤i then some (i+n).toNat else none
def atI {α : Type} (xs:List α) (i:Int):Option α:=(ixN xs.length i).bind fun j=>xs[j]?
theorem akI {n:Nat} {i:Int} {j:Nat} (h:ixN n i=some j):seqIndex? i n=some j∧j<n ∧ -(n:Int)≤i∧i<n:=by
 unfold ixN at h
 by_cases h0:0≤i
 ·rw[if_pos h0] at h
  by_cases h1:i<n
  ·rw[if_pos h1] at h
   have e:i.toNat=j:=Option.some.inj h
   exact⟨by rw[seqIndex_of h0 h1,e],by omega,by omega,h1⟩
  ·rw[if_neg h1] at h;cases h
 ·rw[if_neg h0] at h
  by_cases h1 : -(n:Int)≤i
  ·rw[if_pos h1] at h
   have e:(i+n).toNat=j:=Option.some.inj h
   exact⟨by rw[seqIndex_neg (by omega) h1,e],by omega,h1,by omega⟩
  ·rw[if_neg h1] at h;cases h
theorem akJ {α : Type} {xs:List α} {i:Int} {v : α} (h:atI xs i=some v):∃ j,seqIndex? i xs.length=some j∧xs[j]? = some v∧j<xs.length ∧ -(xs.length:Int)≤i∧i<xs.length:=by
 unfold atI at h
 cases e:ixN xs.length i with
 | none=>rw[e] at h;cases h
 | some j =>
  rw[e] at h
  obtain⟨h1,h2,h3,h4⟩:=akI e
  exact⟨j,h1,h,h2,h3,h4⟩
theorem bJ {α : Type} {xs:List α} {j:Nat} {v : α} (h:xs[j]? = some v):atI xs (j:Int)=some v:=by
 have hj:j<xs.length:=(List.getElem?_eq_some_iff.mp h).1
 have e:ixN xs.length (j:Int)=some j:=by
  unfold ixN
  rw[if_pos (by omega),if_pos (by omega)];simp
 unfold atI;rw[e];exact h
def aoa (b:Expr):Prop:=∀ o i,subscripted b false o i=operate [o,i] (getItem o i)
def IxR (X:Cx) (r:R2):Prop :=
 ∀ (value slice:Expr) (pins:List (Addr×Obj)) (s:Shared) (σ : St) (H:Hp) (x y:V) (v u:Value) (Q:VK),Inv X pins σ H s→RelV x v→RelV y u→r x y H Q →
  subscripted slice false v u=operate [v,u] (getItem v u)→wpAny (model X.prog X.w) X.A (subscriptTail value slice v u) (EP X pins σ Q) X.xe s
def MtR (X:Cx) (id:String) (r:V→List V→Hp→VK→Prop):Prop :=
 ∀ (pins:List (Addr×Obj)) (s:Shared) (σ : St) (H:Hp) (x:V) (xs:List V) (v:Value) (us:List Value) (Q:VK),Inv X pins σ H s→RelV x v→Vals xs us→r x xs H Q →
  wpAny (model X.prog X.w) X.A (call (.builtin id) (v::us)) (EP X pins σ Q) X.xe s
section
variable {X:Cx} {a b:Expr} {ta tb:TE} {pos:Pos}
theorem IxR.or {r r':R2} (h:IxR X r) (h':IxR X r'):IxR X (fun x y H Q=>r x y H Q∨r' x y H Q):=by
 intro value slice pins s σ H x y v u Q I rx ry q hs
 rcases q with q | q
 ·exact h value slice pins s σ H x y v u Q I rx ry q hs
 ·exact h' value slice pins s σ H x y v u Q I rx ry q hs
theorem MtR.or {id:String} {r r':V→List V→Hp→VK→Prop} (h:MtR X id r) (h':MtR X id r'):MtR X id (fun x xs H Q=>r x xs H Q∨r' x xs H Q):=by
 intro pins s σ H x xs v us Q I rx rs q
 rcases q with q | q
 ·exact h pins s σ H x xs v us Q I rx rs q
 ·exact h' pins s σ H x xs v us Q I rx rs q
theorem bh {r:R2} (hr:IxR X r) (ha:PE X a ta) (hb:PE X b tb) (hs:aoa b):PE X (.Subscript a b pos) (tOp r ta tb):=by
 intro pins s σ H Q I h
 exact Subscript_ (binT ha hb I h fun v u s2 x y H2 I2 rx ry q=>hr a b pins s2 σ H2 x y v u Q I2 rx ry q (hs _ _))
def rIxL (K:W.Frag):R2:=fun x y H Q=>∃ p xs i v,x = .ref p∧y = .int i∧SqL K H p xs∧atI xs i=some v∧Q v H
def rIxT (K:W.Frag):R2:=fun x y H Q=>∃ p xs i v,x = .ref p∧y = .int i∧SqT K H p xs∧atI xs i=some v∧Q v H
theorem aob:IxR X (rIxL X.K):=by
 intro value slice pins s σ H x y v u Q I rx ry h hs
 obtain⟨p,xs,i,z,rfl,rfl,hq,he,q⟩:=h
 cases rx
 obtain⟨t,rfl⟩:=ry
 obtain⟨its,r,pl,hz⟩:=I.list hq
 obtain⟨j,h1,h2,h3,h4,h5⟩:=akJ he
 obtain⟨w,ew,rw'⟩:=r.get h2
 have hl:=r.length
 have hn:=Zr
 have fin:EP X pins σ Q w s:=⟨z,H,I,rw',q⟩
 by_cases h0:0≤i
 ·have hj:i.toNat=j:=by
   rw[seqIndex_of h0 h5] at h1
   exact Option.some.inj h1
  exact item_listR pl.isList h0 (by omega) (by rw[hj];simpa using ew) fin hs
 ·have hj:(i+(its.toArray.size:Int)).toNat=j:=by
   rw[seqIndex_neg (by omega) h4] at h1
   rw[List.size_toArray,← hl]
   exact Option.some.inj h1
  exact subscriptTail_builtinR (x:=w) pl.isList.typeIs slot_list_getitem.lookup
   (wpAny_getItem_list_neg (Q:=fun r s'=>r=w∧EP X pins σ Q r s') pl.isList (by omega) (by rw[List.size_toArray] <;> omega) (by omega) (by rw[hj];simpa using ew) ⟨rfl,fin⟩) hs
theorem apj:IxR X (rIxT X.K):=by
 intro value slice pins s σ H x y v u Q I rx ry h hs
 obtain⟨p,xs,i,z,rfl,rfl,hq,he,q⟩:=h
 cases rx
 obtain⟨t,rfl⟩:=ry
 obtain⟨its,r,pl,hz⟩:=I.tuple hq
 obtain⟨j,h1,h2,h3,h4,h5⟩:=akJ he
 obtain⟨w,ew,rw'⟩:=r.get h2
 have hl:=r.length
 have hn:=Zr
 have fin:EP X pins σ Q w s:=⟨z,H,I,rw',q⟩
 exact subscriptTail_builtinR (x:=w) pl.typeIs slot_tuple_getitem.lookup
  (getItem_tuple (j:=j) (Q:=fun r s'=>r=w∧EP X pins σ Q r s') pl (by omega) (by omega) (by rw[List.size_toArray,← hl];exact h1) (by simpa using ew) ⟨rfl,fin⟩) hs
theorem ajq (its:List Value) (n j:Nat) (u:Value):Obj.mapSeq (·.setIfInBounds j u) { cls:=.type "list",data:=.seq its.toArray n } = { cls:=.type "list",data:=.seq (its.set j u).toArray n }:=by
 simp [Obj.mapSeq]
theorem Inv.lst {pins:List (Addr×Obj)} {σ : St} {H:Hp} {s:Shared} {p:Addr} {xs:List V} (I:Inv X pins σ H s) (h:H p=some (.lst xs)) :
  ∃ (its:List Value) (n:Nat),Vals xs its∧s.heap.get? p=some { cls:=.type "list",data:=.seq its.toArray n }∧xs.length≤sizeLine:=by
 obtain⟨z,its,n,r,e⟩:=I.hok p _ h
 exact⟨its,n,r,e,z⟩
theorem Inv.apk {pins:List (Addr×Obj)} {σ : St} {H:Hp} {s:Shared} {p:Addr} {xs ys:List V} {its its':List Value} {n n':Nat} {f:Obj→Obj} (I:Inv X pins σ H s) (h:H p=some (.lst xs))
  (ho:s.heap.get? p=some { cls:=.type "list",data:=.seq its.toArray n }) (hf:f { cls:=.type "list",data:=.seq its.toArray n } = { cls:=.type "list",data:=.seq its'.toArray n' }) (r:Vals ys its') (hz:ys.length≤sizeLine) (t:Nat) :
  Inv X pins σ (upd H p (.lst ys)) { s with heap:=s.heap.update p f,toks:=t }:=by
 have e:(s.heap.update p f).get? p=some { cls:=.type "list",data:=.seq its'.toArray n' }:=by
  rw[Heap.get?_update_self f ho (by rw[hf] <;> rfl),hf]
 refine I.write (x:=p) (e:=p) (by rw[h];trivial) (.inl rfl) (fun b u hb q=>(Heap.get?_update_other _ _ (Ne.symm hb)).trans q) ⟨_,e⟩ ?_
 exact⟨hz,its',n',r,e⟩
def ap3:V→V→V→Hp→(Hp→Prop)→Prop:=fun o i v H Q=>∃ p xs k j,o = .ref p∧i = .int k∧H p=some (.lst xs)∧ixN xs.length k=some j∧Q (upd H p (.lst (xs.set j v)))
theorem set_list:PSet X ap3:=by
 intro pins s σ H o i v ov iv u Q I ro ri rv h
 obtain⟨p,xs,k,j,rfl,rfl,hp,hj,q⟩:=h
 cases ro
 obtain⟨t,rfl⟩:=ri
 obtain⟨its,n,r,ho,hz⟩:=I.lst hp
 obtain⟨h1,h2,h3,h4⟩:=akI hj
 have hl:=r.length
 have hn:=Zr
 have I':Inv X pins σ (upd H p (.lst (xs.set j v))) { s with heap:=s.heap.update p (Obj.mapSeq (·.setIfInBounds j u)) } :=
  I.apk hp ho (ajq its n j u) (r.set rv j) (by rw[List.length_set];exact hz) s.toks
 by_cases h0:0≤k
 ·have hk:k.toNat=j:=by
   rw[seqIndex_of h0 h4] at h1
   exact Option.some.inj h1
  exact W.ki_setAt ho h0 (by omega) (by rw[List.size_toArray,← hl];exact h4) (by rw[hk];exact⟨_,I',q⟩)
 ·have hk:(k+(its.toArray.size:Int)).toNat=j:=by
   rw[seqIndex_neg (by omega) h3] at h1
   rw[List.size_toArray,← hl]
   exact Option.some.inj h1
  exact W.ki_setBack ho (by omega) (by rw[List.size_toArray,← hl];exact h3) (by omega) (by rw[hk];exact⟨_,I',q⟩)
theorem aeU (lo hi:Option Int) (n:Nat):(sliceBounds lo hi none n).1=((HT.sIx n 0 lo:Nat):Int)∧(sliceBounds lo hi none n).2.1=((HT.sIx n n hi:Nat):Int)∧(sliceBounds lo hi none n).2.2=1:=by
 refine⟨?_,?_,rfl⟩
 ·cases lo with
  | none=>simp [sliceBounds,HT.sIx]
  | some i =>
   simp only [sliceBounds,HT.sIx,Option.getD_none,show(1:Int) > 0 by decide,if_true]
   by_cases h:i < 0
   ·simp only [h,if_true] <;> omega
   ·simp only [h,if_false] <;> omega
 ·cases hi with
  | none=>simp [sliceBounds,HT.sIx]
  | some i =>
   simp only [sliceBounds,HT.sIx,Option.getD_none,show(1:Int) > 0 by decide,if_true]
   by_cases h:i < 0
   ·simp only [h,if_true] <;> omega
   ·simp only [h,if_false] <;> omega
theorem acJ (its:List Value) (lo hi:Option Int):slicePick its.toArray lo hi none=((its.drop (HT.sIx its.length 0 lo)).take (HT.sIx its.length its.length hi - HT.sIx its.length 0 lo)).toArray:=by
 obtain⟨h1,h2,h3⟩:=aeU lo hi its.toArray.size
 unfold slicePick
 rw[h1,h2,h3]
 simp only [sliceRange_one,pick_run,List.size_toArray] <;> rfl
def rSlL (K:W.Frag):V→Option Int→Option Int→Hp→VK→Prop:=fun x lo hi H Q=>∃ a xs,x = .ref a∧SqL K H a xs∧∀ p,H p=none→Q (.ref p) (upd H p (.lst (cutV xs lo hi)))
theorem aoc:SlR X (rSlL X.K):=by
 intro pins s σ H x v vl vu lo hi sl Q I rx hs pl pu h
 obtain⟨a,xs,rfl,hx,q⟩:=h
 cases rx
 obtain⟨its,r,ht,hz⟩:=I.list hx
 have hlen:=r.length
 refine⟨"list",_,slot_list_getitem.lookup,ht.isList.typeIs,?_⟩
 refine wpAny_getItem_list_slice ht.isList hs pl pu .none (by simp) ?_ (by rw[List.size_toArray] <;> omega)
 rw[acJ,← hlen]
 refine⟨.ref s.heap.objs.size,_,I.laid (t':=s.toks) (o:=.lst (cutV xs lo hi)) (fun b ob q=>Heap.get?_push_of_some _ q) (Nat.le_refl _) ?_,rfl,q _ (I.hok.fresh (Nat.le_refl _))⟩
 exact⟨Nat.le_trans (ahn xs lo hi) hz,_,0,(r.drop (HT.sIx xs.length 0 lo)).take (HT.sIx xs.length xs.length hi - HT.sIx xs.length 0 lo),Heap.get?_push_size _ rfl⟩
def WK:V→Bool
 | .non=>true
 | .bl _=>true
 | .int _=>true
 | .str _=>true
 | _=>false
def eqV:V→V→Bool
 | .non,.non=>true
 | .bl a,.bl b=>a == b
 | .bl a,.int b=>(if a then 1 else 0) == b
 | .int a,.bl b=>a == (if b then 1 else 0)
 | .int a,.int b=>a == b
 | .str a,.str b=>a == b
 | _,_=>false
theorem apl {A:Around} {s:Shared} {y x:V} {u v:Value} (ry:RelV y u) (rx:RelV x v) (fy:WK y=true) (fx:WK x=true):SeqAt.EqAt A s u v (eqV y x):=by
 cases y with
 | non =>
  cases ry
  cases x with
  | non=>cases rx;exact SeqAt.EqAt.same _
  | bl b=>cases rx;exact SeqAt.EqAt.none_bool b
  | int b=>obtain⟨t,rfl⟩:=rx;exact SeqAt.EqAt.none_int b t
  | str b=>obtain⟨t,rfl⟩:=rx;exact SeqAt.EqAt.none_str b t
  | _=>exact absurd (show false=true from fx) Bool.false_ne_true
 | bl a =>
  cases ry
  cases x with
  | non=>cases rx;exact SeqAt.EqAt.bool_none a
  | bl b=>cases rx;exact SeqAt.EqAt.bool_bool a b
  | int b=>obtain⟨t,rfl⟩:=rx;exact SeqAt.EqAt.bool_int a b t
  | str b=>obtain⟨t,rfl⟩:=rx;exact SeqAt.EqAt.bool_str a b t
  | _=>exact absurd (show false=true from fx) Bool.false_ne_true
 | int a =>
  obtain⟨t',rfl⟩:=ry
  cases x with
  | non=>cases rx;exact SeqAt.EqAt.int_none a t'
  | bl b=>cases rx;exact SeqAt.EqAt.int_bool a t' b
  | int b=>obtain⟨t,rfl⟩:=rx;exact SeqAt.EqAt.int_int a t' b t
  | str b=>obtain⟨t,rfl⟩:=rx;exact SeqAt.EqAt.int_str a t' b t
  | _=>exact absurd (show false=true from fx) Bool.false_ne_true
 | str a =>
  obtain⟨t',rfl⟩:=ry
  cases x with
  | non=>cases rx;exact SeqAt.EqAt.str_none a t'
  | bl b=>cases rx;exact SeqAt.EqAt.str_bool a t' b
  | int b=>obtain⟨t,rfl⟩:=rx;exact SeqAt.EqAt.str_int a t' b t
  | str b=>obtain⟨t,rfl⟩:=rx;exact SeqAt.EqAt.str_str a t' b t
  | _=>exact absurd (show false=true from fx) Bool.false_ne_true
 | _=>exact absurd (show false=true from fy) Bool.false_ne_true
def eqU (x:V) (u:Value):Bool:=match u with
 | .none=>eqV .non x
 | .bool b=>eqV (.bl b) x
 | .int i _=>eqV (.int i) x
 | .str z _=>eqV (.str z) x
 | _=>false
theorem amS {x y:V} {u:Value} (r:RelV y u) (f:WK y=true):eqU x u=eqV y x:=by
 cases y with
 | non=>cases r;rfl
 | bl b=>cases r;rfl
 | int i=>obtain⟨t,rfl⟩:=r;rfl
 | str z=>obtain⟨t,rfl⟩:=r;rfl
 | _=>exact absurd (show false=true from f) Bool.false_ne_true
theorem aeV {x:V}:∀ {xs:List V} {us:List Value},Vals xs us→xs.all WK=true→us.any (eqU x)=xs.any fun y=>eqV y x
 | _,_,.nil,_=>rfl
 | y::xs,u::us,.cons r t,f=>by
  rw[List.all_cons,Bool.and_eq_true] at f
  rw[List.any_cons,List.any_cons,amS r f.1,aeV t f.2]
theorem Zu {A:Around} {s:Shared} {x:V} {v:Value} (rx:RelV x v) (fx:WK x=true):∀ {xs:List V} {us:List Value},Vals xs us→xs.all WK=true→∀ u∈us,SeqAt.EqAt A s u v (eqU x u)
 | _,_,.nil,_=>fun u hu=>by cases hu
 | y::xs,u::us,.cons r t,f=>fun u' hu=>by
  rw[List.all_cons,Bool.and_eq_true] at f
  rcases List.mem_cons.mp hu with rfl | hu
  ·rw[amS r f.1];exact apl r rx f.1 fx
  ·exact Zu rx fx t f.2 u' hu
def inV (x:V) (xs:List V):Bool:=xs.any fun y=>eqV y x
def rIn (K:W.Frag) (neg:Bool):R2:=fun x y H Q=>∃ p xs,y = .ref p∧(SqL K H p xs∨SqT K H p xs)∧WK x=true∧xs.all WK=true∧Q (.bl (if neg then !inV x xs else inV x xs)) H
theorem alC:OpR X (compareOp .In) (rIn X.K false):=by
 intro pins s σ H x y v u Q I rx ry h
 obtain⟨p,xs,rfl,hq,fx,fs,q⟩:=h
 cases ry
 rcases hq with hq | hq
 ·obtain⟨its,r,pl,hz⟩:=I.list hq
  refine SeqAt.in_listAt (eqU x) pl.isList (fun w hw=>Zu rx fx r fs w (by simpa using hw)) ⟨.bl _,H,I,rfl,?_⟩
  rw[show its.toArray.any (eqU x)=its.any (eqU x) by simp,aeV r fs]
  exact q
 ·obtain⟨its,r,pl,hz⟩:=I.tuple hq
  refine SeqAt.in_tupleAt (eqU x) pl (fun w hw=>Zu rx fx r fs w (by simpa using hw)) ⟨.bl _,H,I,rfl,?_⟩
  rw[show its.toArray.any (eqU x)=its.any (eqU x) by simp,aeV r fs]
  exact q
theorem aeW:mK X (.builtin "len") (fun xs H Q=>∃ p ys,xs = [.ref p]∧(SqL X.K H p ys∨SqT X.K H p ys)∧Q (.int ys.length) H):=by
 intro pins s σ H xs us Q I r h
 obtain⟨p,ys,rfl,hq,q⟩:=h
 obtain⟨u,rfl,rx⟩:=vals1 r
 cases rx
 have hn:=Zr
 rcases hq with hq | hq
 ·obtain⟨its,r',pl,hz⟩:=I.list hq
  have hlen:=r'.length
  exact Calls.call_len_list pl.isList (by simp only [List.size_toArray] <;> omega) ⟨.int ys.length,H,I.tok _,⟨s.toks+1,by rw[List.size_toArray,hlen]⟩,q⟩
 ·obtain⟨its,r',pl,hz⟩:=I.tuple hq
  have hlen:=r'.length
  exact len_tuple pl (by simp only [List.size_toArray] <;> omega) ⟨.int ys.length,H,I.tok _,⟨s.toks+1,by rw[List.size_toArray,hlen]⟩,q⟩
theorem mK.or {f:Value} {r r':List V→Hp→VK→Prop} (h:mK X f r) (h':mK X f r'):mK X f (fun xs H Q=>r xs H Q∨r' xs H Q):=by
 intro pins s σ H xs us Q I rs q
 rcases q with q | q
 ·exact h pins s σ H xs us Q I rs q
 ·exact h' pins s σ H xs us Q I rs q
theorem aeX:mK X (.type "list") (fun xs H Q=>∃ p ys,xs = [.ref p]∧(SqL X.K H p ys∨SqT X.K H p ys)∧∀ l,H l=none→Q (.ref l) (upd H l (.lst ys))):=by
 intro pins s σ H xs us Q I r h
 obtain⟨p,ys,rfl,hq,q⟩:=h
 obtain⟨u,rfl,rx⟩:=vals1 r
 cases rx
 have fin:∀ (its:List Value),Vals ys its→ys.length≤sizeLine→∀ (h':Heap) (c':Nat),(∀ b o',s.heap.get? b=some o'→h'.get? b=some o') →
   h'.get? s.heap.objs.size=some { cls:=.type "list",dict:=none,data:=.seq its.toArray c',slots:=#[] }→EP X pins σ Q (.ref s.heap.objs.size) { s with heap:=h' }:=fun its r' hz h' c' kp e =>
  ⟨.ref s.heap.objs.size,_,I.laid (t':=s.toks) kp (Nat.le_refl _) (show jl X.prog X.w _ h' _ (.lst ys) from ⟨hz,its,c',r',e⟩),rfl,q _ (I.hok.fresh (Nat.le_refl _))⟩
 rcases hq with hq | hq
 ·obtain⟨its,r',pl,hz⟩:=I.list hq
  have hlen:=r'.length
  obtain⟨o,ho,hc,n,hd⟩:=pl.isList
  exact call_list_seq p (.inl rfl) ho hc hd (fun h' c' kp e=>fin its r' hz h' c' kp e) (by simp only [List.size_toArray] <;> omega)
 ·obtain⟨its,r',pl,hz⟩:=I.tuple hq
  have hlen:=r'.length
  obtain⟨o,ho,hc,n,hd⟩:=pl
  exact call_list_seq p (.inr rfl) ho hc hd (fun h' c' kp e=>fin its r' hz h' c' kp e) (by simp only [List.size_toArray] <;> omega)
theorem acK:mK X (.type "tuple") (fun xs H Q=>∃ p ys,xs = [.ref p]∧((SqL X.K H p ys∧∀ l,H l=none→Q (.ref l) (upd H l (.tup ys)))∨(SqT X.K H p ys∧Q (.ref p) H))):=by
 intro pins s σ H xs us Q I r h
 obtain⟨p,ys,rfl,h⟩:=h
 obtain⟨u,rfl,rx⟩:=vals1 r
 cases rx
 rcases h with ⟨hq,q⟩ | ⟨hq,q⟩
 ·obtain⟨its,r',pl,hz⟩:=I.list hq
  have hlen:=r'.length
  refine call_tuple_list pl.isList (fun h' kp=>?_) (by simp only [List.size_toArray] <;> omega)
  have I1:Inv X pins σ H { s with heap:=h' }:=I.kept (t':=s.toks) kp
  have I2:Inv X pins σ (upd H h'.objs.size (.tup ys)) { s with heap:=h'.push { cls:=.type "tuple",data:=.seq its.toArray } } :=
   I1.laid (t':=s.toks) (fun b o e=>Heap.get?_push_of_some _ e) (Nat.le_refl _) (show jl X.prog X.w _ _ _ (.tup ys) from ⟨hz,its,r',IsTup.new _ _⟩)
  exact⟨.ref h'.objs.size,_,I2,rfl,q _ (I1.hok.fresh (Nat.le_refl _))⟩
 ·obtain⟨its,r',pl,hz⟩:=I.tuple hq
  exact call_tuple_same pl ⟨.ref p,H,I,rfl,q⟩
def tyV (K:W.Frag) (T:String) (x:V) (H:Hp):Prop:=match x with
 | .str _=>T = "str"
 | .int _=>T = "int"
 | .ref p=>(T = "list" ∧ ∃ xs,SqL K H p xs)∨(T = "tuple" ∧ ∃ o,K.lookup p=some o∧o.cls = .type "tuple" ∧ o.dict=none) ∨
   (T = "dict" ∧ ((∃ kvs,H p=some (.dK kvs)) ∨ ∃ kvs,H p=some (.dT kvs)))∨(T = "set" ∧ ∃ S n,H p=some (.set S n))
 | _=>False
theorem amT {pins:List (Addr×Obj)} {σ : St} {H:Hp} {s:Shared} {T:String} {x:V} {v:Value} (I:Inv X pins σ H s) (r:RelV x v) (ty:tyV X.K T x H) :
  s.TypeIs v T∧∀ a,v = .ref a→∃ ob,s.heap.get? a=some ob∧ob.dict=none:=by
 cases x with
 | str z =>
  obtain⟨t,rfl⟩:=r
  cases (show T = "str" from ty)
  exact⟨typeIs_str s z t,fun _ e=>nomatch e⟩
 | int i =>
  obtain⟨t,rfl⟩:=r
  cases (show T = "int" from ty)
  exact⟨typeIs_int s i t,fun _ e=>nomatch e⟩
 | ref p =>
  cases r
  rcases ty with ⟨rfl,xs,hq⟩ | ⟨rfl,o,hk,hc,hd⟩ | ⟨rfl,hk⟩ | ⟨rfl,S,n,hk⟩
  ·obtain⟨its,_,pl,_⟩:=I.list hq
   refine⟨pl.isList.typeIs,fun a e=>?_⟩
   cases e
   obtain⟨o,n,e,c,hd,_⟩:=pl
   exact⟨o,e,hd⟩
  ·refine⟨⟨o,I.kIn p o hk,hc⟩,fun a e=>?_⟩
   cases e
   exact⟨o,I.kIn _ o hk,hd⟩
  ·have z:∃ o,s.heap.get? p=some o∧o.ExactDict:=by
    rcases hk with ⟨kvs,hk⟩ | ⟨kvs,hk⟩
    ·obtain⟨_,_,_,_,o,_,_,e,ex,_⟩:=I.hok p _ hk
     exact⟨o,e,ex⟩
    ·obtain⟨_,_,_,_,o,_,_,e,ex,_⟩:=I.hok p _ hk
     exact⟨o,e,ex⟩
   obtain⟨o,e,ex⟩:=z
   refine⟨⟨o,e,ex.1⟩,fun a e2=>?_⟩
   cases e2
   exact⟨o,e,ex.2.1⟩
  ·obtain⟨o,_,_,_,e,ex,_⟩:=I.hok p _ hk
   refine⟨⟨o,e,ex.1⟩,fun a e2=>?_⟩
   cases e2
   exact⟨o,e,ex.2.1⟩
 | _=>exact False.elim ty
def tBM0 (K:W.Frag) (T:String) (r:V→List V→Hp→VK→Prop) (to:TE):TE:=fun σ H Q=>to σ H fun x H1=>tyV K T x H1∧r x [] H1 Q
def tBM (K:W.Frag) (T:String) (r:V→List V→Hp→VK→Prop) (to:TE) (t:TA):TE:=fun σ H Q=>to σ H fun x H1=>tyV K T x H1∧t σ H1 fun xs H2=>r x xs H2 Q
variable {o e:Expr} {es:List Expr} {to:TE} {t:TA} {name:Str} {apos cpos:Pos} {T id:String} {r:V→List V→Hp→VK→Prop}
theorem apm (pa:PlainAttrs T) (slot:Slot T name id) (hty:typeOf (.builtin id)=pure (.type "method_descriptor")) (hm:MtR X id r) (ho:PE X o to)
  (hbase:attributeBase o name X.env (eval o X.env)=eval o X.env:=by rfl) (hline:(apos.endLine == cpos.line)=true:=by rfl):PE X (.Call (.Attribute o name apos) [] [] cpos) (tBM0 X.K T r to):=by
 intro pins s σ H Q I h
 refine wpAny_Call_method0_late hbase hline (thn (ho pins s σ H _ I h) fun v s1 ⟨x,H1,I1,r1,ty,q1⟩=>?_)
 obtain⟨h1,h2⟩:=amT I1 r1 ty
 exact⟨T,id,pa,slot,hty,h1,h2,Calls.callWith_builtin rfl (PySem.evalArgs_none (hm pins s1 σ H1 x [] v [] Q I1 r1 .nil q1))⟩
theorem amU (pa:PlainAttrs T) (slot:Slot T name id) (hty:typeOf (.builtin id)=pure (.type "method_descriptor")) (hm:MtR X id r) (ho:PE X o to) (ha:PA X (e::es) t)
  (hbase:attributeBase o name X.env (eval o X.env)=eval o X.env:=by rfl)
  (hfew:((backTo cpos (starEach (e::es) X.env)).all (fun x => !x.1) && (backToKw cpos (keywordEach [] X.env)).all (fun x=>x.1.isSome)
   && decide ((e::es).length+([]:List Keyword).length+(if ([]:List Keyword).isEmpty then 0 else 1) < 30))=true:=by rfl)
  (hline:(apos.endLine == cpos.line)=true:=by rfl) (hs:starEach (e::es) X.env=(false,eval e X.env)::starEach es X.env:=by rfl) (hplain:(backTo cpos (starEach es X.env)).any (·.1)=false:=by rfl) :
  PE X (.Call (.Attribute o name apos) (e::es) [] cpos) (tBM X.K T r to t):=by
 intro pins s σ H Q I h
 refine wpAny_Call_method_late hbase hfew hline rfl (thn (ho pins s σ H _ I h) fun v s1 ⟨x,H1,I1,r1,ty,q1⟩=>?_)
 obtain⟨h1,h2⟩:=amT I1 r1 ty
 refine⟨T,id,pa,slot,hty,h1,h2,?_⟩
 have hA:=ha cpos pins s1 σ H1 _ I1 q1
 rw[hs] at hA ⊢
 refine Calls.callWith_builtin (by show(false || (backTo cpos (starEach es X.env)).any (·.1))=false;rw[hplain] <;> rfl) (Calls.evalArgs_plain ?_)
 exact thn hA fun us s2 ⟨vs,H2,I2,r2,q2⟩=>hm pins s2 σ H2 x vs v us Q I2 r1 r2 q2
end
end L2
namespace L2
open PySem PySem.Spec PyProof.Rows
def MtM (X:Cx) (id:String) (r:V→List V→Hp→VK→Prop):Prop :=
 ∀ (pins:List (Addr×Obj)) (s:Shared) (σ : St) (H:Hp) (x:V) (xs:List V) (v:Value) (us:List Value) (Q:VK),Inv X pins σ H s→RelV x v→Vals xs us→r x xs H Q →
  wpAny (model X.prog X.w) X.A (call (.builtin id) (v::us)) (EP X pins σ Q) X.xe s
theorem Vals.one:∀ {x:V} {us:List Value},Vals [x] us→∃ u,us = [u]∧RelV x u
 | _,_,.cons r .nil=>⟨_,rfl,r⟩
theorem Vals.two:∀ {x y:V} {us:List Value},Vals [x,y] us→∃ u v,us = [u,v]∧RelV x u∧RelV y v
 | _,_,_,.cons r (.cons q .nil)=>⟨_,_,rfl,r,q⟩
theorem Vals.zero:∀ {us:List Value},Vals [] us→us = []
 | _,.nil=>rfl
theorem Vals.reverse {xs:List V} {us:List Value} (h:Vals xs us):Vals xs.reverse us.reverse:=by
 induction h with
 | nil=>exact .nil
 | cons r t ih=>rw[List.reverse_cons,List.reverse_cons];exact Vals.append ih (.cons r .nil)
theorem Vals.rep {xs:List V} {us:List Value} (h:Vals xs us):∀ k:Nat,Vals (List.replicate k xs).flatten (List.replicate k us).flatten
 | 0=>.nil
 | k+1=>by
  rw[List.replicate_succ,List.replicate_succ,List.flatten_cons,List.flatten_cons]
  exact Vals.append h (Vals.rep h k)
theorem foldl_rep (its:List Value):∀ (k:Nat) (acc:List Value),
  List.foldl (fun x1 x2=>x1++x2) acc.toArray (List.replicate k its.toArray)=(acc++(List.replicate k its).flatten).toArray
 | 0,acc=>by simp
 | k+1,acc=>by
  have e:acc.toArray++its.toArray=(acc++its).toArray:=by simp
  have e2:(acc++its)++(List.replicate k its).flatten=acc++(List.replicate (k+1) its).flatten:=by
   rw[List.replicate_succ,List.flatten_cons,List.append_assoc]
  rw[← e2,← foldl_rep its k (acc++its),← e,List.replicate_succ,List.foldl_cons]
section
variable {X:Cx} {pins:List (Addr×Obj)} {σ : St} {H:Hp} {s:Shared} {l b:Addr} {xs ys zs:List V}
theorem Inv.lset {its its':List Value} {n:Nat} {f:Array Value→Array Value} {t':Nat} (I:Inv X pins σ H s) (hH:H l=some (.lst xs))
  (e:s.heap.get? l=some { cls:=.type "list",data:=.seq its.toArray n }) (hf:f its.toArray=its'.toArray) (hv:Vals ys its') (hz:ys.length≤sizeLine) :
  Inv X pins σ (upd H l (.lst ys)) { s with heap:=s.heap.update l (Obj.mapSeq f),toks:=t' }:=by
 have q:=PySem.IsL.update e f
 rw[hf] at q
 refine I.write (x:=l) (e:=l) (by rw[hH];exact trivial) (.inl rfl) (fun b' u hb hu=>(Heap.get?_update_other s.heap (Obj.mapSeq f) (Ne.symm hb)).trans hu) ⟨_,q⟩ ?_
 exact⟨hz,its',_,hv,q⟩
theorem Inv.lnew {its:List Value} {t':Nat} (I:Inv X pins σ H s) (hv:Vals ys its) (hz:ys.length≤sizeLine) :
  Inv X pins σ (upd H s.heap.objs.size (.lst ys)) { s with heap:=s.heap.push { cls:=.type "list",data:=.seq its.toArray },toks:=t' } :=
 I.laid (fun _ _ q=>Heap.get?_push_of_some _ q) (Nat.le_refl _) ⟨hz,its,0,hv,Heap.get?_push_size _ rfl⟩
theorem Inv.fresh (I:Inv X pins σ H s):H s.heap.objs.size=none:=I.hok.fresh (Nat.le_refl _)
theorem Inv.lstM (I:Inv X pins σ H s) (hH:H l=some (.lst xs)):xs.length≤sizeLine∧∃ (its:List Value) (n:Nat),Vals xs its∧xs.length=its.length∧s.heap.get? l=some { cls:=.type "list",data:=.seq its.toArray n }:=by
 obtain⟨z,its,n,r,e⟩:=I.hok l _ hH
 exact⟨z,its,n,r,r.length,e⟩
theorem aho {n:Nat} (h:n≤sizeLine):Builtin.List.listTooLong n=false:=by
 unfold Builtin.List.listTooLong
 exact decide_eq_false (by omega)
end
section
variable {X:Cx}
def akK:V→List V→Hp→VK→Prop:=fun x vs H Q=>∃ l xs y,x = .ref l∧vs = [y]∧H l=some (.lst xs)∧xs.length<sizeLine∧Q .non (upd H l (.lst (xs++[y])))
theorem ad0:MtM X "list.append" akK:=by
 intro pins s σ H x vs v us Q I rx rv h
 obtain⟨l,xs,y,rfl,rfl,hH,hz,q⟩:=h
 cases rx
 obtain⟨u,rfl,ru⟩:=rv.one
 obtain⟨z,its,n,r,hl,e⟩:=I.lstM hH
 refine call_meets F.slot_list_append ⟨_,e,rfl⟩ F.entry_list_append (F.args_list_append_2 _ _) (PySem.list_append l its.toArray n u (by rw[List.size_toArray];omega)) ⟨e,?_⟩
 refine⟨.non,_,I.lset (its':=its++[u]) hH e (by simp) (r.append (.cons ru .nil)) ?_,rfl,q⟩
 rw[List.length_append,List.length_singleton]
 omega
def akL:V→List V→Hp→VK→Prop:=fun x vs H Q=>∃ l b xs zs,x = .ref l∧vs = [.ref b]∧H l=some (.lst xs)∧H b=some (.lst zs)∧xs.length+zs.length≤sizeLine∧Q .non (upd H l (.lst (xs++zs)))
theorem alD:MtM X "list.extend" akL:=by
 intro pins s σ H x vs v us Q I rx rv h
 obtain⟨l,b,xs,zs,rfl,rfl,hH,hB,hz,q⟩:=h
 cases rx
 obtain⟨u,rfl,ru⟩:=rv.one
 cases ru
 obtain⟨z,its,n,r,hl,e⟩:=I.lstM hH
 obtain⟨z2,its2,n2,r2,hl2,e2⟩:=I.lstM hB
 have hsz:its.toArray.size+its2.toArray.size≤sizeLine:=by rw[List.size_toArray,List.size_toArray];omega
 have amV:¬ (!its.toArray.isEmpty && Builtin.List.listTooLong (its.toArray.size+its2.toArray.size))=true:=by
  rw[aho hsz,Bool.and_false]
  exact Bool.false_ne_true
 refine call_meets F.slot_list_extend ⟨_,e,rfl⟩ F.entry_list_extend (F.args_list_extend_2 _ _)
  (AutoSeq1.list_extend_list_list_0 l its.toArray n b its2.toArray n2 amV (by rw[List.size_toArray];omega) (by omega)) ⟨e,e2,?_⟩
 refine⟨.non,_,I.lset (its':=its++its2) hH e (by simp) (r.append r2) ?_,rfl,q⟩
 rw[List.length_append]
 omega
def amW:V→List V→Hp→VK→Prop:=fun x vs H Q=>∃ l xs,x = .ref l∧vs = []∧H l=some (.lst xs)∧Q .non (upd H l (.lst []))
theorem amX:MtM X "list.clear" amW:=by
 intro pins s σ H x vs v us Q I rx rv h
 obtain⟨l,xs,rfl,rfl,hH,q⟩:=h
 cases rx
 have hus:=rv.zero
 subst hus
 obtain⟨z,its,n,r,hl,e⟩:=I.lstM hH
 refine call_meets F.slot_list_clear ⟨_,e,rfl⟩ F.entry_list_clear (F.args_list_clear_1 _) (AutoSeq1.list_clear_list_0 l its.toArray n (by rw[List.size_toArray];omega)) ⟨e,?_⟩
 exact⟨.non,_,I.lset (its':=[]) (ys:=[]) hH e rfl .nil (Nat.zero_le _),rfl,q⟩
def rRep:R2:=fun x y H Q=>∃ l k xs,x = .ref l∧y = .int k∧H l=some (.lst xs) ∧ -(2 ^ 63)≤k∧k < 2 ^ 63∧xs.length * k.toNat≤sizeLine ∧
 ∀ p,H p=none→Q (.ref p) (upd H p (.lst (List.replicate k.toNat xs).flatten))
theorem len_rep {α : Type} (xs:List α) (k:Nat):(List.replicate k xs).flatten.length=k * xs.length:=by
 induction k with
 | zero=>simp
 | succ k ih=>rw[List.replicate_succ,List.flatten_cons,List.length_append,ih,Nat.succ_mul,Nat.add_comm]
theorem amY:OpR X (binaryOp .Mult) rRep:=by
 intro pins s σ H x y v u Q I rx ry h
 obtain⟨l,k,xs,rfl,rfl,hH,h1,h2,hz,q⟩:=h
 cases rx
 obtain⟨t,rfl⟩:=ry
 obtain⟨z,its,n,r,hl,e⟩:=I.lstM hH
 have hlen:its.toArray.size * k.toNat≤sizeLine:=by rw[List.size_toArray,← hl];exact hz
 have hcap:¬ its.toArray.size * k.toNat > (2 ^ 63 - 1) / 8:=by
  have:(sizeLine:Nat)≤(2 ^ 63 - 1) / 8:=by decide
  omega
 have hfit:¬ (!Builtin.List.listFitsIndex k)=true:=by
  rw[fitsIndex_both h1 h2]
  exact Bool.false_ne_true
 have amV:¬ Builtin.List.listTooLong (its.toArray.size * k.toNat)=true:=by
  rw[aho hlen]
  exact Bool.false_ne_true
 have hnew:List.foldl (fun x1 x2=>x1++x2) #[] (List.replicate (if its.toArray.isEmpty=true then 0 else k.toNat) its.toArray)=(List.replicate k.toNat its).flatten.toArray:=by
  have f0:∀ m:Nat,List.foldl (fun x1 x2=>x1++x2) #[] (List.replicate m its.toArray)=(List.replicate m its).flatten.toArray:=fun m=>by
   have:=foldl_rep its m []
   rw[List.nil_append] at this
   exact this
  rw[f0]
  cases its with
  | nil=>simp
  | cons a r'=>rw[if_neg (by simp)]
 refine wpAny_binaryOp_repeat_ref (T := "list") (U := "int") (by decide) ⟨_,e,rfl⟩ (fun s'=>typeIs_int s' k t) noFill_list_mul F.fills_int_mul F.slot_int_rmul repeat_list F.slot_int_index.lookup
  (call_meets F.slot_int_rmul (typeIs_int s k t) F.entry_int_rmul (F.args_int_rmul_2 _ _) (int___rmul___int_list k t l its.toArray n)
   ⟨e,rfl,⟨_,e,rfl⟩,call_meets F.slot_list_mul ⟨_,e,rfl⟩ F.entry_list_mul (F.args_list_mul_2 _ _) (AutoListH.list___mul___list_int_3 l its.toArray n k t hfit hcap amV) ⟨e,?_⟩⟩)
 rw[hnew]
 exact⟨.ref _,_,I.lnew (t':=s.toks) (r.rep k.toNat) (by rw[len_rep,Nat.mul_comm];exact hz),rfl,q _ I.fresh⟩
end
section
variable {prog:Program} {w:World} {A:Around} {E:Value→Shared→Prop} {s:Shared}
end
section
variable {X:Cx}
end
end L2
namespace Att
open PySem PySem.W PySem.Calls PyProof.Rows
theorem YT {P:Params} {h:Heap}:∀ (ns:List Int) (vs:List Value),WellAll P h vs (ns.map WData.int)→IntsAre vs ns:=by
 intro ns
 induction ns with
 | nil =>
  intro vs w
  rw[List.map_nil] at w
  cases w
  exact .nil
 | cons n ns ih =>
  intro vs w
  rw[List.map_cons] at w
  cases w with
  | cons a b =>
   cases a
   exact .cons _ _ (ih _ b)
theorem alE {l:OpenLaw} {n:Nat} (hn:l.most=some n) {P:Params} {h:Heap} {args:List WData} {vals:List Value}
  (hpre:l.row.toRowW.claim.pre args=true) (hwl:WellAll P h vals args) :
  ∃ a vs ns,vals = [Value.ref a]∧args = [WData.list (ns.map WData.int)]∧h.get? a=some { cls:=.type "list",data:=.seq vs.toArray }∧IntsAre vs ns∧ns.length≤n:=by
 have hsh:WShape.hasAll [] args [.list .int] = true:=(pre_splitW hpre).1
 have hc:l.pre.holds [] { args:=args } = true:=(pre_splitW hpre).2
 obtain⟨d,r,rfl,h1,h2⟩:=hasAllW_cons hsh
 obtain rfl:=hasAllW_nil h2
 obtain⟨xs,rfl,h3⟩:=hasW_list h1
 obtain⟨ns,rfl⟩:=items_int h3
 have hlen:ns.length≤n:=by
  unfold OpenLaw.pre at hc
  have h4:(WTm.not (.lt (.lit (.int (n:Int))) (.len (.arg 0)))).holds [] { args:=[.list (ns.map .int)] } = true:=by
   have h4:=(holds_andW hc).1
   rw[hn] at h4
   exact h4
  have h5:=condW_of h4 (w_not (w_lt w_lit (w_len_list (w_arg rfl))))
  rw[List.length_map] at h5
  refine Nat.le_of_not_lt fun q=>?_
  have q':(n:Int)<((ns.length:Nat):Int):=by omega
  first
   | (rw[decide_eq_true q'] at h5;exact absurd h5 (by decide))
   | (simp at h5;omega)
 cases hwl with
 | cons w1 w2 =>
  cases w2
  cases w1 with
  | list ho hall=>exact⟨_,_,ns,rfl,rfl,ho,YT ns _ hall,hlen⟩
theorem alF (l:OpenLaw) (args:List WData):l.row.toRowW.claim.post args (.bool true) args=true :=
 postW_of (r:=l.row.toRowW) (X:=(true == true))
  (show WShape.has [] (.bool true) .bool=true by first | rfl | decide | simp [WShape.has,WShape.arms,WShape.armsAll])
  (show(WTm.eq .res (.lit (.bool true))).value [] { args:=args,res:=some (.bool true),after:=args } = some (.bool (true == true)) from w_eq_bool (w_res rfl) w_lit) rfl
theorem ahp {l:OpenLaw} {n:Nat} {q:Program} {loose:List Str} {XP:(Str→Option Value)→Heap→Prop} {YP:World→Heap→Prop} {d:DefRec}
  (hn:l.most=some n) (hdf:d.params.defaults = [])
  (call:∀ (w:World) (s₀ s₁ : Shared) (mg mb:Str→Option Value) (fa:Addr) (o:Obj) (pm cd doc:Value) (a:Addr) (vs:List Value) (ns:List Int),
   Ground q loose [] XP w s₀ mg mb s₁.heap→YP w s₁.heap →
   s₁.heap.get? fa=some o→o.data = .func (docDef d.name d.params d.body d.scope pm cd doc)→s₁.heap.CodeRec cd d.name→mg d.name=some (.ref fa) →
   s₁.heap.get? a=some { cls:=.type "list",data:=.seq vs.toArray }→IntsAre vs ns→ns.length≤n→s₁.gens = #[] →
   codeAny (model l.prog w) callerA (.call (.ref fa) ⟨[.ref a],[]⟩) (fun r s'=>r = .ok (.ret (.bool true))∧OldK s₁.heap s'.heap∧s'.os=s₁.os∧AllBare s'.gens) s₁) :
  WalkO q loose XP YP l.row.toRowW d [] (fun f vs=>PySem.call f vs):=by
 intro w s₀ s₁ mg mb G Y fa o pm cd doc dV kV ho hd hcd hD hmg hg args vals as hpre hlay hrd hwl hlo
 obtain rfl:dV = .none:=Dflts.none hD hdf
 obtain rfl:kV = .none:=Dflts.noKw hD
 obtain⟨a,vs,ns,rfl,rfl,hobj,hints,hlen⟩:=alE hn hpre hwl
 refine enter_call (codeAny_mono (call w s₀ s₁ mg mb fa o pm cd doc a vs ns G Y ho (fd_plain hd) hcd hmg hobj hints hlen hg) fun r s' hq=>?_)
 obtain⟨rfl,h2,h3,h4⟩:=hq
 exact⟨.inl ⟨.bool true,.bool true,[],rfl,fun _=>rfl,.bool true,alF l _,fun _=>⟨List.Pairwise.nil,fun _ hm=>(nomatch hm)⟩⟩,h2,h3,h4⟩
section
variable {prog:Program} {w:World} {A:Around} {E:Value→Shared→Prop} {s:Shared} {K:Frag}
def ledger (h:Heap) (L d:Addr):List (Addr×Obj):=(List.range h.objs.size).filterMap fun a=>if a=L∨a=d then none else (h.get? a).map fun o=>(a,o)
end
end Att
namespace L2
open PySem PySem.Spec PyProof.Rows
theorem ad1:∀ {vs:List Value} {ns:List Int},IntsAre vs ns→Vals (ns.map V.int) vs
 | _,_,.nil=>.nil
 | _,_,.cons n t h=>.cons ⟨t,rfl⟩ (ad1 h)
def Only (H:Hp):Prop:=∀ b,H b=none ∨ ∃ o xs,H b=some (.frz o (.lst xs))
theorem amZ {P:Program} {w:World} {K:W.Frag} {mg mb:Str→Option Value} {CX:CXT} {k:Nat} {fa a:Addr} {fd:FuncData} {x:Str} {sp:Sp} {s₁ : Shared} {vs:List Value} {ns:List Int}
  (KX:K.In s₁.heap) (hns:s₁.heap.Ns mainGlobals mg) (hb:s₁.heap.Ns builtinsNs mb) (hbb:∀ x:Str,x ≠ "__name__" → mb x=bootBuiltins x) (hlim:s₁.heap.NoLimit) (hg:s₁.gens = #[])
  (ha:s₁.heap.get? a=some { cls:=.type "list",data:=.seq vs.toArray }) (hi:IntsAre vs ns) (hl:ns.length≤sizeLine) (hr:Room k callerA)
  (F:∀ base:Heap,K.In base→base.Ns mainGlobals mg→FnOk P w K mg base CX k fa fd [x] sp) (hbind:∀ (s:Shared) (u:Value),BindsTo s fd ⟨[u],[]⟩ [(x,u)])
  (hsp:∀ H:Hp,Only H→SqL K H a (ns.map V.int)→sp [.ref a] H (fun v _=>v = .bl true) fun _ _ _=>False)
  (hCX:∀ H e s',CX [] H s₁ (fun _ _ _=>False) e s'→False) :
  codeAny (model P w) callerA (.call (.ref fa) ⟨[.ref a],[]⟩) (fun r s'=>r = .ok (.ret (.bool true))∧OldK s₁.heap s'.heap∧s'.os=s₁.os∧AllBare s'.gens) s₁:=by
 have rv:=ad1 hi
 have lenV:=hi.length
 have core:∀ H:Hp,Only H→SqL K H a (ns.map V.int)→HOk P w H s₁.heap→(∀ b,H b≠none→b=a)→(H a≠none→K.lookup a=none) →
   codeAny (model P w) callerA (.call (.ref fa) ⟨[.ref a],[]⟩) (fun r s'=>r = .ok (.ret (.bool true))∧OldK s₁.heap s'.heap∧s'.os=s₁.os∧AllBare s'.gens) s₁:=by
  intro H hO hS hok hA hK
  have akM:∀ {b:Addr} {o:Obj},s₁.heap.get? b=some o→H b=none→(hidT s₁.heap H).get? b=some o:=fun e n=>amH e n
  have noA:∀ {b:Addr} {o:Obj} {es:Array DictEntry} {ep:Nat},s₁.heap.get? b=some o→o.data = .dict es ep→H b=none:=fun {b o es ep} e d=>by
   cases q:H b with
   | none=>rfl
   | some u =>
    have e':b=a:=hA b (by rw[q];simp)
    subst e'
    rw[ha] at e;cases e
    have d':Data.seq vs.toArray _=Data.dict es ep:=d
    cases d'
  have nsK:∀ {b:Addr} {m:Str→Option Value},s₁.heap.Ns b m→(hidT s₁.heap H).Ns b m:=fun {b m} ⟨o,es,ep,e,d,r⟩=>⟨o,es,ep,akM e (noA e d),d,r⟩
  have hKb:K.In (hidT s₁.heap H):=fun b o e=>akM (KX b o e) (by
   cases q:H b with
   | none=>rfl
   | some u =>
    have e':b=a:=hA b (by rw[q];simp)
    subst e'
    rw[hK (by rw[q];simp)] at e;cases e)
  have hM:Mod K mg (hidT s₁.heap H):=⟨hKb,nsK hns,⟨mb,nsK hb,hbb⟩,let ⟨mc,h1,h2⟩:=hlim;⟨mc,nsK h1,h2⟩⟩
  have e0:Env0 P w K mg (hidT s₁.heap H) callerA [] s₁ H:=⟨rfl,hM,fun b o e=>an3 e,Nat.le_of_eq (alu _ _),trivial,fun b hb=>absurd (show b∈([]:List Addr) from hb) (by simp),hok,.of_eq hg⟩
  refine codeAny_mono ((F _ hKb (nsK hns)).run callerA [] s₁ H ⟨[.ref a],[]⟩ [.ref a] [.ref a] _ _ hr e0 (hbind s₁ (.ref a)) (.cons rfl .nil) (hsp H hO hS)) fun r s' h=>?_
  cases r with
  | error e=>exact(hCX H e s' h).elim
  | ok fl =>
   cases fl with
   | next=>exact False.elim h
   | brk=>exact False.elim h
   | cont=>exact False.elim h
   | ret u =>
    obtain⟨v,H',os,bare,un,hok',r',q⟩:=h
    have q':v = .bl true:=q
    subst q'
    obtain rfl:u=Value.bool true:=r'
    refine⟨rfl,OldK.of_keep fun b o e=>?_,os,bare⟩
    cases q:H b with
    | none=>exact un.keep b o e q (by intro z;exact absurd (show b∈([]:List Addr) from z) (by simp)) (by simp)
    | some u =>
     rcases hO b with z | ⟨ob,xs,z⟩
     ·rw[q] at z;cases z
     ·have z2:=un.frzs b ob _ z
      obtain⟨e1,_⟩:=hok b _ z
      obtain⟨e2,_⟩:=hok' b _ z2
      rw[e] at e1;cases e1
      exact e2
 cases hk:K.lookup a with
 | some o =>
  have e:=KX a o hk
  rw[ha] at e
  cases e
  refine core (fun _=>none) (fun _=>.inl rfl) (.inr ⟨_,vs.toArray,_,hk,rfl,rfl,rfl,by rw[List.size_toArray,lenV];exact hl,by simpa using rv⟩) (fun b u z=>by have z':(none:Option HO)=some u:=z;cases z') (fun b z=>absurd rfl z) fun z=>absurd rfl z
 | none =>
  refine core (fun b=>if b=a then some (.frz { cls:=.type "list",data:=.seq vs.toArray } (.lst (ns.map V.int))) else none) (fun b=>?_) (.inl (.inr ⟨{ cls:=.type "list",data:=.seq vs.toArray },if_pos rfl⟩)) (fun b u z=>?_) (fun b z=>?_) fun _=>hk
  ·by_cases hb:b=a
   ·exact .inr ⟨_,_,if_pos hb⟩
   ·exact .inl (if_neg hb)
  ·by_cases hb:b=a
   ·have z':=(if_pos hb).symm.trans z
    cases z'
    subst hb
    exact⟨ha,by rw[List.length_map];exact hl,vs,_,rv,ha⟩
   ·have z':=(if_neg hb).symm.trans z
    cases z'
  ·by_cases hb:b=a
   ·exact hb
   ·exact absurd (if_neg hb) z
end L2
namespace L2
open PySem PySem.Spec PyProof.Rows
abbrev KOf {K:W.Frag} {h:Heap} (_:K.In h):W.Frag:=K
theorem aod {l:W.OpenLaw} {n k:Nat} {q:Program} {loose:List Str} {XP:(Str→Option Value)→Heap→Prop} {YP:World→Heap→Prop} {d:DefRec} {K:Params→W.Frag} {CX:World→CXT} {sp:World→Sp} {x:Str}
  (hn:l.most=some n) (hn2:n≤sizeLine) (hdf:d.params.defaults = []) (hr:Room k callerA)
  (hY:∀ (w:World) (h:Heap),YP w h→(K w.params).In h)
  (F:∀ (w:World) (mg:Str→Option Value) (fa:Addr) (h:Heap),(K w.params).In h→h.Ns mainGlobals mg→mg d.name=some (.ref fa) →
   ∃ fd:FuncData,(∀ (s:Shared) (u:Value),BindsTo s fd ⟨[u],[]⟩ [(x,u)]) ∧
    ∀ base:Heap,(K w.params).In base→base.Ns mainGlobals mg→FnOk l.prog w (K w.params) mg base (CX w) k fa fd [x] (sp w))
  (hsp:∀ (w:World) (H:Hp) (a:Addr) (ns:List Int),ns.length≤n→Only H→SqL (K w.params) H a (ns.map V.int)→sp w [.ref a] H (fun v _=>v = .bl true) fun _ _ _=>False)
  (hCX:∀ (w:World) (H:Hp) (s:Shared) (e:Value) (s':Shared),CX w [] H s (fun _ _ _=>False) e s'→False) :
  W.WalkO q loose XP YP l.row.toRowW d [] (fun f vs=>PySem.call f vs):=by
 refine Att.ahp hn hdf fun w s₀ s₁ mg mb fa o pm cd doc a vs ns G Y ho hd hcd hmg hobj hints hlen hg=>?_
 have KX:=hY w _ Y
 obtain⟨fd,hb,hF⟩:=F w mg fa _ KX G.T.g hmg
 exact amZ KX G.T.g G.T.b G.T.builtins G.T.nolimit hg hobj hints (Nat.le_trans hlen hn2) hr hF hb (fun H hO hS=>hsp w H a ns hlen hO hS) fun H e s'=>hCX w H s₁ e s'
end L2
namespace L2
open PySem PySem.Spec PyProof.Rows
def inClass (s:Stmt) (j:Nat):Stmt:=match s with
 | .ClassDef _ _ _ body _ _ _ _ _ _ _=>body.getD j (.Pass ⟨0,0,0,0⟩)
 | _=>.Pass ⟨0,0,0,0⟩
def aF (s:Stmt):Arguments:=match s with
 | .FunctionDef _ a _ _ _ _ _ _ _ _=>a
 | _=>{ posonlyargs:=[],args:=[],vararg:=none,kwonlyargs:=[],kw_defaults:=[],kwarg:=none,defaults:=[] }
def aD (s:Stmt):List Stmt:=match s with
 | .FunctionDef _ _ b _ _ _ _ _ _ _=>b
 | _=>[]
def ak (s:Stmt):Scope:=match s with
 | .FunctionDef _ _ _ _ _ _ sc _ _ _=>sc
 | _=>{ kind:=.function,names:=[],isGenerator:=false,isCoroutine:=false }
abbrev CX0:CXT:=fun _ _ _ _ _ _=>False
abbrev E0:XK:=fun _ _ _=>False
theorem aH {X:Cx}:Passes CX0 X E0:=fun _ _ _ _ _ _ _ h=>h.elim
structure Fun (K:W.Frag) (x qual:Str) (st:Stmt) (f:Addr) (fd:FuncData):Prop where
 ex:∃ (oc:Value) (od:Option Addr) (kV doc pm:Value) (an:Option Addr) (cdv ct:Value) (osl:Array (Option Value)),
  fd=W.fnOf x qual (aF st) (aD st) (ak st) .none kV doc pm an cdv ct∧K.lookup f=some ⟨oc,od,.func fd,osl⟩ ∧ W.codeIn K cdv qual=true
 kp:W.keepIn K (.ref f)=true
section
variable {P:Program} {w:World} {K:W.Frag} {mg:Str→Option Value} {base:Heap}
theorem Fun.ok {x qual:Str} {st:Stmt} {f:Addr} {fd:FuncData} {N ps:List Str} {k:Nat} {sp:Sp} (F:Fun K x qual st f fd) (S:aX N ps (ak st)) (len:∀ vs H Q E,sp vs H Q E→vs.length=ps.length)
  (hbody:∀ (cdv:Value) (A:Around) (outer:List Env) (s:Shared) (H:Hp) (vs:List V) (Q:VK) (E:XK),Room k (A.deeper (envOfC qual (ak st) s.heap.objs.size f cdv))→sp vs H Q E →
   ∃ t,PSs (cxOf CX0 P w K mg base N qual (ak st) f cdv A outer s H E).nox (aD st) t∧t { nx:=fun _ H'=>Q .non H',rt:=Q } (start N vs) H):FnOk P w K mg base CX0 (k+1) f fd ps sp:=by
 obtain⟨oc,od,kV,doc,pm,an,cdv,ct,osl,rfl,lk,hcd⟩:=F.ex
 refine ap1 lk hcd S len fun A outer s H vs Q E hr hsp=>?_
 obtain⟨t,h,q⟩:=hbody cdv A outer s H vs Q E hr hsp
 exact⟨t,h.nox,q⟩
theorem Fun.binds {x qual:Str} {st:Stmt} {f:Addr} {fd:FuncData} {ps:List Str} (F:Fun K x qual st f fd)
  (h:∀ (kV doc pm:Value) (an:Option Addr) (cdv ct:Value) (us:List Value),us.length=ps.length→bindArgs (W.fnOf x qual (aF st) (aD st) (ak st) .none kV doc pm an cdv ct) ⟨us,[]⟩ = pure (ps.zip us)):Binds K fd ps []:=by
 obtain⟨oc,od,kV,doc,pm,an,cdv,ct,osl,rfl,lk,hcd⟩:=F.ex
 exact .all (h kV doc pm an cdv ct)
theorem aJ {x qual:Str} {st:Stmt} {f:Addr} {oc:Value} {od an:Option Addr} {osl:Array (Option Value)} {kV doc pm cdv ct:Value} (l:K.lookup f=some ⟨oc,od,.func (W.fnOf x qual (aF st) (aD st) (ak st) .none kV doc pm an cdv ct),osl⟩)
  (c:W.codeIn K cdv qual=true) (k:W.keepIn K (.ref f)=true):Fun K x qual st f (W.fnOf x qual (aF st) (aD st) (ak st) .none kV doc pm an cdv ct):=⟨⟨oc,od,kV,doc,pm,an,cdv,ct,osl,rfl,l,c⟩,k⟩
end
theorem aoP {A:Around} {k:Nat} (hr:Room k A):A.units+1 < cLine:=Nat.lt_of_le_of_lt (Nat.add_le_add_left (by decide:1≤64) _) hr.units
theorem aP {n:Nat} (h:n≤1000):n<sizeLine:=Nat.lt_of_le_of_lt h (by decide)
section
variable {X:Cx}
theorem pv (i:Nat) {x:Str} {pos:Pos} (hN:X.N[i]? = some x:=by rfl) (hv:Vis X.env.scope x:=by first | exact Or.inl rfl | exact Or.inr (Or.inl rfl) | exact Or.inr (Or.inr rfl)) (hd:(x == ("__debug__" : Str))=false:=by decide)
  (hcd:(x == ("__classdict__" : Str))=false:=by decide):PE X (.Name x pos) (tVar i):=ao9 hN hv hd hcd
end
theorem iteF {A B:Prop} (h:B):if false=true then A else B:=by
 rw[if_neg Bool.false_ne_true]
 exact h
theorem iteT {A B:Prop} (h:A):if true=true then A else B:=by
 rw[if_pos rfl]
 exact h
theorem ite2 {c A B:Prop} [Decidable c] (h1:c→A) (h2:¬ c→B):if c then A else B:=by
 by_cases h:c
 ·rw[if_pos h]
  exact h1 h
 ·rw[if_neg h]
  exact h2 h
theorem ap4 {c A B:Prop} [Decidable c] (hc:c) (h:B):if (!decide c)=true then A else B:=by
 rw[decide_eq_true hc]
 exact iteF h
def Same (H H':Hp):Prop:=∀ b o,H b=some o→H' b=some o
theorem Same.refl (H:Hp):Same H H:=fun _ _ h=>h
theorem Same.trans {H H1 H2:Hp} (a:Same H H1) (b:Same H1 H2):Same H H2:=fun c o h=>b c o (a c o h)
theorem Same.free {H H':Hp} (e:Same H H') {l:Addr} (h:H' l=Option.none):H l=Option.none:=by
 cases q:H l with
 | none=>rfl
 | some o =>
  rw[e l o q] at h
  cases h
theorem Same.seq {K:W.Frag} {H H':Hp} {a:Addr} {xs:List V} (e:Same H H') (h:SqL K H a xs):SqL K H' a xs:=by
 rcases h with (h | ⟨o,h⟩) | h
 ·exact .inl (.inl (e _ _ h))
 ·exact .inl (.inr ⟨o,e _ _ h⟩)
 ·exact .inr h
end L2
set_option maxHeartbeats 4000000
namespace SetQ
open PySem
structure Good (L:Bool) (t:SetTable):Prop where
 rise:t.place.toList.Pairwise (· < ·)
section
variable {prog:Program} {w:World} {A:Around} {E:Value→Shared→Prop} {s:Shared}
def kz (e:Int×Value):Int:=match e.2 with | .int k _=>k | _=>0
def addK (ks:List Int) (k:Int):List Int:=if ks.any (· == k) then ks else ks++[k]
structure Row (w:World) (es:Array (Int×Value)) (t:SetTable) (ks:List Int):Prop where
 few:es.size<scanBound
 fits:t.fits es.size=true
 good:Good (!w.params.followText "set-order") t
structure RowG (w:World) (es:Array (Int×Value)) (t:SetTable):Prop where
 few:es.size<scanBound
 fits:t.fits es.size=true
 good:Good (!w.params.followText "set-order") t
theorem Row.g {w:World} {es:Array (Int×Value)} {t:SetTable} {ks:List Int} (r:Row w es t ks):RowG w es t:=⟨r.few,r.fits,r.good⟩
def SetZ (w:World) (h:Heap) (a:Addr) (ks:List Int):Prop:=∃ o es ep t,h.get? a=some o∧o.ExactSet∧o.data = .set es ep t∧Row w es t ks
theorem aoe {h:Heap} {a:Addr} {o:Obj} {es:Array (Int×Value)} {ep:Nat} {t:SetTable} (ho:h.get? a=some o) (hd:o.data = .set es ep t) (es':Array (Int×Value)) (t':SetTable) :
  (h.update a (Obj.putSet es' t')).get? a=some { o with data:=.set es' (ep+1) t' }:=by
 have z:=Heap.get?_update_self (Obj.putSet es' t') ho (by rw[putSet_of es' t' hd];rfl)
 rwa [putSet_of es' t' hd] at z
theorem SetZ.put {h:Heap} {a:Addr} {o:Obj} {es:Array (Int×Value)} {ep:Nat} {t:SetTable} (ho:h.get? a=some o) (hex:o.ExactSet) (hd:o.data = .set es ep t) {es':Array (Int×Value)} {t':SetTable} {ks:List Int} (r:Row w es' t' ks) :
  SetZ w (h.update a (Obj.putSet es' t')) a ks:=⟨_,es',ep+1,t',aoe ho hd es' t',hex,rfl,r⟩
end
def dd (val:Nat→Int) (i:Nat):List Int:=((List.range i).map val).foldl addK []
section
open PySem.Spec PyProof.Rows
variable {prog:Program} {w:World} {A:Around} {R:Result→Shared→Prop} {J:Addr} {fp wr:List Addr} {G:Array GenState→Array GenState→Prop} {n:Nat} {P:Nat→Value→Prop} {St:Nat→Shared→Prop}
end
section
variable {prog:Program} {w:World} {A:Around} {E:Value→Shared→Prop} {s:Shared}
end
end SetQ
namespace SetQ
open PySem
section
variable {prog:Program} {w:World} {A:Around} {E:Value→Shared→Prop}
end
section
variable {prog:Program} {w:World} {A:Around} {E:Value→Shared→Prop} {s:Shared} {S J T:Addr} {es:Array (Int×Value)} {ep i:Nat} {t:SetTable} {ys:List (Int×Value)} {ks:List Int} {o:Obj} {first:Value}
end
end SetQ
namespace L2
open PySem
theorem aeY (env:Env):∀ (names:List (Str×NameKind)) (acc:List (Str×Addr)),
  (∀ y∈names,y.2=NameKind.free→∃ c,env.cells.lookup y.1=some c) →
  (∀ x c,acc.lookup x=some c→env.cells.lookup x=some c) →
  ∃ cl:List (Str×Addr),(forIn names acc (fun (x:Str×NameKind) (r:List (Str×Addr))=>(match x with
   | (name,kind)=>if (kind == NameKind.free)=true then do let a ← cellOf env name;pure (ForInStep.yield ((name,a)::r)) else pure (ForInStep.yield r):Sem (ForInStep (List (Str×Addr))))):Sem (List (Str×Addr)))=pure cl ∧
   (∀ x c,cl.lookup x=some c→env.cells.lookup x=some c)∧(∀ x,(acc.lookup x).isSome=true→(cl.lookup x).isSome=true)∧(∀ y∈names,y.2=NameKind.free→(cl.lookup y.1).isSome=true)
 | [],acc,_,ha=>⟨acc,rfl,ha,fun _ h=>h,fun _ h=>nomatch h⟩
 | (n,k)::r,acc,h,ha=>by
  by_cases hk:k=NameKind.free
  ·subst hk
   obtain⟨c,hc⟩:=h (n,NameKind.free) List.mem_cons_self rfl
   obtain⟨cl,e,h1,h2,h3⟩:=aeY env r ((n,c)::acc) (fun y hy=>h y (List.mem_cons_of_mem _ hy)) (fun x d hd=>by
    rw[List.lookup_cons] at hd
    cases hx:x == n with
    | true =>
     rw[hx] at hd
     cases hd
     rw[eq_of_beq hx];exact hc
    | false=>rw[hx] at hd;exact ha x d hd)
   refine⟨cl,?_,h1,fun x hx=>h2 x ?_,fun y hy hf=>?_⟩
   ·rw[List.forIn_cons]
    have ec:cellOf env n=pure c:=by unfold cellOf;rw[hc]
    simp only [ec]
    exact e
   ·rw[List.lookup_cons]
    cases hx:x == n with
    | true=>rfl
    | false=>assumption
   ·rcases List.mem_cons.mp hy with rfl | hy
    ·refine h2 n ?_
     rw[List.lookup_cons,beq_self_eq_true];rfl
    ·exact h3 y hy hf
  ·obtain⟨cl,e,h1,h2,h3⟩:=aeY env r acc (fun y hy=>h y (List.mem_cons_of_mem _ hy)) ha
   refine⟨cl,?_,h1,h2,fun y hy hf=>?_⟩
   ·rw[List.forIn_cons]
    have ek:(k == NameKind.free)=false:=by simpa using hk
    simp only [ek,Bool.false_eq_true,if_false]
    exact e
   ·rcases List.mem_cons.mp hy with rfl | hy
    ·exact absurd hf hk
    ·exact h3 y hy hf
theorem akN {scope:Scope} {env:Env} (h:∀ y∈scope.names,y.2=NameKind.free→∃ c,env.cells.lookup y.1=some c) :
  ∃ cl:List (Str×Addr),closureFor scope env=pure cl∧(∀ x c,cl.lookup x=some c→env.cells.lookup x=some c)∧(∀ y∈scope.names,y.2=NameKind.free→(cl.lookup y.1).isSome=true):=by
 obtain⟨cl,e,h1,h2,h3⟩:=aeY env scope.names [] h (fun x c h=>by cases h)
 refine⟨cl,?_,h1,h3⟩
 unfold closureFor
 show(forIn scope.names [] _ >>= fun r=>pure r)=pure cl
 rw[e]
 rfl
end L2
namespace L2
open PySem
section
variable {prog:Program} {w:World} {A:Around} {R:Result→Shared→Prop} {s:Shared}
theorem ahq {elt target iter:Expr} {ifs:List Expr} {scope:Scope} {pos:Pos} {it acc:Value} {env:Env} (I:Nat→Shared→Prop)
  (turn:∀ n s,I n s→wpAny (model prog w) A (pyNext it) (fun r s₁ => match r with
   | none=>R (.ok .next) s₁
   | some v=>wpAny (model prog w) A (letOwnedTupleGo target it v) (fun _ s₁'=>wpAny (model prog w) A (assign target env v) (fun _ s₂ =>
     wpAny (model prog w) A (forIn ifs true fun c r=>if r=true then do let ok ← isTrue c env (eval c env);pure (ForInStep.yield ok) else pure (ForInStep.yield r)) (fun ok s₃ =>
      if ok=true then wpAny (model prog w) A (eval elt env) (fun x s₄ =>
       wpAny (model prog w) A (call (.builtin "list.append") [acc,x]) (fun _ s₅ => ∃ m,m<n∧I m s₅) (fun _ _=>False) s₄) (fun _ _=>False) s₃
      else ∃ m,m<n∧I m s₃) (fun _ _=>False) s₂) (fun _ _=>False) s₁') (fun _ _=>False) s₁) (fun _ _=>False) s)
  (n:Nat) (h:I n s) :
  codeAny (model prog w) A (.compLoop (.ListComp elt [⟨target,iter,ifs,0⟩] scope pos) 0 it acc env) R s:=by
 refine codeAny_loop rfl I (fun n s hI=>?_) n h
 show wpAny _ A ((compTurn (.ListComp elt [⟨target,iter,ifs,0⟩] scope pos) 0 it acc env).onRaise (fun x=>do noteFrame x env;theTreesLotGoes x)) _ _ s
 refine wpAny_noted ?_
 rw[compTurn_list]
 refine wpAny_bind (wpAny_standAt (wpAny_bind (wpAny_mono (turn n s hI) (fun r s₁ h₁ => ?_) fun _ _ h'=>h'.elim)))
 cases r with
 | none=>exact wpAny_pure h₁
 | some v =>
  refine wpAny_bind (wpAny_mono h₁ (fun _ s₁' h₁'=>?_) fun _ _ h'=>h'.elim)
  refine wpAny_bind (wpAny_mono h₁' (fun _ s₂ h₂ => wpAny_bind (wpAny_mono h₂ (fun ok s₃ h₃ => ?_) fun _ _ h'=>h'.elim)) fun _ _ h'=>h'.elim)
  cases ok with
  | false=>exact wpAny_pure ⟨rfl,h₃⟩
  | true =>
   exact wpAny_bind (wpAny_bind (wpAny_mono h₃ (fun x s₄ h₄ => wpAny_bind (wpAny_mono h₄ (fun _ s₅ h₅ => wpAny_pure (wpAny_pure ⟨rfl,h₅⟩)) fun _ _ h'=>h'.elim)) fun _ _ h'=>h'.elim))
end
end L2
namespace L2
open PySem PySem.Spec PyProof.Rows
theorem Hh {env:Env}:∀ {names:List (Str×NameKind)} {x:Str} {k':NameKind},
  (names.map fun (n,k)=>if (k == NameKind.free && env.scope.kind == .function && env.kindOf n == some .cell) then (n,NameKind.cell) else (n,k)).lookup x=some k' →
  ∃ k,names.lookup x=some k∧(k' = k∨(k = .free∧k' = .cell))
 | [],_,_,h=>by simp at h
 | (n,k)::r,x,k',h=>by
  have h':List.lookup x ((if (k == NameKind.free && env.scope.kind == .function && env.kindOf n == some .cell)=true then (n,NameKind.cell) else (n,k))::_)=some k':=h
  cases hx:x == n with
  | true =>
   by_cases hc:(k == NameKind.free && env.scope.kind == .function && env.kindOf n == some .cell)=true
   ·rw[if_pos hc,List.lookup_cons,hx] at h'
    have hk:k = .free:=by
     rw[Bool.and_eq_true,Bool.and_eq_true] at hc
     exact eq_of_beq hc.1.1
    exact⟨k,by rw[List.lookup_cons,hx],.inr ⟨hk,(Option.some.inj h').symm⟩⟩
   ·rw[if_neg hc,List.lookup_cons,hx] at h'
    exact⟨k,by rw[List.lookup_cons,hx],.inl (Option.some.inj h').symm⟩
  | false =>
   have h2:(r.map fun (n,k)=>if (k == NameKind.free && env.scope.kind == .function && env.kindOf n == some .cell) then (n,NameKind.cell) else (n,k)).lookup x=some k':=by
    by_cases hc:(k == NameKind.free && env.scope.kind == .function && env.kindOf n == some .cell)=true
    ·rw[if_pos hc,List.lookup_cons,hx] at h';exact h'
    ·rw[if_neg hc,List.lookup_cons,hx] at h';exact h'
   obtain⟨k1,e,z⟩:=Hh h2
   exact⟨k1,by rw[List.lookup_cons,hx];exact e,z⟩
theorem vf {env:Env}:∀ {names:List (Str×NameKind)} {x:Str},names.lookup x=some .free →
  (names.map fun (n,k)=>if (k == NameKind.free && env.scope.kind == .function && env.kindOf n == some .cell) then (n,NameKind.cell) else (n,k)).lookup x=some .cell ∨
  (names.map fun (n,k)=>if (k == NameKind.free && env.scope.kind == .function && env.kindOf n == some .cell) then (n,NameKind.cell) else (n,k)).lookup x=some .free
 | [],_,h=>by simp at h
 | (n,k)::r,x,h=>by
  have ih:=@vf env r x
  show List.lookup x ((if (k == NameKind.free && env.scope.kind == .function && env.kindOf n == some .cell)=true then (n,NameKind.cell) else (n,k))::_)=_∨List.lookup x ((if (k == NameKind.free && env.scope.kind == .function && env.kindOf n == some .cell)=true then (n,NameKind.cell) else (n,k))::_)=_
  cases hx:x == n with
  | true =>
   rw[List.lookup_cons,hx] at h
   have hk:k = .free:=Option.some.inj h
   by_cases hc:(k == NameKind.free && env.scope.kind == .function && env.kindOf n == some .cell)=true
   ·left;rw[if_pos hc,List.lookup_cons,hx]
   ·right;rw[if_neg hc,List.lookup_cons,hx];simp only;rw[hk]
  | false =>
   rw[List.lookup_cons,hx] at h
   by_cases hc:(k == NameKind.free && env.scope.kind == .function && env.kindOf n == some .cell)=true
   ·rw[if_pos hc,List.lookup_cons,hx];exact ih h
   ·rw[if_neg hc,List.lookup_cons,hx];exact ih h
theorem mem_lookup {names:List (Str×NameKind)} {x:Str} {k:NameKind} (h:names.lookup x=some k):(x,k)∈names:=PySem.mem_of_lookup h
def csel (fm:List (Option Nat)) (σ : St):St:=fm.map fun o=>match o with | some j=>(σ[j]?).getD none | none=>none
theorem am0 {fm:List (Option Nat)} {σ : St} {i:Nat} {v:V} (h:(csel fm σ)[i]? = some (some v)):∃ j,fm[i]? = some (some j) ∧ σ[j]? = some (some v):=by
 unfold csel at h
 rw[List.getElem?_map] at h
 cases e:fm[i]? with
 | none=>rw[e] at h;cases h
 | some o =>
  rw[e] at h
  cases o with
  | none=>cases h
  | some j =>
   have h':some ((σ[j]?).getD none)=some (some v):=h
   have h2:=Option.some.inj h'
   cases e2 : σ[j]? with
   | none=>rw[e2] at h2;cases h2
   | some z=>rw[e2] at h2;have h3:z=some v:=h2;subst h3;exact⟨j,rfl,e2⟩
def Mw (XN:List Str) (names:List (Str×NameKind)):List Str→List (Option Nat)→Bool
 | [],[]=>true
 | _::N,none::fm=>Mw XN names N fm
 | x::N,some j::fm=>(XN[j]? == some x) && (names.lookup x == some .free) && Mw XN names N fm
 | _,_=>false
theorem Vv {XN:List Str} {names:List (Str×NameKind)}:∀ {N:List Str} {fm:List (Option Nat)},Mw XN names N fm=true→fm.length=N.length
 | [],[],_=>rfl
 | _::N,none::fm,h=>by rw[List.length_cons,List.length_cons,Vv (show Mw XN names N fm=true from h)]
 | x::N,some j::fm,h=>by
  have h':((XN[j]? == some x) && (names.lookup x == some .free) && Mw XN names N fm)=true:=h
  rw[Bool.and_eq_true] at h'
  rw[List.length_cons,List.length_cons,Vv h'.2]
 | [],_::_,h=>nomatch h
 | _::_,[],h=>nomatch h
theorem Zv {XN:List Str} {names:List (Str×NameKind)}:∀ {N:List Str} {fm:List (Option Nat)} {i j:Nat} {x:Str},Mw XN names N fm=true→N[i]? = some x→fm[i]? = some (some j)→XN[j]? = some x∧names.lookup x=some .free
 | [],[],i,j,x,_,h,_=>by simp at h
 | _::N,none::fm,0,j,x,h,h1,h2=>by simp at h2
 | _::N,none::fm,i+1,j,x,h,h1,h2=>Zv (show Mw XN names N fm=true from h) (by simpa using h1) (by simpa using h2)
 | y::N,some k::fm,0,j,x,h,h1,h2=>by
  have h':((XN[k]? == some y) && (names.lookup y == some .free) && Mw XN names N fm)=true:=h
  rw[Bool.and_eq_true,Bool.and_eq_true] at h'
  have e1:y=x:=by simpa using h1
  have e2:k=j:=by simpa using h2
  subst e1;subst e2
  exact⟨eq_of_beq h'.1.1,eq_of_beq h'.1.2⟩
 | y::N,some k::fm,i+1,j,x,h,h1,h2=>by
  have h':((XN[k]? == some y) && (names.lookup y == some .free) && Mw XN names N fm)=true:=h
  rw[Bool.and_eq_true] at h'
  exact Zv h'.2 (by simpa using h1) (by simpa using h2)
 | [],_::_,_,_,_,h,_,_=>nomatch h
 | _::_,[],_,_,_,h,_,_=>nomatch h
def ahr (scope xsc:Scope):Scope :=
 { scope with names:=scope.names.map fun (n,k)=>if (k == .free && xsc.kind == .function && xsc.names.lookup n == some .cell) then (n,.cell) else (n,k) }
structure wG (XN:List Str) (xsc:Scope) (N:List Str) (fm:List (Option Nat)) (scope:Scope):Prop where
 kind:scope.kind = .function
 cel:∀ y∈scope.names,y.2 = .cell→scope.names.lookup y.1=some .cell
 loc:∀ y∈scope.names,y.2 = .local→scope.names.lookup y.1=some .local
 free:∀ y∈scope.names,y.2 = .free→xsc.names.lookup y.1=some .cell∨xsc.names.lookup y.1=some .free
 sel:Mw XN scope.names N fm=true
 nd:N.Nodup
def cxC (X:Cx) (N:List Str) (scope:Scope) (cl:List (Str×Addr)) (C:Addr) (s:Shared) (H:Hp) (fp:List Addr):Cx where
 prog:=X.prog
 w:=X.w
 K:=X.K
 mg:=X.mg
 base:=X.base
 A:=X.A
 N:=N
 s₀:=s
 H₀:=H
 env:=compEnvC scope cl C X.env
 outer:=X.stack
 stack:=X.stack
 ex:=fp
 fn:=fun x=>scope.names.lookup x == some .cell
 calm:=true
 pn:=[]
 xe:=fun _ _=>False
theorem oW:∀ (names:List (Str×NameKind)) (n:Nat) (acc:List (Str×Addr)),cellsFrom n names acc=cellsFrom n names []++acc
 | [],_,_=>rfl
 | (x,k)::r,n,acc=>by
  unfold cellsFrom
  split
  ·rw[oW r (n+1) ((x,n)::acc),oW r (n+1) [(x,n)],List.append_assoc];rfl
  ·exact oW r n acc
theorem Ac:∀ (names:List (Str×NameKind)) (n:Nat) {x:Str} {c:Addr},(x,c)∈cellsFrom n names []→(x,NameKind.cell)∈names
 | [],_,_,_,h=>nomatch h
 | (y,k)::r,n,x,c,h=>by
  unfold cellsFrom at h
  split at h
  ·rename_i hk
   rw[oW] at h
   rcases List.mem_append.mp h with z | z
   ·exact List.mem_cons_of_mem _ (Ac r _ z)
   ·have z':(x,c)=(y,n):=by simpa using z
    cases z'
    rw[eq_of_beq hk];exact List.mem_cons_self
  ·exact List.mem_cons_of_mem _ (Ac r _ h)
theorem Pj {l₁ l₂ : List (Str×Addr)} {x:Str}:(l₁ ++ l₂).lookup x=(match l₁.lookup x with | some c=>some c | none=>l₂.lookup x):=by
 induction l₁ with
 | nil=>rfl
 | cons y r ih =>
  obtain⟨k,v⟩:=y
  rw[List.cons_append,List.lookup_cons,List.lookup_cons]
  cases x == k with
  | true=>rfl
  | false=>exact ih
structure Zw (X:Cx) (scope:Scope) (s:Shared) (h₁ : Heap) (cells:List (Str×Addr)):Prop where
 src:∀ x c,cells.lookup x=some c→(s.heap.objs.size<c∧h₁.IsCell c none)∨X.env.cells.lookup x=some c
 inj:∀ x y c,cells.lookup x=some c→cells.lookup y=some c→x=y
 has:∀ x,(scope.names.lookup x=some .cell∨scope.names.lookup x=some .free)→∃ c,cells.lookup x=some c
 cab:∀ x c,scope.names.lookup x=some .cell→cells.lookup x=some c→s.heap.objs.size≤c
 fr:∀ x c,scope.names.lookup x=some .free→cells.lookup x=some c→X.env.cells.lookup x=some c
theorem aof {M:Model} {A:Around} {E:Value→Shared→Prop} {s:Shared} {scope:Scope} {globals:Addr} {cl:List (Str×Addr)} {qual:Str} {env:Env} {Q:Env→Shared→Prop}
  (h:Q { scope:=scope,locals:=s.heap.objs.size,globals:=globals,cells:=cellsFrom (s.heap.objs.size+1) scope.names cl,qual:=qual,func:=none,code:=env.code,frame:=env.frame,builtins:=env.builtins }
   { s with heap:=pushCells (s.heap.push { cls:=.type "dict",data:=.dict #[] }) scope.names }) :
  wpAny M A (newFunctionEnv scope globals cl [] qual none .none (some env)) Q E s:=by
 simp only [newFunctionEnv,Option.isSome_some,if_true]
 refine wpAny_bind (wpAny_alloc ?_)
 refine wpAny_bind (wpAny_layCells _ (fun name kind cells=>by cases hkc:kind == NameKind.cell <;> simp [hkc]) _ _ _ _ ?_)
 rw[show({ s with heap:=s.heap.push { cls:=.type "dict",data:=.dict #[] } }:Shared).heap.objs.size=s.heap.objs.size+1 from Heap.size_push ..]
 rw[List.forIn_nil]
 exact wpAny_bind (wpAny_pure (wpAny_pure h))
theorem alG {X:Cx} {XN N:List Str} {fm:List (Option Nat)} {xsc scope:Scope} {cl:List (Str×Addr)} {s:Shared} (S:wG XN xsc N fm scope)
  (hin:∀ x y c,X.env.cells.lookup x=some c→X.env.cells.lookup y=some c→x=y) (hlt:∀ x c,X.env.cells.lookup x=some c→c<s.heap.objs.size)
  (hcl1:∀ x c,cl.lookup x=some c→X.env.cells.lookup x=some c) (hcl2:∀ y∈scope.names,y.2=NameKind.free→(cl.lookup y.1).isSome=true) :
  Zw X scope s (pushCells (s.heap.push { cls:=.type "dict",data:=.dict #[] }) scope.names) (cellsFrom (s.heap.objs.size+1) scope.names cl):=by
 have ok:=cellsFrom_ok scope.names (s.heap.push { cls:=.type "dict",data:=.dict #[] }) (s.heap.objs.size+1) [] ⟨fun _ _ hm=>(nomatch hm),List.Pairwise.nil⟩ (by rw[Heap.size_push];exact Nat.le_refl _)
 rw[Heap.size_push] at ok
 rw[oW]
 have new:∀ x c,(cellsFrom (s.heap.objs.size+1) scope.names []).lookup x=some c→s.heap.objs.size<c∧(pushCells (s.heap.push { cls:=.type "dict",data:=.dict #[] }) scope.names).IsCell c none∧scope.names.lookup x=some .cell:=fun x c e=>by
  have m:=PySem.mem_of_lookup e
  exact⟨(ok.empty x c m).2,(ok.empty x c m).1,S.cel (x,.cell) (Ac _ _ m) rfl⟩
 have two:∀ x c,((cellsFrom (s.heap.objs.size+1) scope.names [])++cl).lookup x=some c→(cellsFrom (s.heap.objs.size+1) scope.names []).lookup x=some c∨((cellsFrom (s.heap.objs.size+1) scope.names []).lookup x=none∧cl.lookup x=some c):=fun x c e=>by
  rw[Pj] at e
  cases q:(cellsFrom (s.heap.objs.size+1) scope.names []).lookup x with
  | some d=>rw[q] at e;exact .inl e
  | none=>rw[q] at e;exact .inr ⟨rfl,e⟩
 refine⟨fun x c e=>?_,fun x y c e1 e2=>?_,fun x hx=>?_,fun x c hx e=>?_,fun x c hx e=>?_⟩
 ·rcases two x c e with z | ⟨_,z⟩
  ·exact .inl ⟨(new x c z).1,(new x c z).2.1⟩
  ·exact .inr (hcl1 x c z)
 ·rcases two x c e1 with z | ⟨_,z⟩
  ·rcases two y c e2 with z' | ⟨_,z'⟩
   ·exact name_of_addr ok.apart (PySem.mem_of_lookup z) (PySem.mem_of_lookup z')
   ·exact absurd (Nat.lt_trans (hlt y c (hcl1 y c z')) (new x c z).1) (Nat.lt_irrefl _)
  ·rcases two y c e2 with z' | ⟨_,z'⟩
   ·exact absurd (Nat.lt_trans (hlt x c (hcl1 x c z)) (new y c z').1) (Nat.lt_irrefl _)
   ·exact hin x y c (hcl1 x c z) (hcl1 y c z')
 ·rcases hx with hx | hx
  ·have q:=W.cellsFrom_some scope.names (s.heap.objs.size+1) [] (x:=x) (.inl hx)
   obtain⟨c,e⟩:=Option.isSome_iff_exists.mp q
   exact⟨c,by rw[Pj,e]⟩
  ·obtain⟨c,e⟩:=Option.isSome_iff_exists.mp (hcl2 (x,.free) (mem_lookup hx) rfl)
   rw[Pj]
   cases q:(cellsFrom (s.heap.objs.size+1) scope.names []).lookup x with
   | some d=>exact⟨d,rfl⟩
   | none=>exact⟨c,e⟩
 ·rcases two x c e with z | ⟨z,_⟩
  ·exact Nat.le_of_lt (new x c z).1
  ·have q:=W.cellsFrom_some scope.names (s.heap.objs.size+1) [] (x:=x) (.inl hx)
   rw[z] at q;cases q
 ·rcases two x c e with z | ⟨_,z⟩
  ·have:=(new x c z).2.2
   rw[hx] at this;cases this
  ·exact hcl1 x c z
section
variable {X:Cx}
theorem apn {N:List Str} {fm:List (Option Nat)} {scope:Scope} {cells:List (Str×Addr)} {pins:List (Addr×Obj)} {σ : St} {H:Hp} {s:Shared} {fp:List Addr} {h₁ : Heap} (S:wG X.N X.env.scope N fm scope) (hc:X.calm=true)
  (I:Inv X pins σ H s) (L:Zw X scope s h₁ cells)
  (hfp:∀ b∈fp,FpOk X pins H b) (hfl:∀ b∈fp,b<s.heap.objs.size):(cxC X N scope cells s.heap.objs.size s H fp).Ok:=by
 refine⟨I.ok.mod,S.kind,I.ok.glob,I.ok.blt,Nat.le_refl _,L.inj,fun x hx=>?_,fun x c h e=>L.cab x c (eq_of_beq h) e,fun _=>I.ok.hd hc,I.ok.frames,.inl rfl,fun b hb=>?_,I.bs,Nat.le_trans I.ok.bsz I.sz,fun b o e hb=>?_,fun b hb hf=>?_,I.stack,fun b hb=>I.akE b hb⟩
 ·have hx':(∃ k',(relabel scope X.env).names.lookup x=some k'∧(k' = .cell∨k' = .free)):=by
   rcases hx with z | z
   ·exact⟨_,z,.inl rfl⟩
   ·exact⟨_,z,.inr rfl⟩
  obtain⟨k',e,hk⟩:=hx'
  obtain⟨k,e1,z⟩:=Hh e
  refine L.has x ?_
  rcases z with z | ⟨z,_⟩
  ·subst z
   rcases hk with hk | hk
   ·subst hk;exact .inl e1
   ·subst hk;exact .inr e1
  ·subst z;exact .inr e1
 ·refine⟨Nat.ne_of_lt (hfl b hb),fun x c e z=>?_⟩
  rcases L.src x c e with ⟨q,_⟩ | q
  ·exact absurd (Nat.lt_trans (Nat.lt_of_lt_of_eq q z) (hfl b hb)) (Nat.lt_irrefl _)
  ·exact(hfp b hb).2.2.2.2.1 x c q z
 ·obtain⟨_,_,_,h,_⟩:=hfp b hb
  rcases h with h | h
  ·exact I.ok.noex b o e h
  ·exact absurd (Nat.lt_of_lt_of_le (Heap.lt_size e) (Nat.le_trans I.ok.bsz h)) (Nat.lt_irrefl _)
 ·obtain⟨_,h1,h2,_⟩:=hfp b hb
  rcases List.mem_cons.mp (I.ajf b hf) with z | z
  ·exact h1 z
  ·exact h2 z
theorem aog {N:List Str} {fm:List (Option Nat)} {scope:Scope} {cells:List (Str×Addr)} {pins:List (Addr×Obj)} {σ : St} {H:Hp} {s:Shared} {fp:List Addr} {h₁ : Heap} {tk:Nat} {m:Str→Option Value} (S:wG X.N X.env.scope N fm scope) (hc:X.calm=true)
  (I:Inv X pins σ H s) (L:Zw X scope s h₁ cells)
  (hfp:∀ b∈fp,FpOk X pins H b) (hfl:∀ b∈fp,b<s.heap.objs.size) (hn:h₁.Ns s.heap.objs.size m) (hk:∀ b o,s.heap.get? b=some o→h₁.get? b=some o) :
  Inv (cxC X N scope cells s.heap.objs.size s H fp) [] (csel fm σ) H { s with heap:=h₁,toks:=tk }:=by
 have len:=Vv S.sel
 refine⟨apn S hc I L hfp hfl,rfl,I.bare,Un.kept hk,⟨m,hn,fun i x v e1 e2 e3=>?_⟩,fun x c e=>?_,I.hok.fresh (Nat.le_refl _),fun x c e=>?_,fun p hp=>absurd (show p∈([]:List (Addr×Obj)) from hp) (by simp),I.hok.kept hk,?_⟩
 ·obtain⟨j,f1,f2⟩:=am0 e2
  obtain⟨g1,g2⟩:=Zv S.sel e1 f1
  have hxf:=S.free (x,.free) (mem_lookup g2) rfl
  obtain⟨m0,_,hl⟩:=I.loc
  have hvis:Vis X.env.scope x:=by
   rcases hxf with z | z
   ·exact .inr (.inl z)
   ·exact .inr (.inr z)
  obtain⟨u,r,l⟩:=hl j x v g1 f2 hvis
  refine⟨u,r,.inr ⟨vf g2,?_⟩⟩
  obtain⟨c,ec⟩:=L.has x (.inr g2)
  refine⟨c,ec,?_⟩
  rcases l with ⟨k,_⟩ | ⟨_,c',e',z⟩
  ·have k':X.env.scope.names.lookup x=some .local:=k
   rcases hxf with q | q <;> (have q':X.env.scope.names.lookup x=_:=q;rw[k'] at q';cases q')
  ·have e3:=L.fr x c g2 ec
   rw[e'] at e3
   have e4:c' = c:=Option.some.inj e3
   subst e4
   obtain⟨o,ho,hd⟩:=z
   exact⟨o,hk _ _ ho,hd⟩
 ·rcases L.src x c e with ⟨_,q⟩ | q
  ·exact⟨_,q⟩
  ·obtain⟨v,o,ho,hd⟩:=I.cell x c q
   exact⟨v,o,hk _ _ ho,hd⟩
 ·rcases L.src x c e with ⟨q,_⟩ | q
  ·exact I.hok.fresh (Nat.le_of_lt q)
  ·exact I.Mv x c q
 ·show(csel fm σ).length=N.length
  unfold csel
  rw[List.length_map];exact len
def xY (J:It) (g:TG) (tt:TT) (te:TE) (Q:VK) (σ0:St) (H1:Hp) (D:Addr):Prop :=
 ∃ W:Nat→Nat→St→Hp→Prop,(∃ m,W 0 m σ0 (upd H1 D (.lst [])))∧∀ i m σ' H',W i m σ' H' →
  (J.stop i H'∧Q (.ref D) H')∨(J.go i H'∧∃ N:St→Hp→Prop,(∀ σ2 H2,N σ2 H2→∃ m',m'<m∧W (i+1) m' σ2 H2) ∧
   ∀ x H2,J.yld i H' x H2→g x σ' H2 fun σ3 H3=>tt σ3 H3 fun b H4=>if b=true then te σ3 H4 fun y H5=>∃ ys,H5 D=some (.lst ys)∧ys.length<sizeLine∧N σ3 (upd H5 D (.lst (ys++[y]))) else N σ3 H4)
def aoQ (fm:List (Option Nat)) (wi:TI) (g:TG) (tt:TT) (te:TE):TE:=fun σ H Q=>wi σ H fun J H1=>∀ D,H1 D=none→xY J g tt te Q (csel fm σ) H1 D
def PTs (X:Cx) (ifs:List Expr) (t:TT):Prop :=
 ∀ (pins:List (Addr×Obj)) (s:Shared) (σ : St) (H:Hp) (Q:Bool→Hp→Prop),Inv X pins σ H s→t σ H Q →
  wpAny (model X.prog X.w) X.A (forIn ifs true fun c r=>if r=true then do let ok ← isTrue c X.env (eval c X.env);pure (ForInStep.yield ok) else pure (ForInStep.yield r)) (TP X pins σ Q) X.xe s
def tYes:TT:=fun _ H Q=>Q true H
theorem cG:PTs X [] tYes:=fun _ _ _ H _ I h=>wpAny_tests_nil ⟨H,I,h⟩
theorem akO {c:Expr} {t:TT} (h:PT X c t):PTs X [c] t:=fun pins s σ H Q I q=>wpAny_tests_one (h pins s σ H Q I q)
theorem Zx {elt tg iter:Expr} {ifs:List Expr} {scope:Scope} {cl:List (Str×Addr)} {N:List Str} {fm:List (Option Nat)} {pos:Pos} {g:TG} {tt:TT} {te:TE} {pins:List (Addr×Obj)} {σ : St} {H1:Hp} {s₂ : Shared} {it:Addr} {fp:List Addr} {tn:Nat→Heap→Prop} {J:It} {Q:VK}
  {E:Value→Shared→Prop} {RR:Value→Addr→Result→Shared→Prop} (S:wG X.N X.env.scope N fm scope) (hc:X.calm=true) (hcl1:∀ x c,cl.lookup x=some c→X.env.cells.lookup x=some c) (hcl2:∀ y∈scope.names,y.2=NameKind.free→(cl.lookup y.1).isSome=true)
  (hg:∀ cl C s H fp,PG (cxC X N scope cl C s H fp) tg g) (ht:∀ cl C s H fp,PTs (cxC X N scope cl C s H fp) ifs tt) (he:∀ cl C s H fp,PE (cxC X N scope cl C s H fp) elt te)
  (I:Inv X pins σ H1 s₂) (T:Turn X.prog X.w X.K tg J fp it tn) (st:tn 0 s₂.heap) (hf:∀ b∈fp,FpOk X pins H1 b)
  (hq:∀ D,H1 D=none→xY J g tt te Q (csel fm σ) H1 D)
  (hRR:∀ D C s' H' m,Inv X pins σ H' s'→s'.heap.Ns C m→H' C=none→C≠X.env.locals→X.s₀.heap.objs.size≤C→(∀ x c,X.env.cells.lookup x=some c→c≠C)→(∀ p∈X.pn++pins,p.1≠C)→C∉X.fs→Q (.ref D) H'→RR (.ref D) C (.ok .next) s') :
  wpAny (model X.prog X.w) X.A (newList []) (fun acc s₃ => wpAny (model X.prog X.w) X.A (newFunctionEnv scope X.env.globals cl [] X.env.qual none .none (some X.env)) (fun cenv s₄ =>
   codeAny (model X.prog X.w) X.A (.compStart (.ListComp elt [⟨tg,iter,ifs,0⟩] scope pos) 0 (.ref it) acc { cenv with scope:=relabel scope X.env }) (RR acc cenv.locals) s₄) E s₃) E s₂:=by
 have hD:H1 s₂.heap.objs.size=none:=I.hok.fresh (Nat.le_refl _)
 obtain⟨W,⟨m0,w0⟩,turn⟩:=hq _ hD
 refine wpAny_newObj_type (aof ?_)
 have I3:Inv X pins σ (upd H1 s₂.heap.objs.size (.lst [])) { s₂ with heap:=s₂.heap.push { cls:=.type "list",data:=.seq ([]:List Value).toArray } }:=I.lnew (its:=[]) (t':=s₂.toks) .nil (Nat.zero_le _)
 have obj:=T.obj 0 _ st
 have fl:∀ b∈fp,b<s₂.heap.objs.size:=fun b hb=>by obtain⟨o,e,_⟩:=obj b hb;exact Heap.lt_size e
 have hf3:∀ b∈fp,FpOk X pins (upd H1 s₂.heap.objs.size (.lst [])) b:=fun b hb=>by
  obtain⟨q,r⟩:=hf b hb
  exact⟨by rw[aG (Nat.ne_of_lt (fl b hb))];exact q,r⟩
 have sz3:(s₂.heap.push { cls:=.type "list",data:=.seq ([]:List Value).toArray }).objs.size=s₂.heap.objs.size+1:=Heap.size_push ..
 have fl3:∀ b∈fp,b<(s₂.heap.push { cls:=.type "list",data:=.seq ([]:List Value).toArray }).objs.size:=fun b hb=>by rw[sz3];exact Nat.lt_succ_of_lt (fl b hb)
 have L:=alG (X:=X) (s:={ s₂ with heap:=s₂.heap.push { cls:=.type "list",data:=.seq ([]:List Value).toArray } }) S I.ok.inj (fun x c e=>by obtain⟨v,o,ho,_⟩:=I3.cell x c e;exact Heap.lt_size ho) hcl1 hcl2
 generalize hcells:cellsFrom ((s₂.heap.push { cls:=.type "list",data:=.seq ([]:List Value).toArray }).objs.size+1) scope.names cl=cells at L ⊢
 have hns₁ : (pushCells ((s₂.heap.push { cls:=.type "list",data:=.seq ([]:List Value).toArray }).push { cls:=.type "dict",data:=.dict #[] }) scope.names).Ns (s₂.heap.push { cls:=.type "list",data:=.seq ([]:List Value).toArray }).objs.size (fun _=>none) :=
  (Heap.Ns.new _ (.type "dict")).keeps (pushCells_keeps _ _)
 have kp:∀ b o,(s₂.heap.push { cls:=.type "list",data:=.seq ([]:List Value).toArray }).get? b=some o→(pushCells ((s₂.heap.push { cls:=.type "list",data:=.seq ([]:List Value).toArray }).push { cls:=.type "dict",data:=.dict #[] }) scope.names).get? b=some o:=fun b o e=>pushCells_keeps _ _ b o (Heap.get?_push_of_some _ e)
 generalize hh₁ : pushCells ((s₂.heap.push { cls:=.type "list",data:=.seq ([]:List Value).toArray }).push { cls:=.type "dict",data:=.dict #[] }) scope.names=h₁ at L hns₁ kp ⊢
 have J0:=aog (tk:=s₂.toks) S hc I3 L hf3 fl3 hns₁ kp
 have stat:∀ {H':Hp},(∀ b∈fp,H' b=none)→∀ b∈fp,FpOk (cxC X N scope cells (s₂.heap.push { cls:=.type "list",data:=.seq ([]:List Value).toArray }).objs.size { s₂ with heap:=s₂.heap.push { cls:=.type "list",data:=.seq ([]:List Value).toArray } } (upd H1 s₂.heap.objs.size (.lst [])) fp) [] H' b :=
  fun hn b hb=>⟨hn b hb,(J0.ok.exf b hb).1,J0.ok.exfs b hb,.inl hb,(J0.ok.exf b hb).2,fun p hp=>absurd (show p∈([]:List (Addr×Obj)) from hp) (by simp)⟩
 have st1:tn 0 h₁:=T.keep 0 _ _ st fun b hb o e=>kp b o (Heap.get?_push_of_some _ e)
 have loop:∀ s₃ : Shared,s₃ = { s₂ with heap:=h₁,toks:=s₂.toks } →
   codeAny (model X.prog X.w) X.A (.compLoop (.ListComp elt [⟨tg,iter,ifs,0⟩] scope pos) 0 (.ref it) (.ref s₂.heap.objs.size) (compEnvC scope cells (s₂.heap.push { cls:=.type "list",data:=.seq ([]:List Value).toArray }).objs.size X.env))
    (RR (.ref s₂.heap.objs.size) (s₂.heap.push { cls:=.type "list",data:=.seq ([]:List Value).toArray }).objs.size) s₃:=by
  rintro s₃ rfl
  generalize hX:cxC X N scope cells (s₂.heap.push { cls:=.type "list",data:=.seq ([]:List Value).toArray }).objs.size { s₂ with heap:=s₂.heap.push { cls:=.type "list",data:=.seq ([]:List Value).toArray } } (upd H1 s₂.heap.objs.size (.lst [])) fp=X' at J0 stat
  refine ahq (fun n s'=>∃ i σ' H',Inv X' [] σ' H' s'∧tn i s'.heap∧(∀ b∈fp,H' b=none)∧W i n σ' H') ?_ m0 ⟨0,_,_,J0,st1,fun b hb=>(hf3 b hb).1,w0⟩
  rintro n s3 ⟨i,σ3,H3,I3',st3,fr3,w3⟩
  rcases turn i n σ3 H3 w3 with ⟨stop,qn⟩ | ⟨go,Nx,hN,step⟩
  ·have hd:=T.done X' (by rw[← hX];rfl) (by rw[← hX];rfl) (by rw[← hX];rfl) (by rw[← hX];rfl) i [] s3 σ3 H3 (fun _ _=>False) I3' (stat fr3) st3 stop
   have hA:X'.A=X.A:=by rw[← hX];rfl
   rw[hA] at hd
   refine wpAny_mono hd (fun r s4 ⟨hr,I4⟩=>?_) fun _ _ z=>z
   subst hr
   show RR _ _ (.ok .next) s4
   subst hX
   obtain⟨m',hm',_⟩:=I4.loc
   refine hRR _ _ s4 H3 m' (I3.call' (ch:=fp) I4.os I4.base I4.hok I4.bare fun b hb=>?_) hm' I4.free ?_ ?_ ?_ ?_ ?_ qn
   ·obtain⟨_,f1,f2,f3,f4,f5⟩:=hf b hb
    exact⟨f3,f1,f4,f5⟩
   ·exact Nat.ne_of_gt (Nat.lt_of_lt_of_le I.lt (by rw[sz3];exact Nat.le_succ _))
   ·exact Nat.le_trans I.sz (by rw[sz3];exact Nat.le_succ _)
   ·intro x c e z
    obtain⟨v,o,ho,_⟩:=I3.cell x c e
    exact Nat.lt_irrefl _ (Nat.lt_of_lt_of_eq (Heap.lt_size ho) z.symm)
   ·intro p hp z
    have e:=(I3.pin p hp).1
    exact Nat.lt_irrefl _ (Nat.lt_of_lt_of_eq (Heap.lt_size e) z.symm)
   ·exact I3.nofs (Nat.le_refl _)
  ·have hi:=T.item X' (by rw[← hX];rfl) (by rw[← hX];rfl) (by rw[← hX];rfl) (by rw[← hX];rfl) i [] s3 σ3 H3 (fun _ _=>False) I3' (stat fr3) st3 go
   have hA:X'.A=X.A:=by rw[← hX];rfl
   have hP:X'.prog=X.prog:=by rw[← hX];rfl
   have hw':X'.w=X.w:=by rw[← hX];rfl
   have hE:X'.env=compEnvC scope cells (s₂.heap.push { cls:=.type "list",data:=.seq ([]:List Value).toArray }).objs.size X.env:=by rw[← hX];rfl
   have hxe:X'.xe=fun _ _=>False:=by rw[← hX];rfl
   rw[hA] at hi
   refine wpAny_mono hi (fun r s4 ⟨u,hr,h4⟩=>?_) fun _ _ z=>z
   subst hr
   refine wpAny_mono h4 (fun _ s5 ⟨x,H5,I5,r5,y5,st5,fr5⟩=>?_) fun _ _ z=>z
   have I5':=I5.pinned (stat fr5) (T.obj _ _ st5)
   have q1:=(by rw[← hX];exact hg _ _ _ _ _:PG X' tg g) _ s5 σ3 H5 x u _ I5' r5 (step x H5 y5)
   rw[hP,hw',hA,hE,hxe] at q1
   refine wpAny_mono q1 (fun _ s6 ⟨σ6,H6,I6,q6⟩=>?_) fun _ _ z=>z
   have q2:=(by rw[← hX];exact ht _ _ _ _ _:PTs X' ifs tt) _ s6 σ6 H6 _ I6 q6
   rw[hP,hw',hA,hE,hxe] at q2
   refine wpAny_mono q2 (fun ok s7 ⟨H7,I7,q7⟩=>?_) fun _ _ z=>z
   have again:∀ {s8:Shared} {σ8:St} {H8:Hp},Inv X' ([]++Zm fp s5.heap) σ8 H8 s8→Nx σ8 H8→∃ m,m<n∧∃ i σ' H',Inv X' [] σ' H' s8∧tn i s8.heap∧(∀ b∈fp,H' b=none)∧W i m σ' H':=fun {s8 σ8 H8} I8 n8=>by
    obtain⟨m',hm,w8⟩:=hN σ8 H8 n8
    refine⟨m',hm,i+1,σ8,H8,I8.Hf,T.keep _ _ _ st5 fun b hb o e=>(I8.pin (b,o) (List.mem_append_right _ (List.mem_append_right _ (CT hb e)))).1,fun b hb=>?_,w8⟩
    obtain⟨o,e,d⟩:=T.obj _ _ st5 b hb
    exact(I8.pin (b,o) (List.mem_append_right _ (List.mem_append_right _ (CT hb e)))).2.1
   cases ok with
   | false=>exact again I7 q7
   | true =>
    have q3:=(by rw[← hX];exact he _ _ _ _ _:PE X' elt te) _ s7 σ6 H7 _ I7 q7
    rw[hP,hw',hA,hE,hxe] at q3
    refine wpAny_mono q3 (fun z s8 ⟨y,H8,I8,r8,ys,e8,l8,n8⟩=>?_) fun _ _ z=>z
    have q4:=ad0 (X:=X') _ s8 σ6 H8 (.ref s₂.heap.objs.size) [y] (.ref s₂.heap.objs.size) [z] (fun v H'=>Nx σ6 H') I8 rfl (.cons r8 .nil) ⟨_,ys,y,rfl,rfl,e8,l8,n8⟩
    rw[hP,hw',hA,hxe] at q4
    exact wpAny_mono q4 (fun _ s9 ⟨_,H9,I9,_,n9⟩=>again I9 n9) fun _ _ z=>z
 exact codeAny_compStart_list (loop _ rfl) (T.self _ 0 _ _ _ st1 (loop _ rfl))
theorem cP {elt tg iter:Expr} {ifs:List Expr} {scope:Scope} {pos:Pos} {wi:TI} {g:TG} {tt:TT} {te:TE} (XN:List Str) (xsc:Scope) (N:List Str) (fm:List (Option Nat)) (S:wG XN xsc N fm scope) (hc:X.calm=true) (hi:PI X tg iter wi)
  (hg:∀ cl C s H fp,PG (cxC X N scope cl C s H fp) tg g) (ht:∀ cl C s H fp,PTs (cxC X N scope cl C s H fp) ifs tt) (he:∀ cl C s H fp,PE (cxC X N scope cl C s H fp) elt te)
  (hXN:X.N=XN:=by rfl) (hXs:X.env.scope=xsc:=by rfl) (hs:∀ x,foldedSetIterable iter X.env x=pure x:=by intro _;rfl):PE X (.ListComp elt [⟨tg,iter,ifs,0⟩] scope pos) (aoQ fm wi g tt te):=by
 intro pins s σ H Q I h
 subst hXN hXs
 obtain⟨cl,hclos,hcl1,hcl2⟩:=akN (scope:=scope) (env:=X.env) fun y hy hf=>I.ok.has y.1 (S.free y hy hf)
 rw[eval_ListComp]
 refine wpAny_comprehension_free (use:=none) rfl hs hclos S.kind S.loc (thn (hi pins s σ H _ I h) fun xv s₁ h₁ => thn h₁ fun itv s₂ h₂ => ?_)
 obtain⟨it,fp,tn,J,H1,e,I2,T,st,hf,hq⟩:=h₂
 subst e
 refine Zx (RR:=fun acc C=>compPost (model X.prog X.w) X.A X.xe none (EP X pins σ Q) acc C) S hc hcl1 hcl2 hg ht he I2 T st hf hq ?_
 intro D C s' H' m I' hn hC hL hC0 hcc hpp hfs q
 refine⟨m,hn,fun h' hs'=>⟨.ref D,H',?_,rfl,q⟩⟩
 exact I'.turned (t':=s'.toks) (it:=C) (fun b o hb e=>hs'.extBut b o hb e) hC hL (.inr hC0) hcc hpp
theorem Ri {i:Nat} {y:Str} {elt tg iter:Expr} {ifs:List Expr} {scope:Scope} {pos spos py:Pos} {wi:TI} {g:TG} {tt:TT} {te:TE} (XN:List Str) (xsc:Scope) (N:List Str) (fm:List (Option Nat)) (S:wG XN xsc N fm scope) (hc:X.calm=true)
  (hN:X.N.Nodup) (hiy:X.N[i]? = some y) (hy:X.env.scope.names.lookup y=some .local) (hi:PI X tg iter wi)
  (hg:∀ cl C s H fp,PG (cxC X N scope cl C s H fp) tg g) (ht:∀ cl C s H fp,PTs (cxC X N scope cl C s H fp) ifs tt) (he:∀ cl C s H fp,PE (cxC X N scope cl C s H fp) elt te)
  (hXN:X.N=XN:=by rfl) (hXs:X.env.scope=xsc:=by rfl) (hs:∀ x,foldedSetIterable iter X.env x=pure x:=by intro _;rfl)
  (hsw:swapsWith (.ListComp elt [⟨tg,iter,ifs,0⟩] scope pos) (some (.Name y py)) spos.line X.env=pure true:=by rfl) :
  PS X (.Assign [.Name y py] (.ListComp elt [⟨tg,iter,ifs,0⟩] scope pos) spos) (tAsg (aoQ fm wi g tt te) (Wz i)):=by
 intro pins s σ H D I h
 subst hXN hXs
 obtain⟨cl,hclos,hcl1,hcl2⟩:=akN (scope:=scope) (env:=X.env) fun y hy hf=>I.ok.has y.1 (S.free y hy hf)
 rw[exec_Assign_Name_used _ _ _ _ hsw]
 refine wpAny_bind (wpAny_standAt (wpAny_bind ?_))
 show wpAny _ X.A (do let _ ← comprehension (.ListComp elt [⟨tg,iter,ifs,0⟩] scope pos) scope X.env _ (newList []) false (eval iter X.env) (some (assign (.Name y py) X.env))) _ _ s
 refine wpAny_bind (wpAny_mono (wpAny_comprehension_free (use:=some (assign (.Name y py) X.env)) (Q:=fun _ s'=>SP X pins D .next s') rfl hs hclos S.kind S.loc
  (thn (hi pins s σ H _ I h) fun xv s₁ h₁ => thn h₁ fun itv s₂ h₂ => ?_)) (fun _ s' hq=>wpAny_pure (wpAny_pure hq)) fun _ _ e=>e)
 obtain⟨it,fp,tn,J,H1,e,I2,T,st,hf,hq⟩:=h₂
 subst e
 refine Zx (Q:=fun x H1=>Wz i x σ H1 D.nx) (RR:=fun acc C=>compPost (model X.prog X.w) X.A X.xe (some (assign (.Name y py) X.env)) (fun _ s'=>SP X pins D .next s') acc C) S hc hcl1 hcl2 hg ht he I2 T st hf hq ?_
 intro D' C s' H' m I' hn hC hL hC0 hcc hpp hfs q
 show wpAny _ X.A (assign (.Name y py) X.env (.ref D')) _ _ _
 obtain⟨oC,es,ep,hoC,hdC,hrC⟩:=id hn
 have Ip:Inv X (pins++[(C,oC)]) σ H' s':=I'.aeP fun p hp=>by
  rcases List.mem_append.mp hp with z | z
  ·exact I'.pin p (List.mem_append_right _ z)
  ·have z':p=(C,oC):=by simpa using z
   subst z'
   exact⟨hoC,hC,hL,hfs,fun v z=>by rw[hdC] at z;cases z⟩
 refine wpAny_assign_Name (G7 Ip hN hiy (.inl hy) (v:=.ref D') rfl (fun s2 I3=>?_) (.inr hy))
 have hC2:=(I3.pin (C,oC) (List.mem_append_right _ (List.mem_append_right _ (by simp))))
 refine⟨m,⟨oC,es,ep,hC2.1,hdC,hrC⟩,fun h' hs'=>⟨_,H',?_,q⟩⟩
 exact I3.Hf.turned (t':=s2.toks) (it:=C) (fun b o hb e=>hs'.extBut b o hb e) hC hL (.inr hC0) hcc hpp
end
end L2
namespace L2
open PySem PySem.Spec PyProof.Rows
def CN (σ0:St) (D:Addr) (Pv:Nat→List V→Hp→Prop) (i:Nat):St→Hp→Prop:=fun σ H=>(∃ v,σ = σ0.set 0 v)∧∃ ys,H D=some (.lst ys)∧Pv i ys H
def CE1 (σ0:St) (D:Addr) (Pv:Nat→List V→Hp→Prop) (i:Nat) (σ : St):VK:=fun y H=>∃ ys,H D=some (.lst ys)∧ys.length<sizeLine∧CN σ0 D Pv i σ (upd H D (.lst (ys++[y])))
theorem CE1.mk {σ0:St} {D:Addr} {Pv:Nat→List V→Hp→Prop} {i:Nat} {v:Option V} {y:V} {H:Hp} {ys:List V} (hD:H D=some (.lst ys)) (hl:ys.length<sizeLine) (h:Pv i (ys++[y]) (upd H D (.lst (ys++[y])))):CE1 σ0 D Pv i (σ0.set 0 v) y H :=
 ⟨ys,hD,hl,⟨v,rfl⟩,_,au,h⟩
theorem CN.mk {σ0:St} {D:Addr} {Pv:Nat→List V→Hp→Prop} {i:Nat} {v:Option V} {H:Hp} {ys:List V} (hD:H D=some (.lst ys)) (h:Pv i ys H):CN σ0 D Pv i (σ0.set 0 v) H:=⟨⟨v,rfl⟩,ys,hD,h⟩
theorem cO {K:W.Frag} {a D:Addr} {xs:List V} {tt:TT} {te:TE} {σ0:St} {H1:Hp} {Q:VK} (Pv:Nat→List V→Hp→Prop) (h0:Pv 0 [] (upd H1 D (.lst [])))
  (hl:∀ i ys H,i≤xs.length→Pv i ys H→SqL K H a xs)
  (hs:∀ i x ys H,xs[i]? = some x→Pv i ys H→H D=some (.lst ys)→tt (σ0.set 0 (some x)) H fun b H4=>if b=true then te (σ0.set 0 (some x)) H4 (CE1 σ0 D Pv (i+1) (σ0.set 0 (some x))) else CN σ0 D Pv (i+1) (σ0.set 0 (some x)) H4)
  (hd:∀ ys H,Pv xs.length ys H→H D=some (.lst ys)→Q (.ref D) H) :
  xY (Itl K a) (Wz 0) tt te Q σ0 H1 D:=by
 refine⟨fun i m σ H=>m=xs.length - i∧i≤xs.length∧(σ = σ0 ∨ ∃ v,σ = σ0.set 0 v)∧∃ ys,H D=some (.lst ys)∧Pv i ys H,⟨xs.length,by simp,Nat.zero_le _,.inl rfl,[],au,h0⟩,?_⟩
 rintro i m σ H ⟨rfl,hi,hσ,ys,hD,p⟩
 have q:=hl i ys H hi p
 by_cases hlt:i<xs.length
 ·refine .inr ⟨⟨xs,xs[i],q,by simp [hlt]⟩,CN σ0 D Pv (i+1),fun σ' H' ⟨a1,a2⟩=>⟨xs.length - (i+1),by omega,rfl,hlt,.inr a1,a2⟩,fun x H' y=>?_⟩
  obtain⟨e,y⟩:=y
  subst e
  have hx:=y xs q
  have eσ : σ.set 0 (some x) = σ0.set 0 (some x):=by
   rcases hσ with rfl | ⟨v,rfl⟩
   ·rfl
   ·rw[List.set_set]
  show tt (σ.set 0 (some x)) _ _
  rw[eσ]
  exact hs i x ys _ hx p hD
 ·have e:i=xs.length:=by omega
  subst e
  exact .inl ⟨⟨xs,q,Nat.le_refl _⟩,hd ys H p hD⟩
theorem jm {D:Addr} {lo:Int} {n:Nat} {tt:TT} {te:TE} {σ0:St} {H1:Hp} {Q:VK} (Pv:Nat→List V→Hp→Prop) (h0:Pv 0 [] (upd H1 D (.lst [])))
  (hs:∀ i ys H,i<n→Pv i ys H→H D=some (.lst ys)→tt (σ0.set 0 (some (.int (lo+i)))) H fun b H4=>if b=true then te (σ0.set 0 (some (.int (lo+i)))) H4 (CE1 σ0 D Pv (i+1) (σ0.set 0 (some (.int (lo+i))))) else CN σ0 D Pv (i+1) (σ0.set 0 (some (.int (lo+i)))) H4)
  (hd:∀ ys H,Pv n ys H→H D=some (.lst ys)→Q (.ref D) H) :
  xY (Itr lo n) (Wz 0) tt te Q σ0 H1 D:=by
 refine⟨fun i m σ H=>m=n - i∧i≤n∧(σ = σ0 ∨ ∃ v,σ = σ0.set 0 v)∧∃ ys,H D=some (.lst ys)∧Pv i ys H,⟨n,by simp,Nat.zero_le _,.inl rfl,[],au,h0⟩,?_⟩
 rintro i m σ H ⟨rfl,hi,hσ,ys,hD,p⟩
 by_cases hlt:i<n
 ·refine .inr ⟨hlt,CN σ0 D Pv (i+1),fun σ' H' ⟨a1,a2⟩=>⟨n - (i+1),by omega,rfl,hlt,.inr a1,a2⟩,fun x H' y=>?_⟩
  obtain⟨e,y⟩:=y
  subst e y
  have eσ : σ.set 0 (some (.int (lo+i))) = σ0.set 0 (some (.int (lo+i))):=by
   rcases hσ with rfl | ⟨v,rfl⟩
   ·rfl
   ·rw[List.set_set]
  show tt (σ.set 0 (some (.int (lo+i)))) _ _
  rw[eσ]
  exact hs i ys _ hlt p hD
 ·have e:i=n:=by omega
  subst e
  exact .inl ⟨Nat.le_refl _,hd ys H p hD⟩
theorem dF {σ : St} {H:Hp} {A B:Hp→Prop} (h:A H):tYes σ H (fun b H4=>if b=true then A H4 else B H4):=by
 show(if true=true then A H else B H)
 rw[if_pos rfl];exact h
section
variable {X:Cx}
theorem range_all:∀ (bs:List Bool),(List.range bs.length).all (fun i=>(bs[i]?).getD true)=bs.all id:=by
 intro bs
 rw[Bool.eq_iff_iff,List.all_eq_true,List.all_eq_true]
 constructor
 ·intro h b hb
  obtain⟨i,hi,e⟩:=List.mem_iff_getElem.mp hb
  have:=h i (List.mem_range.mpr hi)
  rw[List.getElem?_eq_getElem hi,e] at this
  exact this
 ·intro h i hi
  have hi:=List.mem_range.mp hi
  rw[List.getElem?_eq_getElem hi]
  exact h _ (List.getElem_mem hi)
theorem range_any:∀ (bs:List Bool),(List.range bs.length).any (fun i=>(bs[i]?).getD false)=bs.any id:=by
 intro bs
 rw[Bool.eq_iff_iff,List.any_eq_true,List.any_eq_true]
 constructor
 ·rintro ⟨i,hi,e⟩
  have hi:=List.mem_range.mp hi
  rw[List.getElem?_eq_getElem hi] at e
  exact⟨_,List.getElem_mem hi,e⟩
 ·rintro ⟨b,hb,e⟩
  obtain⟨i,hi,e2⟩:=List.mem_iff_getElem.mp hb
  refine⟨i,List.mem_range.mpr hi,?_⟩
  rw[List.getElem?_eq_getElem hi,e2]
  exact e
theorem aeZ {bs:List Bool} {its:List Value} (r:Vals (bs.map V.bl) its) {i:Nat} {v:Value} (h:its[i]? = some v):∃ b,bs[i]? = some b∧v = .bool b:=by
 have hl:=r.length
 rw[List.length_map] at hl
 have hi:i<bs.length:=by
  have:=(List.getElem?_eq_some_iff.mp h).1
  omega
 have e:(bs.map V.bl)[i]? = some (.bl bs[i]):=by rw[List.getElem?_map,List.getElem?_eq_getElem hi];rfl
 obtain⟨u,h1,h2⟩:=r.get e
 rw[h] at h1
 have e2:v=u:=Option.some.inj h1
 subst e2
 exact⟨bs[i],List.getElem?_eq_getElem hi,h2⟩
theorem am1 (hc:X.calm=true):mK X (.builtin "all") (fun xs H Q=>∃ (p:Addr) (bs:List Bool),xs = [.ref p]∧SqL X.K H p (bs.map V.bl)∧Q (.bl (bs.all id)) H):=by
 intro pins s σ H xs us Q I r h
 obtain⟨p,bs,rfl,hq,q⟩:=h
 obtain⟨u,rfl,rx⟩:=vals1 r
 cases rx
 obtain⟨its,rv,pl,hz⟩:=I.list hq
 have hl:=pl.isList
 have hlt:p<s.heap.objs.size:=by obtain⟨_,e,_⟩:=hl;exact Heap.lt_size e
 have hlen:=rv.length
 rw[List.length_map] at hlen
 refine call_all_walk (wpAny_pyIter_list hl ?_)
 refine⟨s.heap.objs.size,_,_,_,_,_,fun i=>(bs[i]?).getD true,rfl,Walks.list (A:=X.A.in1) (show X.A.handled=none from I.ok.hd hc) s.heap.objs.size p (Nat.ne_of_lt hlt) its.toArray,⟨⟨_,Heap.get?_push_size _ rfl,rfl,rfl⟩,hl.push _⟩,?_,?_⟩
 ·intro i v s' Q' E' hP hQ
  have hP':its[i]? = some v:=by simpa using hP
  obtain⟨b,e,rfl⟩:=aeZ rv hP'
  dsimp only at hQ
  rw[e] at hQ
  exact wpAny_truthy_bool hQ
 ·intro h' tk hk
  have I1:Inv X pins σ H { s with heap:=s.heap.push { cls:=.type "list_iterator",data:=.fields #[.ref p,.int 0 0] } }:=I.kept (t':=s.toks) fun b o e=>Heap.get?_push_of_some _ e
  have fo:=I.fpOk (b:=s.heap.objs.size) (Nat.le_refl _) (I.hok.fresh (Nat.le_refl _))
  obtain⟨f0,f1,f2,f3,f4,f5⟩:=fo
  refine⟨.bl (bs.all id),H,I1.turned (t':=tk) (it:=s.heap.objs.size) (fun b o hb e=>hk b o (by simpa using hb) e) f0 f1 f3 f4 f5,?_,q⟩
  show Value.bool _=Value.bool _
  rw[List.size_toArray,← hlen,range_all]
theorem am2 (hc:X.calm=true):mK X (.builtin "any") (fun xs H Q=>∃ (p:Addr) (bs:List Bool),xs = [.ref p]∧SqL X.K H p (bs.map V.bl)∧Q (.bl (bs.any id)) H):=by
 intro pins s σ H xs us Q I r h
 obtain⟨p,bs,rfl,hq,q⟩:=h
 obtain⟨u,rfl,rx⟩:=vals1 r
 cases rx
 obtain⟨its,rv,pl,hz⟩:=I.list hq
 have hl:=pl.isList
 have hlt:p<s.heap.objs.size:=by obtain⟨_,e,_⟩:=hl;exact Heap.lt_size e
 have hlen:=rv.length
 rw[List.length_map] at hlen
 refine call_any_walk (wpAny_pyIter_list hl ?_)
 refine⟨s.heap.objs.size,_,_,_,_,_,fun i=>(bs[i]?).getD false,rfl,Walks.list (A:=X.A.in1) (show X.A.handled=none from I.ok.hd hc) s.heap.objs.size p (Nat.ne_of_lt hlt) its.toArray,⟨⟨_,Heap.get?_push_size _ rfl,rfl,rfl⟩,hl.push _⟩,?_,?_⟩
 ·intro i v s' Q' E' hP hQ
  have hP':its[i]? = some v:=by simpa using hP
  obtain⟨b,e,rfl⟩:=aeZ rv hP'
  dsimp only at hQ
  rw[e] at hQ
  exact wpAny_truthy_bool hQ
 ·intro h' tk hk
  have I1:Inv X pins σ H { s with heap:=s.heap.push { cls:=.type "list_iterator",data:=.fields #[.ref p,.int 0 0] } }:=I.kept (t':=s.toks) fun b o e=>Heap.get?_push_of_some _ e
  have fo:=I.fpOk (b:=s.heap.objs.size) (Nat.le_refl _) (I.hok.fresh (Nat.le_refl _))
  obtain⟨f0,f1,f2,f3,f4,f5⟩:=fo
  refine⟨.bl (bs.any id),H,I1.turned (t':=tk) (it:=s.heap.objs.size) (fun b o hb e=>hk b o (by simpa using hb) e) f0 f1 f3 f4 f5,?_,q⟩
  show Value.bool _=Value.bool _
  rw[List.size_toArray,← hlen,range_any]
def rIsi (K:W.Frag):List V→Hp→VK→Prop:=fun xs H Q=>∃ x t n b,xs = [x,.ty n]∧TyOf K H x t∧W.kitOne K t (.type n)=some b∧Q (.bl b) H
theorem ahs:mK X (.builtin "isinstance") (rIsi X.K):=by
 intro pins s σ H xs us Q I r h
 obtain⟨x,t,n,b,rfl,ty,e,q⟩:=h
 obtain⟨u,c,rfl,rx,rc⟩:=vals2 r
 obtain rfl:c=Value.type n:=rc
 exact adV I rx ty e fun tk=>⟨.bl b,H,I.tok tk,rfl,q⟩
end
section
variable {X:Cx} {a b o e l:Expr} {es:List Expr} {ta tl:TE} {t:TA} {pos apos cpos:Pos} {f:Str}
theorem bQ (K:W.Frag) (h:X.K=K:=by rfl):IxR X (rIxT K):=by subst h;exact apj
theorem aN (K:W.Frag) (h:X.K=K:=by rfl):IxR X (rIxL K):=by subst h;exact aob
theorem d7 (K:W.Frag) (h:X.K=K:=by rfl):mK X (.builtin "isinstance") (rIsi K):=by subst h;exact ahs
def rLen (K:W.Frag):List V→Hp→VK→Prop:=fun xs H Q=>∃ p ys,xs = [.ref p]∧(SqL K H p ys∨SqT K H p ys)∧Q (.int ys.length) H
theorem bM (K:W.Frag) (h:X.K=K:=by rfl):mK X (.builtin "len") (rLen K):=by subst h;exact aeW
def ap5 (K:W.Frag):List V→Hp→VK→Prop:=fun xs H Q=>∃ p ys,xs = [.ref p]∧(SqL K H p ys∨SqT K H p ys)∧∀ l,H l=none→Q (.ref l) (upd H l (.lst ys))
theorem cg (K:W.Frag) (h:X.K=K:=by rfl):mK X (.type "list") (ap5 K):=by subst h;exact aeX
def apo (K:W.Frag):List V→Hp→VK→Prop:=fun xs H Q=>∃ p ys,xs = [.ref p]∧((SqL K H p ys∧∀ l,H l=none→Q (.ref l) (upd H l (.tup ys)))∨(SqT K H p ys∧Q (.ref p) H))
theorem aht (K:W.Frag) (h:X.K=K:=by rfl):mK X (.type "tuple") (apo K):=by subst h;exact acK
def rAll (K:W.Frag):List V→Hp→VK→Prop:=fun xs H Q=>∃ (p:Addr) (bs:List Bool),xs = [.ref p]∧SqL K H p (bs.map V.bl)∧Q (.bl (bs.all id)) H
theorem lK (K:W.Frag) (hc:X.calm=true) (h:X.K=K:=by rfl):mK X (.builtin "all") (rAll K):=by subst h;exact am1 hc
def rAny (K:W.Frag):List V→Hp→VK→Prop:=fun xs H Q=>∃ (p:Addr) (bs:List Bool),xs = [.ref p]∧SqL K H p (bs.map V.bl)∧Q (.bl (bs.any id)) H
theorem alH (K:W.Frag) (hc:X.calm=true) (h:X.K=K:=by rfl):mK X (.builtin "any") (rAny K):=by subst h;exact am2 hc
theorem apq (K:W.Frag) (h:X.K=K:=by rfl):OpR X (compareOp .In) (rIn K false):=by subst h;exact alC
theorem bI (K:W.Frag) {tg:Expr} (hl:PE X l tl) (h:X.K=K:=by rfl):PI X tg l (aoN K tl):=by subst h;exact an5 hl
theorem qH (K:W.Frag) {ts:List Expr} {k:Nat} {t:TGs} {n:Nat} (hc:X.calm=true) (hg:PGs X ts t) (h:X.K=K:=by rfl)
  (hn:(assignEach ts X.env).length=n:=by rfl) (hst:(assignEach ts X.env).findIdx? (·.1)=none:=by rfl):PG X (.Tuple ts k pos) (gTup K n t):=by subst h;exact apb hc hg hn hst
theorem aR (K:W.Frag) (he:PE X e ta) (h:X.K=K:=by rfl) (hb:attributeBase e f X.env (eval e X.env)=eval e X.env:=by rfl):PE X (.Attribute e f pos) (tFld K ta f):=by subst h;exact apf he hb
theorem jY (K:W.Frag) {value:Expr} {tv:TE} {pos':Pos} (ha:PE X o ta) (hv:PE X value tv) (h:X.K=K:=by rfl) (hs:swapsWith value (some (.Attribute o f pos')) pos.line X.env=pure false:=by rfl):PS X (.Assign [.Attribute o f pos'] value pos) (sFld K ta tv f):=by subst h;exact apg ha hv hs
theorem cF (K:W.Frag) {to:TE} (ho:PE X o to) (ha:PA X [e] t) (h:X.K=K:=by rfl) (hbase:attributeBase o "append" X.env (eval o X.env)=eval o X.env:=by rfl)
  (hfew:((backTo cpos (starEach [e] X.env)).all (fun x => !x.1) && (backToKw cpos (keywordEach [] X.env)).all (fun x=>x.1.isSome)
   && decide ([e].length+([]:List Keyword).length+(if ([]:List Keyword).isEmpty then 0 else 1) < 30))=true:=by rfl)
  (hline:(apos.endLine == cpos.line)=true:=by rfl) (hs:starEach [e] X.env=(false,eval e X.env)::starEach [] X.env:=by rfl) (hplain:(backTo cpos (starEach [] X.env)).any (·.1)=false:=by rfl) :
  PE X (.Call (.Attribute o "append" apos) [e] [] cpos) (tBM K "list" akK to t):=by subst h;exact amU PySem.F.plainAttrs_list PySem.F.slot_list_append PySem.F.type_list_append ad0 ho ha hbase hfew hline hs hplain
theorem Vw (K:W.Frag) (ha:PE X a ta) (h:X.K=K:=by rfl) (he:∀ whole,isTrue a X.env whole=(do let v ← whole;standAt a.pos;holding [v] (truthy v)):=by intro _;rfl) :
  PT X a (fun σ H Q=>ta σ H fun x H'=>∃ k,TruV K x H' k∧Q k H'):=by subst h;exact amO ha he
end
mutual
inductive Dt (H:Hp):V→PyData→Prop
 | non:Dt H .non .none
 | bl (b:Bool):Dt H (.bl b) (.bool b)
 | int (i:Int):Dt H (.int i) (.int i)
 | str (x:Str):Dt H (.str x) (.str x)
 | lst {a:Addr} {xs:List V} {ds:List PyData}:H a=some (.lst xs)→Dts H xs ds→Dt H (.ref a) (.list ds)
 | tup {a:Addr} {xs:List V} {ds:List PyData}:H a=some (.tup xs)→Dts H xs ds→Dt H (.ref a) (.tuple ds)
inductive Dts (H:Hp):List V→List PyData→Prop
 | nil:Dts H [] []
 | cons {x:V} {xs:List V} {d:PyData} {ds:List PyData}:Dt H x d→Dts H xs ds→Dts H (x::xs) (d::ds)
end
mutual
theorem Dt.same {H H':Hp} (e:Same H H'):∀ {v:V} {d:PyData},Dt H v d→Dt H' v d
 | _,_,.non=>.non
 | _,_,.bl b=>.bl b
 | _,_,.int i=>.int i
 | _,_,.str x=>.str x
 | _,_,.lst h ds=>.lst (e _ _ h) (Dts.same e ds)
 | _,_,.tup h ds=>.tup (e _ _ h) (Dts.same e ds)
theorem Dts.same {H H':Hp} (e:Same H H'):∀ {vs:List V} {ds:List PyData},Dts H vs ds→Dts H' vs ds
 | _,_,.nil=>.nil
 | _,_,.cons h t=>.cons (Dt.same e h) (Dts.same e t)
end
mutual
theorem Dt.reads {P:Program} {w:World} {H:Hp} {h:Heap} (ok:HOk P w H h):∀ {v:V} {d:PyData} {u:Value},Dt H v d→RelV v u→∃ as,Reads h u d as
 | _,_,u,.non,r=>by cases (show u=Value.none from r);exact⟨_,.none⟩
 | _,_,u,.bl b,r=>by cases (show u=Value.bool b from r);exact⟨_,.bool b⟩
 | _,_,u,.int i,r=>by obtain⟨t,rfl⟩:=(show ∃ t,u=Value.int i t from r);exact⟨_,.int i t⟩
 | _,_,u,.str x,r=>by obtain⟨t,rfl⟩:=(show ∃ t,u=Value.str x t from r);exact⟨_,.str x t⟩
 | _,_,u,.lst (a:=a) (xs:=xs) e ds,r=>by
  cases (show u=Value.ref a from r)
  obtain⟨_,its,n,rv,e1⟩:=(show jl P w H h a (.lst xs) from ok a _ e)
  obtain⟨as,ra⟩:=Dts.reads ok ds rv
  exact⟨_,.list e1 rfl rfl (by simpa using ra)⟩
 | _,_,u,.tup (a:=a) (xs:=xs) e ds,r=>by
  cases (show u=Value.ref a from r)
  obtain⟨_,its,rv,ob,e1,hc,n,hd⟩:=(show jl P w H h a (.tup xs) from ok a _ e)
  obtain⟨as,ra⟩:=Dts.reads ok ds rv
  exact⟨_,.tuple e1 hc hd (by simpa using ra)⟩
theorem Dts.reads {P:Program} {w:World} {H:Hp} {h:Heap} (ok:HOk P w H h):∀ {vs:List V} {ds:List PyData} {us:List Value},Dts H vs ds→Vals vs us→∃ as,ReadsAll h us ds as
 | _,_,us,.nil,r=>by cases r;exact⟨_,.nil⟩
 | _,_,us,.cons hd tl,r=>by
  cases r with
  | cons r1 r2 =>
   obtain⟨as,ra⟩:=Dt.reads ok hd r1
   obtain⟨bs,rb⟩:=Dts.reads ok tl r2
   exact⟨_,.cons ra rb⟩
end
def rEqD (neg:Bool):R2:=fun x y H Q=>∃ da db,Dt H x da∧Dt H y db∧da.canLay0=true∧db.canLay0=true∧da.depth≤60∧Q (.bl (if neg=true then !PyData.eqv da db else PyData.eqv da db)) H
section
variable {X:Cx}
theorem am3 (hu:X.A.units+64 < cLine):OpR X (compareOp .Eq) (rEqD false):=by
 intro pins s σ H x y v u Q I rx ry h
 obtain⟨da,db,d1,d2,c1,c2,hd,q⟩:=h
 obtain⟨as,ra⟩:=d1.reads I.hok rx
 obtain⟨bs,rb⟩:=d2.reads I.hok ry
 exact SeqAt.compareEq_reads ra rb c1 c2 (by have:min da.depth db.depth≤da.depth:=Nat.min_le_left _ _;omega) ⟨.bl _,H,I,rfl,q⟩
theorem oR (hu:X.A.units+64 < cLine):OpR X (compareOp .NotEq) (rEqD true):=by
 intro pins s σ H x y v u Q I rx ry h
 obtain⟨da,db,d1,d2,c1,c2,hd,q⟩:=h
 obtain⟨as,ra⟩:=d1.reads I.hok rx
 obtain⟨bs,rb⟩:=d2.reads I.hok ry
 exact SeqAt.compareNe_reads ra rb c1 c2 (by have:min da.depth db.depth≤da.depth:=Nat.min_le_left _ _;omega) ⟨.bl _,H,I,rfl,q⟩
end
end L2
namespace L2
open PySem PySem.Spec PyProof.Rows
theorem Inv.yields {X:Cx} {pins:List (Addr×Obj)} {σ : St} {H:Hp} {s:Shared} {h':Heap} {ch:List Addr} {T:Addr} {xs:List V} {t':Nat} (I:Inv X pins σ H s) (hch:∀ b∈ch,FpOk X pins H b)
  (kp:∀ b o,b∉ch→s.heap.get? b=some o→h'.get? b=some o) (hT:s.heap.objs.size≤T) (hz:xs.length≤sizeLine) (new:∃ its:List Value,Vals xs its∧IsTup h' T its.toArray) (hrec:∀ b∈ch,∃ o,h'.get? b=some o) :
  Inv X pins σ (upd H T (.tup xs)) { s with heap:=h',toks:=t' }:=by
 have hf:H T=none:=I.hok.fresh hT
 have neT:∀ b o,s.heap.get? b=some o→b≠T:=fun b o e=>Nat.ne_of_lt (Nat.lt_of_lt_of_le (Heap.lt_size e) hT)
 have nch:∀ b u,H b=some u→b∉ch:=fun b u e z=>by rw[(hch b z).1] at e;cases e
 refine I.step (g':=s.gens) (d':=s.drawn) (ch:=ch) (fun b hb=>?_) (fun b o _ _ hc e _=>kp b o hc e) (fun b o _ _ hc e _=>⟨o.slots,kp b o hc e⟩) (fun b o hc e n=>by rw[aG (neT b o e)];exact n)
  (fun b o hc e=>⟨o,kp b o hc e⟩) (fun b ys e=>by rw[aG (aL e hf)];exact e) (fun b o u e=>by rw[aG (aL e hf)];exact e) (fun b ps e=>⟨#[],by rw[aG (aL e hf),e];simp⟩) (fun m hm=>?_) (fun b u e=>?_) I.bare
 ·obtain⟨_,f1,_,f3,f4,f5⟩:=hch b hb
  exact⟨f3,f1,f4,f5⟩
 ·obtain⟨o,es,ep,ho,r⟩:=hm
  exact⟨o,es,ep,kp _ o (fun z=>(hch _ z).2.1 rfl) ho,r⟩
 ·by_cases hb:b=T
  ·subst hb
   rw[au] at e
   cases e
   obtain⟨its,rv,p⟩:=new
   exact⟨hz,its,rv,p⟩
  ·rw[aG hb] at e
   refine(I.hok b u e).stay (fun c v hc q=>kp c v ?_ q) (fun c q=>by rw[aG (aL q hf)];exact q) fun c ys q=>by rw[aG (aL q hf)];exact q
   rcases hc with rfl | hc
   ·exact nch c u e
   ·exact nch c _ hc
def Ite (K:W.Frag) (a:Addr):It :=
 ⟨fun i H=>∃ xs x,SqL K H a xs∧xs[i]? = some x,fun i H x H'=>∃ p,H p=none∧x = .ref p∧∀ xs v,SqL K H a xs→xs[i]? = some v→H' = upd H p (.tup [.int (i:Nat),v]),fun i H=>∃ xs,SqL K H a xs∧xs.length≤i⟩
theorem alI {P:Program} {w:World} {K:W.Frag} {elts:List Expr} {k0:Nat} {pos:Pos} (a e it:Addr) (hne:e≠it) :
  Turn P w K (.Tuple elts k0 pos) (Ite K a) [e,it] e (fun i h=>(∃ old,IsEnum h e it i old)∧h.IsListIter it a i) where
 mem:=by simp
 obj:=fun i h st b hb=>by
  obtain⟨⟨old,he⟩,o,ho,c,d⟩:=st
  rcases List.mem_cons.mp hb with rfl | hb
  ·exact⟨_,he,fun v z=>by
    have z':Data.fields _=Data.cell v:=z
    cases z'⟩
  ·have e2:b=it:=by simpa using hb
   subst e2
   exact⟨o,ho,fun v z=>by rw[d] at z;cases z⟩
 keep:=fun i h h' st k=>⟨by obtain⟨old,he⟩:=st.1;exact⟨old,k e (by simp) _ he⟩,st.2.at fun o ho=>k it (by simp) o ho⟩
 item:=by
  intro X hP hw hK hc i pins s σ H E I hf st hg
  subst hP hw hK
  obtain⟨xs,x,hq,hx⟩:=hg
  obtain⟨its,rv,p,hz⟩:=I.list hq
  obtain⟨u,hu,ru⟩:=rv.get hx
  obtain⟨⟨old,he⟩,hit⟩:=st
  refine wpAny_pyNext_enum_item he hit p.isList (x:=u) (by simpa using hu) hne fun h' ho' hit' hT' hsz' hk'=>?_
  have I1:Inv X pins σ (upd H s.heap.objs.size (.tup [.int (i:Nat),x])) { s with heap:=h',toks:=s.toks+1 } :=
   I.yields (ch:=[e,it]) hf (fun b o hb q=>hk' b o (fun z=>hb (by simp [z])) (fun z=>hb (by simp [z])) q) (Nat.le_refl _) (by show 2≤sizeLine;decide)
    ⟨[.int (i:Nat) s.toks,u],.cons ⟨_,rfl⟩ (.cons ru .nil),⟨_,hT',rfl,_,rfl⟩⟩ (fun b hb=>by
     rcases List.mem_cons.mp hb with rfl | hb
     ·exact⟨_,ho'⟩
     ·have e2:b=it:=by simpa using hb
      subst e2
      obtain⟨o,q,_⟩:=hit'
      exact⟨o,q⟩)
  refine⟨_,rfl,wpAny_letOwnedTupleGo_enum (s:={ s with heap:=h',toks:=s.toks+1 }) ho' fun h'' he'' hs''=>?_⟩
  have fr:∀ b∈[e,it],(upd H s.heap.objs.size (.tup [.int (i:Nat),x])) b=none:=fun b hb=>by
   have hlt:b<s.heap.objs.size:=by
    rcases List.mem_cons.mp hb with rfl | hb
    ·exact Heap.lt_size he
    ·have e2:b=it:=by simpa using hb
     subst e2
     obtain⟨o,q,_⟩:=hit
     exact Heap.lt_size q
   rw[aG (Nat.ne_of_lt hlt)];exact(hf b hb).1
  obtain⟨f0,f1,f2,f3,f4,f5⟩:=hf e (by simp)
  have I2:=I1.turned (t':=s.toks+1) (it:=e) (h':=h'') (fun b o hb q=>(hs''.2 b hb).trans q) (fr e (by simp)) f1 f3 f4 f5
  refine⟨.ref s.heap.objs.size,_,I2,rfl,⟨s.heap.objs.size,I.hok.fresh (Nat.le_refl _),rfl,fun ys v hy hv=>?_⟩,⟨⟨_,by simpa using he''⟩,hit'.at fun o q=>(hs''.2 it (Ne.symm hne)).trans q⟩,fr⟩
  have:=I.G9 hy hq
  subst this
  rw[hx] at hv
  cases hv
  rfl
 done:=by
  intro X hP hw hK hc i pins s σ H E I hf st hg
  subst hP hw hK
  obtain⟨xs,hq,hx⟩:=hg
  obtain⟨its,rv,p,hz⟩:=I.list hq
  obtain⟨⟨old,he⟩,hit⟩:=st
  obtain⟨f0,f1,f2,f3,f4,f5⟩:=hf it (by simp)
  have hl:=rv.length
  exact wpAny_pyNext_enum_end (I.ok.hd hc) he hit p.isList (by simp;omega) fun h' eb=>⟨rfl,I.turned (t':=s.toks) (fun b o hb q=>eb b o hb q) f0 f1 f3 f4 f5⟩
 self:=fun _ _ _ _ _ st h=>by obtain⟨old,he⟩:=st.1;exact wpAny_pyIter_enum he h
def ap6 (K:W.Frag) (tl:TA):TI:=fun σ H R=>tl σ H fun vs H1=>∃ a xs,vs = [.ref a]∧H1 a=some (.lst xs)∧R (Ite K a) H1
section
variable {X:Cx}
theorem Zy (K:W.Frag) {elts:List Expr} {k0:Nat} {tpos:Pos} {l:Expr} {tl:TA} {p pos:Pos} (hg:Gl X "enumerate") (hm:X.mg "enumerate" = none) (hb:bootBuiltins "enumerate" = some (.type "enumerate")) (ha:PA X [l] tl) (hK:X.K=K:=by rfl)
  (hs:starEach [l] X.env = [(false,eval l X.env)]:=by rfl):PI X (.Tuple elts k0 tpos) (.Call (.Name "enumerate" p) [l] [] pos) (ap6 K tl):=by
 subst hK
 intro pins s σ H R I h
 refine Call_ (Pg I hg hm hb (PyProof.Rows.callWith_type1 (thn (ha pos pins s σ H _ I h) fun us s1 ⟨vs,H1,I1,r1,q1⟩=>?_) hs rfl))
 obtain⟨a,xs,rfl,hq,q⟩:=q1
 obtain⟨u,rfl,ru⟩:=vals1 r1
 cases ru
 obtain⟨z,its,n,rv,e⟩:=(show jl X.prog X.w H1 s1.heap a (.lst xs) from I1.hok a _ hq)
 refine call_enumerate_1 e fun h' he hit hsz hk=>?_
 have I2:Inv X pins σ H1 { s1 with heap:=h' }:=I1.kept (t':=s1.toks) hk
 refine wpAny_pyIter_enum he ?_
 refine⟨s1.heap.objs.size+1,[s1.heap.objs.size+1,s1.heap.objs.size],_,_,H1,rfl,I2,alI a _ _ (Nat.ne_of_gt (Nat.lt_succ_self _)),⟨⟨_,he⟩,hit⟩,fun b hb=>?_,q⟩
 have hle:s1.heap.objs.size≤b:=by
  rcases List.mem_cons.mp hb with rfl | hb
  ·exact Nat.le_succ _
  ·have e2:b=s1.heap.objs.size:=by simpa using hb
   exact Nat.le_of_eq e2.symm
 exact I1.fpOk hle (I1.hok.fresh hle)
end
def Itz (K:W.Frag) (a b:Addr):It :=
 ⟨fun i H=>∃ xs ys x y,SqL K H a xs∧SqL K H b ys∧xs[i]? = some x∧ys[i]? = some y,fun i H x H'=>∃ p,H p=none∧x = .ref p∧∀ xs ys v w,SqL K H a xs→SqL K H b ys→xs[i]? = some v→ys[i]? = some w→H' = upd H p (.tup [v,w]),
  fun i H=>∃ xs ys,SqL K H a xs∧SqL K H b ys∧(xs.length≤i∨ys.length≤i)⟩
theorem am4 {P:Program} {w:World} {K:W.Frag} {elts:List Expr} {k0:Nat} {pos:Pos} (a b z TI TO i1 i2:Addr) (D:ZipApart z TI TO i1 i2 a b) :
  Turn P w K (.Tuple elts k0 pos) (Itz K a b) [z,TO,i1,i2,TI] z (fun i h=>IsZip h z TI TO .none∧IsPair h TI (.ref i1) (.ref i2)∧(∃ u v,IsPair h TO u v)∧h.IsListIter i1 a i∧h.IsListIter i2 b i) where
 mem:=by simp
 obj:=fun i h st c hc=>by
  obtain⟨hz,hTI,⟨u,v,hTO⟩,⟨o1,q1,_,d1⟩,o2,q2,_,d2⟩:=st
  simp only [List.mem_cons,List.not_mem_nil,or_false] at hc
  rcases hc with rfl | rfl | rfl | rfl | rfl
  ·exact⟨_,hz,fun v z=>by
    have z':Data.fields _=Data.cell v:=z
    cases z'⟩
  ·exact⟨_,hTO,fun v z=>by
    have z':Data.seq _ _=Data.cell v:=z
    cases z'⟩
  ·exact⟨o1,q1,fun v z=>by rw[d1] at z;cases z⟩
  ·exact⟨o2,q2,fun v z=>by rw[d2] at z;cases z⟩
  ·exact⟨_,hTI,fun v z=>by
    have z':Data.seq _ _=Data.cell v:=z
    cases z'⟩
 keep:=fun i h h' st k=>by
  obtain⟨hz,hTI,⟨u,v,hTO⟩,h1,h2⟩:=st
  exact⟨k z (by simp) _ hz,k TI (by simp) _ hTI,⟨u,v,k TO (by simp) _ hTO⟩,h1.at fun o q=>k i1 (by simp) o q,h2.at fun o q=>k i2 (by simp) o q⟩
 item:=by
  intro X hP hw hK hc i pins s σ H E I hf st hg
  subst hP hw hK
  obtain⟨xs,ys,x,y,hq1,hq2,hx,hy⟩:=hg
  obtain⟨its,rv,p,hz1⟩:=I.list hq1
  obtain⟨its2,rv2,p2,hz2⟩:=I.list hq2
  obtain⟨u,hu,ru⟩:=rv.get hx
  obtain⟨u2,hu2,ru2⟩:=rv2.get hy
  obtain⟨hz,hTI,⟨t1,t2,hTO⟩,h1,h2⟩:=st
  refine wpAny_pyNext_zip_item D hz hTI hTO h1 h2 p.isList p2.isList (x:=u) (y:=u2) (by simpa using hu) (by simpa using hu2) fun h' hz' hTO' h1' h2' hT' hsz' hk'=>?_
  have lt:∀ c∈[z,TO,i1,i2,TI],c<s.heap.objs.size:=fun c hc=>by
   obtain⟨o1,q1,_⟩:=id h1
   obtain⟨o2,q2,_⟩:=id h2
   simp only [List.mem_cons,List.not_mem_nil,or_false] at hc
   rcases hc with rfl | rfl | rfl | rfl | rfl
   ·exact Heap.lt_size hz
   ·exact Heap.lt_size hTO
   ·exact Heap.lt_size q1
   ·exact Heap.lt_size q2
   ·exact Heap.lt_size hTI
  have I1:Inv X pins σ (upd H s.heap.objs.size (.tup [x,y])) { s with heap:=h',toks:=s.toks } :=
   I.yields (ch:=[z,TO,i1,i2]) (fun c hc=>hf c (by simp only [List.mem_cons,List.not_mem_nil,or_false] at hc ⊢;rcases hc with h | h | h | h <;> simp [h])) (fun c o hc q=>hk' c o (fun z=>hc (by simp [z])) (fun z=>hc (by simp [z])) (fun z=>hc (by simp [z])) (fun z=>hc (by simp [z])) q) (Nat.le_refl _) (by show 2≤sizeLine;decide)
    ⟨[u,u2],.cons ru (.cons ru2 .nil),⟨_,hT',rfl,_,rfl⟩⟩ (fun c hc=>by
     obtain⟨o1,q1,_⟩:=id h1'
     obtain⟨o2,q2,_⟩:=id h2'
     simp only [List.mem_cons,List.not_mem_nil,or_false] at hc
     rcases hc with rfl | rfl | rfl | rfl
     ·exact⟨_,hz'⟩
     ·exact⟨_,hTO'⟩
     ·exact⟨_,q1⟩
     ·exact⟨_,q2⟩)
  refine⟨_,rfl,wpAny_letOwnedTupleGo_zip (s:={ s with heap:=h',toks:=s.toks }) hz' fun h'' hz'' hs''=>?_⟩
  have fr:∀ c∈[z,TO,i1,i2,TI],(upd H s.heap.objs.size (.tup [x,y])) c=none:=fun c hc=>by
   rw[aG (Nat.ne_of_lt (lt c hc))];exact(hf c hc).1
  obtain⟨f0,f1,f2,f3,f4,f5⟩:=hf z (by simp)
  have I2:=I1.turned (t':=s.toks) (it:=z) (h':=h'') (fun c o hc q=>(hs''.2 c hc).trans q) (fr z (by simp)) f1 f3 f4 f5
  have hTI':IsPair h' TI (.ref i1) (.ref i2):=hk' TI _ D.TIz D.TITO D.TIi1 D.TIi2 hTI
  refine⟨.ref s.heap.objs.size,_,I2,rfl,⟨s.heap.objs.size,I.hok.fresh (Nat.le_refl _),rfl,fun xs' ys' v w' hxs hys hv hw=>?_⟩,
   ⟨hz'',(hs''.2 TI D.TIz).trans hTI',⟨_,_,(hs''.2 TO D.TOz).trans hTO'⟩,h1'.at fun o q=>(hs''.2 i1 D.i1z).trans q,h2'.at fun o q=>(hs''.2 i2 D.i2z).trans q⟩,fr⟩
  have e1:=I.G9 hxs hq1
  have e2:=I.G9 hys hq2
  subst e1;subst e2
  rw[hx] at hv;rw[hy] at hw
  cases hv;cases hw
  rfl
 done:=by
  intro X hP hw hK hc i pins s σ H E I hf st hg
  subst hP hw hK
  obtain⟨xs,ys,hq1,hq2,hend⟩:=hg
  obtain⟨its,rv,p,hz1⟩:=I.list hq1
  obtain⟨its2,rv2,p2,hz2⟩:=I.list hq2
  obtain⟨hz,hTI,⟨t1,t2,hTO⟩,h1,h2⟩:=st
  have hl:=rv.length
  have hl2:=rv2.length
  refine wpAny_pyNext_zip_end (I.ok.hd hc) D hz hTI hTO h1 h2 p.isList p2.isList (by
   rcases hend with h | h
   ·left;simp;omega
   ·right;simp;omega) fun h' hk'=>⟨rfl,?_⟩
  refine I.step (g':=s.gens) (d':=s.drawn) (t':=s.toks) (ch:=[z,TO,i1,i2]) (fun c hc=>?_) (fun c o _ _ hc q _=>hk' c o (fun z=>hc (by simp [z])) (fun z=>hc (by simp [z])) (fun z=>hc (by simp [z])) (fun z=>hc (by simp [z])) q)
   (fun c o _ _ hc q _=>⟨o.slots,hk' c o (fun z=>hc (by simp [z])) (fun z=>hc (by simp [z])) (fun z=>hc (by simp [z])) (fun z=>hc (by simp [z])) q⟩) (fun _ _ _ _ n=>n)
   (fun c o hc q=>⟨o,hk' c o (fun z=>hc (by simp [z])) (fun z=>hc (by simp [z])) (fun z=>hc (by simp [z])) (fun z=>hc (by simp [z])) q⟩) (fun _ _ q=>q) (fun _ _ _ q=>q) (fun c ps q=>⟨#[],by rw[q];simp⟩) (fun m hm=>?_) (fun c u q=>?_) I.bare
  ·obtain⟨_,f1,_,f3,f4,f5⟩:=hf c (by simp only [List.mem_cons,List.not_mem_nil,or_false] at hc ⊢;rcases hc with h | h | h | h <;> simp [h])
   exact⟨f3,f1,f4,f5⟩
  ·obtain⟨o,es,ep,ho,r⟩:=hm
   have ne:∀ c∈[z,TO,i1,i2,TI],X.env.locals≠c:=fun c hc=>Ne.symm (hf c hc).2.1
   exact⟨o,es,ep,hk' _ o (ne z (by simp)) (ne TO (by simp)) (ne i1 (by simp)) (ne i2 (by simp)) ho,r⟩
  ·have nn:∀ d v,H d=some v→∀ c∈[z,TO,i1,i2,TI],d≠c:=fun d v e c hc w'=>by rw[w',(hf c hc).1] at e;cases e
   have all:∀ d v,H d=some v→∀ o,s.heap.get? d=some o→h'.get? d=some o:=fun d v e o q'=>hk' d o (nn d v e z (by simp)) (nn d v e TO (by simp)) (nn d v e i1 (by simp)) (nn d v e i2 (by simp)) q'
   refine(I.hok c u q).stay (fun d v hd q'=>?_) (fun _ q=>q) fun _ _ q=>q
   rcases hd with rfl | hd
   ·exact all d u q v q'
   ·exact all d _ hd v q'
 self:=fun _ _ _ _ _ st h=>wpAny_pyIter_zip st.1 h
def iZip (K:W.Frag) (tl:TA):TI:=fun σ H R=>tl σ H fun vs H1=>∃ a b,vs = [.ref a,.ref b]∧(∃ xs,SqL K H1 a xs)∧(∃ ys,SqL K H1 b ys)∧R (Itz K a b) H1
section
variable {X:Cx}
theorem akP (K:W.Frag) {elts:List Expr} {k0:Nat} {tpos:Pos} {l m:Expr} {tl:TA} {p pos:Pos} (hg:Gl X "zip") (hm:X.mg "zip" = none) (hb:bootBuiltins "zip" = some (.type "zip")) (ha:PA X [l,m] tl) (hK:X.K=K:=by rfl)
  (hs:starEach [l,m] X.env = [(false,eval l X.env),(false,eval m X.env)]:=by rfl) (hs2:starEach [m] X.env = [(false,eval m X.env)]:=by rfl):PI X (.Tuple elts k0 tpos) (.Call (.Name "zip" p) [l,m] [] pos) (iZip K tl):=by
 subst hK
 intro pins s σ H R I h
 refine Call_ (Pg I hg hm hb (PyProof.Rows.callWith_type1 (thn (ha pos pins s σ H _ I h) fun us s1 ⟨vs,H1,I1,r1,q1⟩=>?_) (by rw[hs,hs2]) (by rw[hs2];rfl)))
 obtain⟨a,b,rfl,⟨xs,hq1⟩,⟨ys,hq2⟩,q⟩:=q1
 obtain⟨u,w',rfl,ru,rw'⟩:=vals2 r1
 cases ru;cases rw'
 obtain⟨its,rv,p1,hz1⟩:=I1.list hq1
 obtain⟨its2,rv2,p2,hz2⟩:=I1.list hq2
 have a1:a<s1.heap.objs.size:=by obtain⟨_,e,_⟩:=p1.isList;exact Heap.lt_size e
 have a2:b<s1.heap.objs.size:=by obtain⟨_,e,_⟩:=p2.isList;exact Heap.lt_size e
 refine call_zip_2 p1.isList p2.isList fun h' hz hTI hTO hi1 hi2 hsz hk=>?_
 have I2:Inv X pins σ H1 { s1 with heap:=h' }:=I1.kept (t':=s1.toks) hk
 refine wpAny_pyIter_zip hz ?_
 refine⟨s1.heap.objs.size+4,[s1.heap.objs.size+4,s1.heap.objs.size+3,s1.heap.objs.size,s1.heap.objs.size+1,s1.heap.objs.size+2],_,_,H1,rfl,I2,am4 a b _ _ _ _ _ (zipApart_new a1 a2),⟨hz,hTI,⟨_,_,hTO⟩,hi1,hi2⟩,fun c hc=>?_,q⟩
 have hle:s1.heap.objs.size≤c:=by
  simp only [List.mem_cons,List.not_mem_nil,or_false] at hc
  rcases hc with rfl | rfl | rfl | rfl | rfl
  ·exact Nat.le_add_right _ 4
  ·exact Nat.le_add_right _ 3
  ·exact Nat.le_refl _
  ·exact Nat.le_add_right _ 1
  ·exact Nat.le_add_right _ 2
 exact I1.fpOk hle (I1.hok.fresh hle)
end
end L2
namespace SetQ
open PySem PySem.Spec PyProof.Rows
section
variable {prog:Program} {w:World} {A:Around} {E:Value→Shared→Prop} {s:Shared} {S J T:Addr} {es:Array (Int×Value)} {ep i:Nat} {t:SetTable} {ys:List (Int×Value)} {ks:List Int} {o:Obj} {first:Value}
end
end SetQ
namespace L2
open PySem PySem.Spec PyProof.Rows
section
variable {X:Cx}
end
end L2
namespace L2
open PySem PySem.Spec PyProof.Rows
section
variable {κ : Type} [DecidableEq κ]
def valV (kvs:List (κ × V)) (k : κ):Option V:=(kvs.find? fun kv=>decide (kv.1=k)).map (·.2)
def putK (kvs:List (κ × V)) (k : κ) (v:V):List (κ × V) :=
 if (kvs.any fun kv=>decide (kv.1=k))=true then kvs.map (fun kv=>if kv.1=k then (kv.1,v) else kv) else kvs++[(k,v)]
def aoR (kvs:List (κ × V)) (k : κ):List (κ × V):=kvs.filter fun kv=>decide (kv.1≠k)
theorem mQ {p : κ × V} {r:List (κ × V)} {k : κ} (e:p.1=k):valV (p::r) k=some p.2:=by simp [valV,List.find?_cons,e]
theorem mR {p : κ × V} {r:List (κ × V)} {k : κ} (e:¬ p.1=k):valV (p::r) k=valV r k:=by simp [valV,List.find?_cons,e]
theorem Rj (k : κ):∀ kvs:List (κ × V),(kvs.any fun kv=>decide (kv.1=k))=(valV kvs k).isSome
 | []=>rfl
 | p::r=>by
  rw[List.any_cons]
  by_cases e:p.1=k
  ·simp only [mQ e,decide_eq_true e,Bool.true_or,Option.isSome_some]
  ·rw[mR e,decide_eq_false e,Bool.false_or];exact Rj k r
theorem ahu (k j : κ) (y:V):∀ kvs:List (κ × V),valV (kvs.map fun kv=>if kv.1=k then (kv.1,y) else kv) j=(valV kvs j).map fun x=>if j=k then y else x
 | []=>rfl
 | p::r=>by
  have ih:=ahu k j y r
  rw[List.map_cons]
  by_cases h:p.1=k
  ·rw[if_pos h]
   by_cases e:p.1=j
   ·rw[mQ (p:=(p.1,y)) e,mQ e,Option.map_some,if_pos (e.symm.trans h)]
   ·rw[mR (p:=(p.1,y)) e,mR e,ih]
  ·rw[if_neg h]
   by_cases e:p.1=j
   ·rw[mQ (p:=p) e,mQ e,Option.map_some,if_neg (fun z=>h (e.trans z))]
   ·rw[mR (p:=p) e,mR e,ih]
theorem ad2 (k j : κ) (y:V):∀ kvs:List (κ × V),valV kvs k=none→valV (kvs++[(k,y)]) j=if j=k then some y else valV kvs j
 | [],_=>by
  by_cases e:k=j
  ·rw[if_pos e.symm];exact mQ (p:=(k,y)) e
  ·rw[if_neg (fun z=>e z.symm)];exact mR (p:=(k,y)) e
 | p::r,hn=>by
  rw[List.cons_append]
  have hk:¬ p.1=k:=fun z=>by rw[mQ z] at hn;cases hn
  rw[mR hk] at hn
  have ih:=ad2 k j y r hn
  by_cases e:p.1=j
  ·rw[mQ e,mQ e,if_neg (fun z=>hk (e.trans z))]
  ·rw[mR e,mR e,ih]
theorem Hi (kvs:List (κ × V)) (k j : κ) (y:V):valV (putK kvs k y) j=if j=k then some y else valV kvs j:=by
 unfold putK
 by_cases a:(kvs.any fun kv=>decide (kv.1=k))=true
 ·rw[if_pos a,ahu]
  rw[Rj] at a
  by_cases e:j=k
  ·obtain⟨x,hx⟩:=Option.isSome_iff_exists.mp a
   rw[if_pos e,e,hx,Option.map_some,if_pos rfl]
  ·rw[if_neg e]
   cases valV kvs j with
   | none=>rfl
   | some x=>rw[Option.map_some,if_neg e]
 ·rw[if_neg a]
  refine ad2 k j y kvs ?_
  rw[Rj] at a
  cases q:valV kvs k with
  | none=>rfl
  | some x=>rw[q] at a;exact(a rfl).elim
theorem Hj (kvs:List (κ × V)) (k : κ) (v:V):(putK kvs k v).length≤kvs.length+1:=by
 unfold putK
 split
 ·rw[List.length_map];omega
 ·rw[List.length_append,List.length_cons,List.length_nil];omega
theorem RelO.alJ {o:Option V} {u:Option Value} (r:RelO o u):o.isSome=u.isSome:=by
 cases o with
 | none=>cases u with
  | none=>rfl
  | some _=>exact(show False from r).elim
 | some _=>cases u with
  | none=>exact(show False from r).elim
  | some _=>rfl
theorem RelO.getD {o:Option V} {u:Option Value} {d:V} {d':Value} (r:RelO o u) (rd:RelV d d'):RelV (o.getD d) (u.getD d'):=by
 cases o with
 | none=>cases u with
  | none=>exact rd
  | some _=>exact(show False from r).elim
 | some _=>cases u with
  | none=>exact(show False from r).elim
  | some _=>exact r
theorem KV.val {kvs:List (κ × V)} {vs:List (κ × Value)} (r:KV kvs vs) (k : κ):RelO (valV kvs k) (valueAt vs k):=by
 unfold KV at r
 induction r with
 | nil=>exact True.intro
 | @cons p q ps qs h t ih =>
  obtain⟨h1,h2⟩:=h
  by_cases e:p.1=k
  ·have e':q.1=k:=h1.symm.trans e
   have b:valueAt (q::qs) k=some q.2:=by simp [valueAt,List.find?_cons,e']
   rw[mQ e,b];exact h2
  ·have e':¬ q.1=k:=fun z=>e (h1.trans z)
   have b:valueAt (q::qs) k=valueAt qs k:=by simp [valueAt,List.find?_cons,e']
   rw[mR e,b];exact ih
theorem KV.any {kvs:List (κ × V)} {vs:List (κ × Value)} (r:KV kvs vs) (k : κ):(kvs.any fun kv=>decide (kv.1=k))=vs.any fun kv=>decide (kv.1=k):=by
 unfold KV at r
 induction r with
 | nil=>rfl
 | cons h t ih=>rw[List.any_cons,List.any_cons,ih,h.1]
theorem KV.repl {kvs:List (κ × V)} {vs:List (κ × Value)} (r:KV kvs vs) (k : κ) {y:V} {u:Value} (ry:RelV y u) :
  KV (kvs.map fun kv=>if kv.1=k then (kv.1,y) else kv) (vs.map fun kv=>if kv.1=k then (kv.1,u) else kv):=by
 unfold KV at r ⊢
 induction r with
 | nil=>exact .nil
 | @cons p q ps qs h t ih =>
  rw[List.map_cons,List.map_cons]
  refine .cons ?_ ih
  obtain⟨h1,h2⟩:=h
  by_cases e:p.1=k
  ·rw[if_pos e,if_pos (h1.symm.trans e)];exact⟨h1,ry⟩
  ·rw[if_neg e,if_neg (fun z=>e (h1.trans z))];exact⟨h1,h2⟩
theorem KV.put {kvs:List (κ × V)} {vs:List (κ × Value)} (r:KV kvs vs) (k : κ) {y:V} {u:Value} (ry:RelV y u):KV (putK kvs k y) (stored vs k u):=by
 unfold putK stored
 rw[r.any k]
 by_cases e:(vs.any fun kv=>decide (kv.1=k))=true
 ·rw[if_pos e,if_pos e];exact r.repl k ry
 ·rw[if_neg e,if_neg e];exact Paired.snoc r ⟨rfl,ry⟩
theorem KV.drop {kvs:List (κ × V)} {vs:List (κ × Value)} (r:KV kvs vs) (k : κ):KV (aoR kvs k) (without vs k):=by
 unfold KV at r ⊢
 unfold aoR without
 induction r with
 | nil=>exact .nil
 | @cons p q ps qs h t ih =>
  obtain⟨h1,h2⟩:=h
  rw[List.filter_cons,List.filter_cons]
  by_cases e:p.1=k
  ·have a:¬ decide (p.1≠k)=true:=by simp [e]
   have b:¬ decide (q.1≠k)=true:=by simp [h1.symm.trans e]
   rw[if_neg a,if_neg b];exact ih
  ·have e':¬ q.1=k:=fun z=>e (h1.trans z)
   have a:decide (p.1≠k)=true:=by simp [e]
   have b:decide (q.1≠k)=true:=by simp [e']
   rw[if_pos a,if_pos b];exact .cons ⟨h1,h2⟩ ih
theorem KV.keys {kvs:List (κ × V)} {vs:List (κ × Value)} (r:KV kvs vs):kvs.map (·.1)=vs.map (·.1):=by
 unfold KV at r
 induction r with
 | nil=>rfl
 | cons h t ih=>rw[List.map_cons,List.map_cons,ih,h.1]
theorem KV.length {kvs:List (κ × V)} {vs:List (κ × Value)} (r:KV kvs vs):kvs.length=vs.length:=Paired.length r
end
theorem ap7 {P:Program} {w:World} {k:Key} {u:Value} (r:RelV (kV k) u):(nT P w).is k u=true:=by
 cases k with
 | inl i=>obtain⟨t,e⟩:=(show ∃ t,u=Value.int i t from r);subst e;exact ahh P w i t
 | inr x=>obtain⟨t,e⟩:=(show ∃ t,u=Value.str x t from r);subst e;exact ahi P w x t
theorem ad3 {P:Program} {w:World}:∀ {ks:List Key} {us:List Value},Vals (ks.map kV) us→ItemsAre (nT P w) ks us
 | [],_,r=>by rw[List.map_nil] at r;cases r;exact .nil
 | k::ks,_,r=>by
  rw[List.map_cons] at r
  cases r with
  | cons h t=>exact .cons (ap7 h) (ad3 t)
abbrev KT (H:Hp):List (List Key×V)→List (List Key×Addr×Value)→Prop:=Paired fun p q=>p.1=q.1∧H q.2.1=some (.tup (p.1.map kV))∧RelV p.2 q.2.2
theorem KT.val {H:Hp} {kvs:List (List Key×V)} {xs:List (List Key×Addr×Value)} (r:KT H kvs xs) (k:List Key):RelO (valV kvs k) ((atKey xs k).map (·.2)):=by
 induction r with
 | nil=>exact True.intro
 | @cons p q ps qs h t ih =>
  obtain⟨h1,_,h2⟩:=h
  by_cases e:p.1=k
  ·have e':q.1=k:=h1.symm.trans e
   have b:atKey (q::qs) k=some q.2:=by simp [atKey,List.find?_cons,e']
   rw[mQ e,b];exact h2
  ·have e':¬ q.1=k:=fun z=>e (h1.trans z)
   have b:atKey (q::qs) k=atKey qs k:=by simp [atKey,List.find?_cons,e']
   rw[mR e,b];exact ih
theorem KT.repl {H:Hp} {kvs:List (List Key×V)} {xs:List (List Key×Addr×Value)} (r:KT H kvs xs) (k:List Key) {y:V} {u:Value} (ry:RelV y u) :
  KT H (kvs.map fun kv=>if kv.1=k then (kv.1,y) else kv) (xs.map (putAt k u)):=by
 induction r with
 | nil=>exact .nil
 | @cons p q ps qs h t ih =>
  rw[List.map_cons,List.map_cons]
  refine .cons ?_ ih
  obtain⟨h1,h2,h3⟩:=h
  unfold putAt
  by_cases e:p.1=k
  ·rw[if_pos e,if_pos (h1.symm.trans e)];exact⟨h1,h2,ry⟩
  ·rw[if_neg e,if_neg (fun z=>e (h1.trans z))];exact⟨h1,h2,h3⟩
theorem KT.put {H:Hp} {kvs:List (List Key×V)} {xs:List (List Key×Addr×Value)} (r:KT H kvs xs) (k:List Key) {b:Addr} {y:V} {u:Value} (hb:H b=some (.tup (k.map kV))) (ry:RelV y u) :
  KT H (putK kvs k y) (storedH xs k b u):=by
 have e:(kvs.any fun kv=>decide (kv.1=k))=(atKey xs k).isSome:=by
  rw[Rj,(r.val k).alJ,Option.isSome_map]
 unfold putK storedH
 rw[e]
 by_cases q:(atKey xs k).isSome=true
 ·rw[if_pos q,if_pos q];exact r.repl k ry
 ·rw[if_neg q,if_neg q];exact Paired.snoc r ⟨rfl,hb,ry⟩
theorem KT.keeps {H H':Hp} {kvs:List (List Key×V)} {xs:List (List Key×Addr×Value)} (r:KT H kvs xs) (ht:∀ b ys,H b=some (.tup ys)→H' b=some (.tup ys)):KT H' kvs xs :=
 Paired.mapP r fun _ _ z=>⟨z.1,ht _ _ z.2.1,z.2.2⟩
section
variable {P:Program} {w:World} {H:Hp} {h:Heap} {a:Addr}
theorem aoS {u:HO} (ok:HOk P w H h) (e:Rd H a u):jl P w H h a u:=e.ok ok
theorem ap8 {kvs:List (Key×V)} (ok:HOk P w H h) (e:Rd H a (.dK kvs)):kvs.length≤sizeLine∧(a == sysModules)=false∧∃ vs,KV kvs vs∧h.DictOf (nT P w) a vs :=
 show jl P w H h a (.dK kvs) from aoS ok e
theorem am5 {ks:List Key} (ok:HOk P w H h) (e:H a=some (.tup (ks.map kV))):(tupleKind (nT P w)).is h ks a:=by
 obtain⟨_,its,r,o,h1,h2,n,h3⟩:=(show jl P w H h a (.tup (ks.map kV)) from ok a _ e)
 exact⟨o,its.toArray,n,h1,h2,h3,by simpa using ad3 r⟩
theorem aoT {kvs:List (List Key×V)} (ok:HOk P w H h) (e:Rd H a (.dT kvs)):kvs.length≤sizeLine∧(a == sysModules)=false ∧
  ∃ xs,KT H kvs xs∧h.DictOfH (tupleKind (nT P w)) a xs:=by
 obtain⟨z,y,xs,r,o,es,ep,h1,h2,h3,h4,h5⟩:=(show jl P w H h a (.dT kvs) from aoS ok e)
 refine⟨z,y,xs,r,o,es,ep,h1,h2,h3,h4,fun x hx=>?_,h5⟩
 have all:∀ {l:List (List Key×V)} {m:List (List Key×Addr×Value)},KT H l m→∀ x∈m,(tupleKind (nT P w)).is h x.1 x.2.1:=by
  intro l m q
  induction q with
  | nil=>intro x hx;exact nomatch hx
  | @cons p q ps qs hq t ih =>
   intro x hx
   rcases List.mem_cons.mp hx with e | hx
   ·subst e
    exact am5 ok (by rw[← hq.1];exact hq.2.1)
   ·exact ih x hx
 exact all r x hx
theorem ap9 {kvs:List (List Key×V)} (ok:HOk P w H h) (e:H a=some (.dT kvs)):kvs.length≤sizeLine∧(a == sysModules)=false ∧
  ∃ xs,KT H kvs xs∧h.DictOfH (tupleKind (nT P w)) a xs:=aoT ok (.inl e)
end
def DGet (H:Hp) (a:Addr) (y:V) (r:Option V):Prop :=
 (∃ kvs k,Rd H a (.dK kvs)∧y=kV k∧r=valV kvs k) ∨ ∃ kvs k b,Rd H a (.dT kvs)∧y = .ref b∧H b=some (.tup (k.map kV))∧r=valV kvs k
def DPut (H:Hp) (a:Addr) (y v:V) (H':Hp):Prop :=
 (∃ kvs k,H a=some (.dK kvs)∧y=kV k∧kvs.length<sizeLine∧H' = upd H a (.dK (putK kvs k v))) ∨
 ∃ kvs k b,H a=some (.dT kvs)∧y = .ref b∧H b=some (.tup (k.map kV))∧kvs.length<sizeLine∧H' = upd H a (.dT (putK kvs k v))
theorem DGet.k {H:Hp} {a:Addr} {kvs:List (Key×V)} {k:Key} (e:H a=some (.dK kvs)):DGet H a (kV k) (valV kvs k):=.inl ⟨kvs,k,.inl e,rfl,rfl⟩
theorem DGet.t {H:Hp} {a b:Addr} {kvs:List (List Key×V)} {k:List Key} (e:H a=some (.dT kvs)) (eb:H b=some (.tup (k.map kV))):DGet H a (.ref b) (valV kvs k):=.inr ⟨kvs,k,b,.inl e,rfl,eb,rfl⟩
theorem DPut.k {H:Hp} {a:Addr} {kvs:List (Key×V)} {k:Key} {v:V} (e:H a=some (.dK kvs)) (hl:kvs.length<sizeLine):DPut H a (kV k) v (upd H a (.dK (putK kvs k v))):=.inl ⟨kvs,k,e,rfl,hl,rfl⟩
theorem DPut.t {H:Hp} {a b:Addr} {kvs:List (List Key×V)} {k:List Key} {v:V} (e:H a=some (.dT kvs)) (eb:H b=some (.tup (k.map kV))) (hl:kvs.length<sizeLine) :
  DPut H a (.ref b) v (upd H a (.dT (putK kvs k v))):=.inr ⟨kvs,k,b,e,rfl,eb,hl,rfl⟩
section
variable {X:Cx} {pins:List (Addr×Obj)} {σ : St} {H:Hp} {s:Shared} {a:Addr} {y v:V} {u r:Value} {o:Option V} {A:Around} {E:Value→Shared→Prop}
theorem Inv.big (I:Inv X pins σ H s):sysModules<s.heap.objs.size:=by
 have h:mainGlobals<s.heap.objs.size:=(I.mod.glob.keeps I.bk).lt
 exact Nat.lt_trans (by decide) h
theorem aoh {h':Heap} {t':Nat} {ob:HO} (I:Inv X pins σ H s) (mu:Mut (H a)) (hs:Heap.SameBut a s.heap h') (he:∃ q,h'.get? a=some q) (new:jl X.prog X.w (upd H a ob) h' a ob) :
  Inv X pins σ (upd H a ob) { s with heap:=h',toks:=t' } :=
 I.write (x:=a) (e:=a) mu (.inl rfl) (fun b q hb z=>(hs.2 b hb).trans z) he new
end
section
variable {X:Cx} {pins:List (Addr×Obj)} {σ : St} {H:Hp} {s:Shared} {a:Addr} {kvs:List (Key×V)} {k:Key} {u:Value} {A:Around} {E:Value→Shared→Prop}
end
section
variable {X:Cx} {o i e value:Expr} {pos pos' tpos:Pos} {td ty tv:TE}
end
theorem am6 {P:Program} {w:World} {H:Hp} (h:Heap) (hb:sysModules<h.objs.size):jl P w H (h.push { cls:=.type "dict",data:=.dict #[] }) h.objs.size (.dT []) :=
 ⟨Nat.zero_le _,beq_eq_false_iff_ne.mpr (Ne.symm (Nat.ne_of_lt hb)),[],.nil,_,#[],0,Heap.get?_push_size _ rfl,⟨rfl,rfl,rfl⟩,rfl,rfl,List.nodup_nil⟩
def apr:TE:=fun _ H Q=>∀ p,H p=none→Q (.ref p) (upd H p (.dT []))
section
variable {X:Cx} {pos:Pos}
theorem ahv:PE X (.Dict [] [] pos) apr:=fun pins s σ H Q I h =>
 wpAny_Dict_empty ⟨.ref s.heap.objs.size,_,I.laid (a:=s.heap.objs.size) (o:=.dT []) (t':=s.toks) (fun _ _ q=>Heap.get?_push_of_some _ q) (Nat.le_refl _) (am6 s.heap I.big),rfl,h _ (I.hok.fresh (Nat.le_refl _))⟩
end
structure M1 (X:Cx) (o:Expr) (m:Str) (apos:Pos) (e:Expr) (cpos:Pos):Prop where
 base:attributeBase o m X.env (eval o X.env)=eval o X.env
 few:((backTo cpos (starEach [e] X.env)).all (fun x => !x.1) && (backToKw cpos (keywordEach [] X.env)).all (fun x=>x.1.isSome)
  && decide (([e]:List Expr).length+([]:List Keyword).length+(if ([]:List Keyword).isEmpty then 0 else 1) < 30))=true
 line:(apos.endLine == cpos.line)=true
 trees:backTo cpos (starEach [e] X.env) = [(false,eval e X.env)]
structure M2 (X:Cx) (o:Expr) (m:Str) (apos:Pos) (e f:Expr) (cpos:Pos):Prop where
 base:attributeBase o m X.env (eval o X.env)=eval o X.env
 few:((backTo cpos (starEach [e,f] X.env)).all (fun x => !x.1) && (backToKw cpos (keywordEach [] X.env)).all (fun x=>x.1.isSome)
  && decide (([e,f]:List Expr).length+([]:List Keyword).length+(if ([]:List Keyword).isEmpty then 0 else 1) < 30))=true
 line:(apos.endLine == cpos.line)=true
 trees:backTo cpos (starEach [e,f] X.env) = [(false,eval e X.env),(false,eval f X.env)]
def IsD (H:Hp) (a:Addr):Prop:=(∃ kvs,Rd H a (.dK kvs)) ∨ ∃ kvs,Rd H a (.dT kvs)
theorem aps {X:Cx} {pins:List (Addr×Obj)} {σ : St} {H:Hp} {s:Shared} {a:Addr} (I:Inv X pins σ H s) (d:IsD H a) :
  s.TypeIs (.ref a) "dict" ∧ (∀ b,Value.ref a = .ref b→∃ ob,s.heap.get? b=some ob∧ob.dict=none)∧(a == sysModules)=false:=by
 rcases d with ⟨kvs,e⟩ | ⟨kvs,e⟩
 ·obtain⟨_,hd,vs,_,dd⟩:=ap8 I.hok e
  refine⟨dd.typeIs,fun b q=>?_,hd⟩
  cases q
  obtain⟨ob,_,_,h1,h2,_⟩:=dd
  exact⟨ob,h1,h2.2.1⟩
 ·obtain⟨_,hd,xs,_,dd⟩:=aoT I.hok e
  refine⟨dd.typeIs,fun b q=>?_,hd⟩
  cases q
  obtain⟨ob,_,_,h1,h2,_⟩:=dd
  exact⟨ob,h1,h2.2.1⟩
section
variable {X:Cx} {pins:List (Addr×Obj)} {σ : St} {H:Hp} {s:Shared} {a:Addr} {y d:V} {u r:Value} {o:Option V} {A:Around} {E:Value→Shared→Prop}
end
section
variable {X:Cx} {o e f:Expr} {apos cpos:Pos} {td ty tx:TE}
end
section
variable {X:Cx} {pins:List (Addr×Obj)} {σ : St} {H:Hp} {s:Shared} {a:Addr} {kvs:List (Key×V)} {A:Around} {E:Value→Shared→Prop}
end
section
variable {X:Cx} {pins:List (Addr×Obj)} {σ : St} {H:Hp} {s:Shared} {a:Addr} {y:V} {u:Value} {A:Around} {E:Value→Shared→Prop}
end
end L2
namespace L2
open PySem PySem.Spec PyProof.Rows
section
variable {κ : Type} [DecidableEq κ]
end
end L2
namespace aoU
open PySem
section
variable {prog:Program} {w:World} {K:Type} [DecidableEq K] {knd:HeapKind prog w K} {A:Around} {E:Value→Shared→Prop} {s:Shared} {d a:Addr} {k:K} {xs:List (K×Addr×Value)}
theorem alK {x:Value} {Q:Value→Shared→Prop} (hu:knd.room A) (hkey:knd.is s.heap k a) (hm:s.heap.DictOfH knd d xs) (old:∀ p,atKey xs k=some p→Q p.2 { s with toks:=s.toks+knd.draws k })
  (new:atKey xs k=none→∀ h',h'.DictOfH knd d (storedH xs k a x)→Heap.SameBut d s.heap h'→Q x { s with heap:=h',toks:=s.toks+knd.draws k }) (hz:xs.length≤sizeLine) :
  wpAny (model prog w) A (dictSetDefault d (.ref a) x) Q E s:=by
 obtain⟨o,es,ep,ho,hc,hd,he,his,hn⟩:=hm
 have hsz:es.size=xs.length:=size_of_entries he
 unfold dictSetDefault
 refine wpAny_holding (wpAny_bind (knd.pyHash hu hkey (wpAny_bind (wpAny_dictFind_heap (s:={ s with toks:=s.toks+knd.draws k }) hu hkey ho hd he his hn (fun hno=>?_) fun j p hj=>?_))))
 ·have z:atKey xs k=none:=atKey_none_of_get hno
  have nk:k∉xs.map (·.1):=not_mem_keys_of_get hno
  have sb:Heap.SameBut d s.heap (s.heap.update d (Obj.mapDictKeys (·.push ⟨knd.hash k,.ref a,x⟩))):=Heap.SameBut.update ..
  refine wpAny_bind (wpAny_rule (wpAny_bind (wpAny_updateDictKeys (hz:=by omega) (s:={ s with toks:=s.toks+knd.draws k }) ho hd (wpAny_pure (new z _ ?_ sb)))))
  refine⟨_,_,ep+1,Heap.get?_update_self _ ho (Obj.isFreed_of_dict (Obj.data_mapDictKeys hd _)),hc.mapDictKeys _,Obj.data_mapDictKeys hd _,?_,?_,?_⟩ <;> rw[storedH_new z]
  ·simp [he,entryOfKey]
  ·intro y hy
   rcases List.mem_append.mp hy with hy | hy
   ·exact knd.keeps (his y hy) ho hd sb
   ·have e:y=(k,a,x):=by simpa using hy
    subst e
    exact knd.keeps hkey ho hd sb
  ·rw[List.map_append]
   refine List.nodup_append.mpr ⟨hn,by simp,fun y hy y' hy' e=>?_⟩
   have e2:y' = k:=by simpa using hy'
   exact nk (by rw[← e2,← e];exact hy)
 ·refine wpAny_bind (wpAny_dictEntries (s:={ s with toks:=s.toks+knd.draws k }) ho hd ?_)
  rw[entry_at he j,hj]
  exact wpAny_bind (wpAny_rule (wpAny_pure (old p (atKey_of_get hn hj))))
theorem ae0 (d a:Addr) (hd:(d == sysModules)=false) (x:Value) :
  MeetsIn prog w (Builtin.«dict.setdefault» ⟨[.ref d,.ref a,x],[]⟩) (fun A R s=>knd.room A.in1∧∃ k xs,knd.is s.heap k a∧s.heap.DictOfH knd d xs∧xs.length≤sizeLine ∧
   (∀ p,atKey xs k=some p→R (.ok (.ret p.2)) { s with toks:=s.toks+knd.draws k }) ∧
   (atKey xs k=none→∀ h',h'.DictOfH knd d (storedH xs k a x)→Heap.SameBut d s.heap h'→R (.ok (.ret x)) { s with heap:=h',toks:=s.toks+knd.draws k })) :=
 .of_wp fun A R s ⟨hu,k,xs,hkey,hm,hz,h1,h2⟩=>by
  unfold Builtin.«dict.setdefault» Builtin.Dict.keyAndDefault
  refine wpAny_bind (wpAny_bind (wpAny_notOrdered_dict hm.typeIs (wpAny_pure ?_)))
  show wpAny _ _ (if (d == sysModules)=true then _ else (dictSetDefault d (.ref a) x >>= _)) _ _ s
  rw[hd,if_neg Bool.false_ne_true]
  exact wpAny_bind (alK hu hkey hm (fun p hp=>wpAny_pure ⟨p.2,rfl,h1 p hp⟩) (fun hn h' a1 a2=>wpAny_pure ⟨x,rfl,h2 hn h' a1 a2⟩) hz)
end
end aoU
namespace L2
open PySem PySem.Spec PyProof.Rows
section
variable {X:Cx} {o e f:Expr} {apos cpos:Pos} {td ty tx:TE}
def am7 (td ty tx:TE):TE:=fun σ H Q=>td σ H fun x H1=>∃ a,x = .ref a∧IsD H1 a∧ty σ H1 fun y H2=>tx σ H2 fun z H3=>∃ kvs k b,H3 a=some (.dT kvs)∧y = .ref b∧H3 b=some (.tup (k.map kV))∧kvs.length<sizeLine ∧
 (∀ v,valV kvs k=some v→Q v H3)∧(valV kvs k=none→Q z (upd H3 a (.dT (putK kvs k z))))
theorem Zz (hu:X.A.units+1 < cLine) (ho:PE X o td) (he:PE X e ty) (hf:PE X f tx) (m:M2 X o "setdefault" apos e f cpos):PE X (.Call (.Attribute o "setdefault" apos) [e,f] [] cpos) (am7 td ty tx):=by
 intro pins s σ H Q I h
 refine wpAny_Call_method m.base m.few m.line PySem.F.plainAttrs_dict PySem.F.slot_dict_setdefault PySem.F.type_dict_setdefault (thn (ho pins s σ H _ I h) fun u s1 ⟨x,H1,I1,rx,a,ex,d,q1⟩=>?_)
 subst ex
 obtain rfl:u=Value.ref a:=rx
 obtain⟨t1,t2,_⟩:=aps I1 d
 refine⟨t1,t2,?_⟩
 rw[m.trees]
 refine Calls.callWith_builtin rfl (Calls.evalArgs_plain (Calls.spliced_cons (thn (he pins s1 σ H1 _ I1 q1) fun iv s2 ⟨y,H2,I2,ry,q2⟩ =>
  Calls.spliced_cons (thn (hf pins s2 σ H2 _ I2 q2) fun fv s3 ⟨z,H3,I3,rz,kvs,k,b,ea,ey,eb,hl,q3,q4⟩=>Calls.spliced_nil ?_))))
 subst ey
 cases (show iv=Value.ref b from ry)
 obtain⟨hz,hd,xs,rel,dd⟩:=ap9 I3.hok ea
 have hz':xs.length≤sizeLine:=by rw[← Paired.length rel];exact hz
 refine call_meetsIn PySem.F.slot_dict_setdefault dd.typeIs PySem.F.entry_dict_setdefault (PySem.F.args_dict_setdefault_3 _ _ _) (aoU.ae0 (knd:=tupleKind (nT X.prog X.w)) a b hd fv)
  ⟨tupleKind_room_in1 hu,k,xs,am5 I3.hok eb,dd,hz',fun p hp=>?_,fun hn h' dd' hs=>?_⟩
 ·have r:=rel.val k
  rw[hp] at r
  obtain⟨v,e1,e2⟩ : ∃ v,valV kvs k=some v∧RelV v p.2:=by
   cases hv:valV kvs k with
   | none=>rw[hv] at r;exact r.elim
   | some v=>rw[hv] at r;exact⟨v,rfl,r⟩
  exact⟨v,H3,I3.tok _,e2,q3 v e1⟩
 ·have r:=rel.val k
  rw[hn] at r
  have e1:valV kvs k=none:=by
   cases hv:valV kvs k with
   | none=>rfl
   | some v=>rw[hv] at r;exact r.elim
  obtain⟨q,es,ep,hq,h2,h3,h4,_,h5⟩:=dd'
  have hl':(putK kvs k z).length≤sizeLine:=by have:=Hj kvs k z;omega
  refine⟨z,_,aoh (ob:=.dT (putK kvs k z)) I3 (by rw[ea];exact True.intro) hs ⟨q,hq⟩ ⟨hl',hd,_,(rel.put k eb rz).keeps fun c ys ec=>?_,q,es,ep,hq,h2,h3,h4,h5⟩,rz,q4 e1⟩
  rw[aG (iG ec ea (fun z=>nomatch z))]
  exact ec
end
end L2
namespace L2
open PySem PySem.Spec PyProof.Rows
abbrev g2 (K:W.Frag):TG:=gTup K 2 (amJ (Wz 0) (amJ (Wz 1) gNil))
def CN2 (σ0:St) (D:Addr) (Pv:Nat→List V→Hp→Prop) (i:Nat):St→Hp→Prop:=fun σ H=>(∃ v u,σ = (σ0.set 0 v).set 1 u)∧∃ ys,H D=some (.lst ys)∧Pv i ys H
def CE2 (σ0:St) (D:Addr) (Pv:Nat→List V→Hp→Prop) (i:Nat) (σ : St):VK:=fun y H=>∃ ys,H D=some (.lst ys)∧ys.length<sizeLine∧CN2 σ0 D Pv i σ (upd H D (.lst (ys++[y])))
theorem CE2.mk {σ0:St} {D:Addr} {Pv:Nat→List V→Hp→Prop} {i:Nat} {v u:Option V} {y:V} {H:Hp} {ys:List V} (hD:H D=some (.lst ys)) (hl:ys.length<sizeLine) (h:Pv i (ys++[y]) (upd H D (.lst (ys++[y])))):CE2 σ0 D Pv i ((σ0.set 0 v).set 1 u) y H :=
 ⟨ys,hD,hl,⟨v,u,rfl⟩,_,au,h⟩
theorem CN2.mk {σ0:St} {D:Addr} {Pv:Nat→List V→Hp→Prop} {i:Nat} {v u:Option V} {H:Hp} {ys:List V} (hD:H D=some (.lst ys)) (h:Pv i ys H):CN2 σ0 D Pv i ((σ0.set 0 v).set 1 u) H:=⟨⟨v,u,rfl⟩,ys,hD,h⟩
theorem alL (σ0:St) (a b a' b':Option V):(((σ0.set 0 a).set 1 b).set 0 a').set 1 b' = (σ0.set 0 a').set 1 b':=by
 cases σ0 with
 | nil=>rfl
 | cons x r=>cases r with
  | nil=>rfl
  | cons y r=>rfl
theorem Pk {K:W.Frag} {J:It} {n:Nat} {xs:Nat→V×V} {D:Addr} {tt:TT} {te:TE} {σ0:St} {H1:Hp} {Q:VK} (Pv:Nat→List V→Hp→Prop) (h0:Pv 0 [] (upd H1 D (.lst [])))
  (hgo:∀ i ys H,i<n→Pv i ys H→J.go i H) (hst:∀ ys H,Pv n ys H→J.stop n H) (hy:∀ i ys H x H',i<n→Pv i ys H→J.yld i H x H'→∃ p,H p=none∧x = .ref p∧H' = upd H p (.tup [(xs i).1,(xs i).2]))
  (hs:∀ i ys H p,i<n→Pv i ys H→H D=some (.lst ys)→H p=none→tt ((σ0.set 0 (some (xs i).1)).set 1 (some (xs i).2)) (upd H p (.tup [(xs i).1,(xs i).2])) fun b H4 =>
   if b=true then te ((σ0.set 0 (some (xs i).1)).set 1 (some (xs i).2)) H4 (CE2 σ0 D Pv (i+1) ((σ0.set 0 (some (xs i).1)).set 1 (some (xs i).2))) else CN2 σ0 D Pv (i+1) ((σ0.set 0 (some (xs i).1)).set 1 (some (xs i).2)) H4)
  (hd:∀ ys H,Pv n ys H→H D=some (.lst ys)→Q (.ref D) H) :
  xY J (g2 K) tt te Q σ0 H1 D:=by
 refine⟨fun i m σ H=>m=n - i∧i≤n∧(σ = σ0 ∨ ∃ v u,σ = (σ0.set 0 v).set 1 u)∧∃ ys,H D=some (.lst ys)∧Pv i ys H,⟨n,by simp,Nat.zero_le _,.inl rfl,[],au,h0⟩,?_⟩
 rintro i m σ H ⟨rfl,hi,hσ,ys,hD,p⟩
 by_cases hlt:i<n
 ·refine .inr ⟨hgo i ys H hlt p,CN2 σ0 D Pv (i+1),fun σ' H' ⟨a1,a2⟩=>⟨n - (i+1),by omega,rfl,hlt,.inr a1,a2⟩,fun x H' y=>?_⟩
  obtain⟨q,hq,rfl,rfl⟩:=hy i ys H x H' hlt p y
  have eσ : (σ.set 0 (some (xs i).1)).set 1 (some (xs i).2)=(σ0.set 0 (some (xs i).1)).set 1 (some (xs i).2):=by
   rcases hσ with rfl | ⟨v,u,rfl⟩
   ·rfl
   ·exact alL _ _ _ _ _
  refine⟨q,_,rfl,SqT.of au,rfl,_,_,rfl,?_⟩
  refine⟨_,_,rfl,rfl,?_⟩
  show tt ((σ.set 0 (some (xs i).1)).set 1 (some (xs i).2)) _ _
  rw[eσ]
  exact hs i ys H q hlt p hD hq
 ·have e:i=n:=by omega
  subst e
  exact .inl ⟨hst ys H p,hd ys H p hD⟩
theorem alM {K:W.Frag} {a D:Addr} {xs:List V} {tt:TT} {te:TE} {σ0:St} {H1:Hp} {Q:VK} (Pv:Nat→List V→Hp→Prop) (h0:Pv 0 [] (upd H1 D (.lst [])))
  (hl:∀ i ys H,i≤xs.length→Pv i ys H→H a=some (.lst xs))
  (hs:∀ i x ys H p,xs[i]? = some x→Pv i ys H→H D=some (.lst ys)→H p=none→tt ((σ0.set 0 (some (.int (i:Nat)))).set 1 (some x)) (upd H p (.tup [.int (i:Nat),x])) fun b H4 =>
   if b=true then te ((σ0.set 0 (some (.int (i:Nat)))).set 1 (some x)) H4 (CE2 σ0 D Pv (i+1) ((σ0.set 0 (some (.int (i:Nat)))).set 1 (some x))) else CN2 σ0 D Pv (i+1) ((σ0.set 0 (some (.int (i:Nat)))).set 1 (some x)) H4)
  (hd:∀ ys H,Pv xs.length ys H→H D=some (.lst ys)→Q (.ref D) H):xY (Ite K a) (g2 K) tt te Q σ0 H1 D:=by
 refine Pk (n:=xs.length) (xs:=fun i=>(.int (i:Nat),(xs[i]?).getD .non)) Pv h0 (fun i ys H hi p=>?_) (fun ys H p=>?_) (fun i ys H x H' hi p y=>?_) (fun i ys H p hi hp hD hf=>?_) hd
 ·exact⟨xs,xs[i],SqL.of (hl i ys H (Nat.le_of_lt hi) p),List.getElem?_eq_getElem hi⟩
 ·exact⟨xs,SqL.of (hl _ ys H (Nat.le_refl _) p),Nat.le_refl _⟩
 ·obtain⟨q,hq,e,z⟩:=y
  refine⟨q,hq,e,?_⟩
  rw[z xs xs[i] (SqL.of (hl i ys H (Nat.le_of_lt hi) p)) (List.getElem?_eq_getElem hi),List.getElem?_eq_getElem hi];rfl
 ·have e:xs[i]? = some xs[i]:=List.getElem?_eq_getElem hi
  have z:=hs i xs[i] ys H p e hp hD hf
  dsimp only
  rw[e]
  exact z
theorem am8 {K:W.Frag} {a b D:Addr} {xs zs:List V} {tt:TT} {te:TE} {σ0:St} {H1:Hp} {Q:VK} (Pv:Nat→List V→Hp→Prop) (hxz:xs.length=zs.length) (h0:Pv 0 [] (upd H1 D (.lst [])))
  (hl:∀ i ys H,i≤xs.length→Pv i ys H→H a=some (.lst xs)∧H b=some (.lst zs))
  (hs:∀ i x z ys H p,xs[i]? = some x→zs[i]? = some z→Pv i ys H→H D=some (.lst ys)→H p=none→tt ((σ0.set 0 (some x)).set 1 (some z)) (upd H p (.tup [x,z])) fun b H4 =>
   if b=true then te ((σ0.set 0 (some x)).set 1 (some z)) H4 (CE2 σ0 D Pv (i+1) ((σ0.set 0 (some x)).set 1 (some z))) else CN2 σ0 D Pv (i+1) ((σ0.set 0 (some x)).set 1 (some z)) H4)
  (hd:∀ ys H,Pv xs.length ys H→H D=some (.lst ys)→Q (.ref D) H):xY (Itz K a b) (g2 K) tt te Q σ0 H1 D:=by
 refine Pk (n:=xs.length) (xs:=fun i=>((xs[i]?).getD .non,(zs[i]?).getD .non)) Pv h0 (fun i ys H hi p=>?_) (fun ys H p=>?_) (fun i ys H x H' hi p y=>?_) (fun i ys H p hi hp hD hf=>?_) hd
 ·obtain⟨h1,h2⟩:=hl i ys H (Nat.le_of_lt hi) p
  exact⟨xs,zs,xs[i],zs[i]'(by omega),SqL.of h1,SqL.of h2,List.getElem?_eq_getElem hi,List.getElem?_eq_getElem (by omega)⟩
 ·obtain⟨h1,h2⟩:=hl _ ys H (Nat.le_refl _) p
  exact⟨xs,zs,SqL.of h1,SqL.of h2,.inl (Nat.le_refl _)⟩
 ·obtain⟨h1,h2⟩:=hl i ys H (Nat.le_of_lt hi) p
  obtain⟨q,hq,e,z⟩:=y
  have e1:xs[i]? = some xs[i]:=List.getElem?_eq_getElem hi
  have e2:zs[i]? = some (zs[i]'(by omega)):=List.getElem?_eq_getElem (by omega)
  refine⟨q,hq,e,?_⟩
  rw[z xs zs _ _ (SqL.of h1) (SqL.of h2) e1 e2,e1,e2];rfl
 ·have e1:xs[i]? = some xs[i]:=List.getElem?_eq_getElem hi
  have e2:zs[i]? = some (zs[i]'(by omega)):=List.getElem?_eq_getElem (by omega)
  have z:=hs i _ _ ys H p e1 e2 hp hD hf
  dsimp only
  rw[e1,e2]
  exact z
section
variable {X:Cx} {o e:Expr} {t:TA} {apos cpos:Pos}
theorem ZC (K:W.Frag) {to:TE} (ho:PE X o to) (ha:PA X [e] t) (h:X.K=K:=by rfl) (hbase:attributeBase o "extend" X.env (eval o X.env)=eval o X.env:=by rfl)
  (hfew:((backTo cpos (starEach [e] X.env)).all (fun x => !x.1) && (backToKw cpos (keywordEach [] X.env)).all (fun x=>x.1.isSome)
   && decide ([e].length+([]:List Keyword).length+(if ([]:List Keyword).isEmpty then 0 else 1) < 30))=true:=by rfl)
  (hline:(apos.endLine == cpos.line)=true:=by rfl) (hs:starEach [e] X.env=(false,eval e X.env)::starEach [] X.env:=by rfl) (hplain:(backTo cpos (starEach [] X.env)).any (·.1)=false:=by rfl) :
  PE X (.Call (.Attribute o "extend" apos) [e] [] cpos) (tBM K "list" akL to t):=by subst h;exact amU PySem.F.plainAttrs_list PySem.F.slot_list_extend PySem.F.type_list_extend alD ho ha hbase hfew hline hs hplain
end
end L2
namespace L2
open PySem PySem.Spec PyProof.Rows
theorem ahw {K:W.Frag} {a:Addr} {xs:List V} {g:TG} {tb:TS} {D:Ends} {σ : St} {H:Hp} (Pv:Nat→St→Hp→Prop) (h0:Pv 0 σ H) (hl:∀ i σ H,i≤xs.length→Pv i σ H→H a=some (.lst xs))
  (hs:∀ i x σ H p,xs[i]? = some x→Pv i σ H→H p=none→g (.ref p) σ (upd H p (.tup [.int (i:Nat),x])) fun σ2 H2=>tb { D with nx:=Pv (i+1),ct:=Pv (i+1),bk:=D.nx } σ2 H2) (hd:∀ σ H,Pv xs.length σ H→D.nx σ H) :
  ∃ W:Nat→Nat→St→Hp→Prop,(∃ m,W 0 m σ H)∧∀ i m σ H,W i m σ H →
   ((Ite K a).stop i H∧D.nx σ H)∨((Ite K a).go i H∧∃ N:St→Hp→Prop,(∀ σ' H',N σ' H'→∃ m',m'<m∧W (i+1) m' σ' H')∧∀ x H',(Ite K a).yld i H x H'→g x σ H' fun σ2 H2=>tb { D with nx:=N,ct:=N,bk:=D.nx } σ2 H2):=by
 refine⟨fun i m σ H=>m=xs.length - i∧i≤xs.length∧Pv i σ H,⟨xs.length,by simp,Nat.zero_le _,h0⟩,?_⟩
 rintro i m σ H ⟨rfl,hi,p⟩
 have q:SqL K H a xs:=SqL.of (hl i σ H hi p)
 by_cases hlt:i<xs.length
 ·refine .inr ⟨⟨xs,xs[i],q,by simp [hlt]⟩,Pv (i+1),fun σ' H' p'=>⟨xs.length - (i+1),by omega,rfl,hlt,p'⟩,fun x H' y=>?_⟩
  obtain⟨t,ht,rfl,y⟩:=y
  have e:xs[i]? = some xs[i]:=List.getElem?_eq_getElem hlt
  rw[y xs xs[i] q e]
  exact hs i xs[i] σ H t e p ht
 ·have e:i=xs.length:=by omega
  subst e
  exact .inl ⟨⟨xs,q,Nat.le_refl _⟩,hd σ H p⟩
end L2
namespace Hl
open PySem PySem.W PyProof.Rows
def run {α : Type} (b:Nat→Nat→Bool):KasT α → α
 | .ret a=>a
 | .ask i j f=>run b (f (b i j))
section
variable (k:Nat→Nat)
def at' (p:Array Nat) (t:Nat):Nat:=k (p.getD t 0)
def Nd (p:Array Nat):Prop:=(p.toList.map k).Nodup
def Up (p:Array Nat) (m:Nat):Prop:=∀ t,0 < t→t<m→at' k p (t - 1)<at' k p t
def Dn (p:Array Nat) (m:Nat):Prop:=∀ t,0 < t→t<m→at' k p t<at' k p (t - 1)
variable {k}
theorem Nd.ne {p:Array Nat} (h:Nd k p) {t u:Nat} (htu:t<u) (hu:u<p.size):at' k p t≠at' k p u:=by
 intro z
 have e1:(p.toList.map k)[t]? = some (at' k p t):=by
  rw[List.getElem?_map,Array.getElem?_toList,Array.getElem?_eq_getElem (by omega)]
  unfold at';simp [Array.getD,(by omega:t<p.size)]
 have e2:(p.toList.map k)[u]? = some (at' k p u):=by
  rw[List.getElem?_map,Array.getElem?_toList,Array.getElem?_eq_getElem hu]
  unfold at';simp [Array.getD,hu]
 have hl:t<(p.toList.map k).length:=by rw[List.length_map,Array.length_toList];omega
 have:=(List.getElem?_inj (i:=t) (j:=u) hl h).mp (by rw[e1,e2,z])
 omega
theorem Up.lt {p:Array Nat} {m:Nat} (h:Up k p m):∀ {t u:Nat},t<u→u<m→at' k p t<at' k p u
 | t,0,htu,_=>absurd htu (Nat.not_lt_zero _)
 | t,u+1,htu,hu=>by
  have h1:=h (u+1) (Nat.succ_pos _) hu
  rw[Nat.add_sub_cancel] at h1
  rcases Nat.lt_or_eq_of_le (Nat.le_of_lt_succ htu) with z | z
  ·exact Nat.lt_trans (h.lt z (by omega)) h1
  ·subst z;exact h1
end
end Hl
namespace Hl
open PySem PySem.W PyProof.Rows
def BT (n:Nat) {α : Type} (Q : α → Prop):KasT α → Prop
 | .ret a=>Q a
 | .ask i j f=>i<n∧j<n∧∀ b,BT n Q (f b)
theorem BT.bind {n:Nat} {α β : Type} {f : α → KasT β} {Q : β → Prop}:∀ {t:KasT α},BT n (fun a=>BT n Q (f a)) t→BT n Q (t.bind f)
 | .ret _,h=>h
 | .ask _ _ _,⟨h1,h2,h3⟩=>⟨h1,h2,fun b=>BT.bind (h3 b)⟩
section
variable {n:Nat}
def PB (n:Nat) (p:Array Nat):Prop:=∀ x∈p.toList,x<n
theorem PB.at {p:Array Nat} (h:PB n p) (h0:0 < n) (t:Nat):p.getD t 0 < n:=by
 by_cases ht:t<p.size
 ·have:p.getD t 0=p[t]:=by simp [Array.getD,ht]
  rw[this]
  exact h _ (by simp)
 ·have:p.getD t 0=0:=by simp [Array.getD,ht]
  rw[this];exact h0
end
section
variable {prog:Program} {w:World} {A:Around} {E:Value→Shared→Prop} {s:Shared} {vs:List Value} {ps:List (Nat×Nat)}
end
end Hl
namespace SetP
open PySem
def fL (N i:Nat):Nat:=(i * 5+1) % N
def fN (N:Nat):Nat→Nat→Nat
 | 0,i=>i
 | r+1,i=>fN N r (fL N i)
theorem ae1 (N:Nat):∀ (a b i:Nat),fN N (a+b) i=fN N b (fN N a i)
 | 0,b,i=>by rw[Nat.zero_add];rfl
 | a+1,b,i=>by rw[Nat.succ_add];exact ae1 N a b (fL N i)
structure Per (N:Nat):Prop where
 all:∀ e,e<N→∃ m,m<N∧fN N m 0=e
 back:fN N N 0=0
def meets (N e:Nat):Bool:=(List.range N).any fun m=>fN N m 0 == e
theorem Per.of {N:Nat} (h:((List.range N).all (meets N) && (fN N N 0 == 0))=true):Per N:=by
 rw[Bool.and_eq_true] at h
 refine⟨fun e he=>?_,beq_iff_eq.mp h.2⟩
 have:=List.all_eq_true.mp h.1 e (List.mem_range.mpr he)
 unfold meets at this
 obtain⟨m,hm,q⟩:=List.any_eq_true.mp this
 exact⟨m,List.mem_range.mp hm,beq_iff_eq.mp q⟩
theorem Per.reach {N:Nat} (P:Per N) {i e:Nat} (hi:i<N) (he:e<N):∃ r,r<N∧fN N r i=e:=by
 obtain⟨a,ha,rfl⟩:=P.all i hi
 obtain⟨b,hb,rfl⟩:=P.all e he
 by_cases q:a≤b
 ·exact⟨b - a,by omega,by rw[← ae1];congr 1;omega⟩
 ·refine⟨N+b - a,by omega,?_⟩
  rw[← ae1,show a+(N+b - a)=N+b by omega,ae1,P.back]
def seg (M i pt:Nat):SetTable.Probe:={ j:=i,more:=SetTable.runEnd M i - i,i:=i,perturb:=pt,dummy:=none }
section
variable {t:SetTable} {f:Nat→Int} {h:Int}
abbrev go (t:SetTable) (f:Nat→Int) (h:Int):=SetTable.probe.go t f h
end
end SetP
namespace SetP
open PySem
abbrev free (M:Nat) (owner:Array (Option Nat)):=SetTable.layClean.free M owner
theorem getD_none {owner:Array (Option Nat)} {j:Nat} (h:(owner.getD j (some 0)).isNone=true):owner.toList[j]? = some none:=by
 rw[Array.getElem?_toList]
 by_cases hj:j<owner.size
 ·have:owner.getD j (some 0)=owner[j]:=by simp [Array.getD,hj]
  rw[this] at h
  rw[Array.getElem?_eq_getElem hj]
  cases e:owner[j] with
  | none=>rfl
  | some v=>rw[e] at h;cases h
 ·have:owner.getD j (some 0)=some 0:=by simp [Array.getD,hj]
  rw[this] at h;cases h
end SetP
namespace SetP
open PySem
def advM (M:Nat) (p:SetTable.Probe):SetTable.Probe :=
 if p.more > 0 then { p with j:=p.j+1,more:=p.more - 1 } else
 { p with j:=(SetTable.leap M p.i p.perturb).1,more:=SetTable.runEnd M (SetTable.leap M p.i p.perturb).1 - (SetTable.leap M p.i p.perturb).1,i:=(SetTable.leap M p.i p.perturb).1,perturb:=(SetTable.leap M p.i p.perturb).2 }
def advN (M:Nat):Nat→SetTable.Probe→SetTable.Probe
 | 0,p=>p
 | n+1,p=>advN M n (advM M p)
def st0 (M:Nat) (h:Int):SetTable.Probe:=seg M (SetTable.bits h % (M+1)) (SetTable.bits h)
def pth (M:Nat) (h:Int) (n:Nat):Nat:=(advN M n (st0 M h)).j
def Occ (M:Nat) (occ:Nat→Prop) (h:Int) (j:Nat):Prop:=∃ n,pth M h n=j∧∀ m,m<n→occ (pth M h m)
theorem Occ.mono {M:Nat} {o o':Nat→Prop} {h:Int} {j:Nat} (k:∀ s,o s→o' s):Occ M o h j→Occ M o' h j:=fun ⟨n,e,q⟩=>⟨n,e,fun m hm=>k _ (q m hm)⟩
def taken (owner:Array (Option Nat)) (s:Nat):Prop:=∃ y,owner.toList[s]? = some (some y)
end SetP
namespace SetP
open PySem
def aqa (M:Nat) (es:List (Int×Value)) (pl:List Nat):Prop:=∀ (i:Nat) (e:Int×Value) (j:Nat),es[i]? = some e→pl[i]? = some j→Occ M (· ∈ pl) e.1 j
end SetP
namespace SetP
open PySem
def TabOk (t:SetTable) (n:Nat):Prop:=(t.mask=7∧n≤4)∨(t.mask=31∧n≤18)∨(t.mask=127∧n≤76)
theorem TabOk.lt {t:SetTable} {n:Nat} (h:TabOk t n):n+1≤t.mask:=by
 rcases h with ⟨h,q⟩ | ⟨h,q⟩ | ⟨h,q⟩ <;> rw[h] <;> omega
theorem TabOk.way {t:SetTable} {n:Nat} (h:TabOk t n):t.gaveWay=false:=by
 unfold SetTable.gaveWay
 rcases h with ⟨h,q⟩ | ⟨h,q⟩ | ⟨h,q⟩ <;> rw[h] <;> rfl
abbrev TK (prog:Program) (w:World):HeapKind prog w (List Int):=tupleKind (intKind prog w)
structure RowT (prog:Program) (w:World) (h:Heap) (es:Array (Int×Value)) (t:SetTable) (L:List (List Int×Addr)):Prop where
 el:es.toList=L.map fun x=>((TK prog w).hash x.1,Value.ref x.2)
 ks:∀ x∈L,(TK prog w).is h x.1 x.2
 nd:(L.map (·.1)).Nodup
 tb:TabOk t L.length
 pl:t.plain=true
 oc:aqa t.mask es.toList t.place.toList
 fits:t.fits es.size=true
 good:SetQ.Good (!w.params.followText "set-order") t
section
variable {prog:Program} {w:World} {A:Around} {E:Value→Shared→Prop} {s:Shared}
theorem RowT.sz {h:Heap} {es:Array (Int×Value)} {t:SetTable} {L:List (List Int×Addr)} (r:RowT prog w h es t L):es.size=L.length:=by
 have:=congrArg List.length r.el
 rw[List.length_map,Array.length_toList] at this
 exact this
end
end SetP
namespace SetP
open PySem
section
variable {prog:Program} {w:World} {A:Around} {E:Value→Shared→Prop} {s:Shared}
def putAt {α : Type} (l:List α) (p:Nat) (x : α):List α:=l.take p++x::l.drop p
end
end SetP
namespace SetP
open PySem PySem.Spec PyProof.Rows
section
variable {prog:Program} {w:World} {A:Around} {R:Result→Shared→Prop} {J:Addr} {fp wr:List Addr} {G:Array GenState→Array GenState→Prop} {n:Nat} {P:Nat→Value→Prop} {St:Nat→Shared→Prop}
end
section
variable {prog:Program} {w:World} {A:Around} {E:Value→Shared→Prop} {s:Shared}
end
end SetP
namespace Hl
open PySem PySem.W PyProof.Rows
section
variable {prog:Program} {w:World} {A:Around} {E:Value→Shared→Prop} {s:Shared} {vs:List Value} {ps:List (Nat×Nat)}
end
end Hl
namespace L2
open PySem PySem.Spec PyProof.Rows
section
variable {X:Cx}
structure ad4 (K:W.Frag) (C:Addr):Prop where
 a:W.findIn K (.ref C) "__class__" = some (some (.builtin "object.__class__"))
 n:W.specialIn K (.builtin "object.__class__") "__get__" = some (some (.builtin "getset_descriptor.__get__"))
 tk:W.takesIn K (.builtin "object.__class__")=some true
 m:W.mroIn K C (.type "object")=some true
theorem ad4.ty {K:W.Frag} {H:Hp} {a C dx:Addr} {fs:List (Str×V)} (t:ad4 K C) (cl:Cls K C) (e:H a=some (.ins C dx fs)):TyOf K H (.ref a) (.ref C):=.ins e cl t.a t.n t.tk t.m
def rIsC (K:W.Frag):List V→Hp→VK→Prop:=fun xs H Q=>∃ x t C b,xs = [x,.ref C]∧TyOf K H x t∧W.kitOne K t (.ref C)=some b∧Q (.bl b) H
theorem ae2:mK X (.builtin "isinstance") (rIsC X.K):=by
 intro pins s σ H xs us Q I r h
 obtain⟨x,t,n,b,rfl,ty,e,q⟩:=h
 obtain⟨u,c,rfl,rx,rc⟩:=vals2 r
 obtain rfl:c=Value.ref n:=rc
 exact adV I rx ty e fun tk=>⟨.bl b,H,I.tok tk,rfl,q⟩
theorem oX (K:W.Frag) (h:X.K=K:=by rfl):mK X (.builtin "isinstance") (rIsC K):=by subst h;exact ae2
def aoi (t u:TE):TE:=fun σ H Q=>t σ H Q∨u σ H Q
theorem ad5 {e:Expr} {t u:TE} (h1:PE X e t) (h2:PE X e u):PE X e (aoi t u):=fun pins s σ H Q I h=>h.elim (h1 pins s σ H Q I) (h2 pins s σ H Q I)
theorem ae3 (a b:Bool):MeetsSeq.EqGives (.bool a) (.bool b) (a == b):=fun prog w A E s Q h=>SeqAt.EqAt.bool_bool (A:=A) (s:=s) a b prog w E Q h
def Y7:Value→Bool
 | .bool b=>b
 | _=>false
def akQ:V→List V→Hp→VK→Prop:=fun x vs H Q=>∃ (l:Addr) (bs:List Bool) (j:Nat),x = .ref l∧vs = [.bl true]∧H l=some (.lst (bs.map V.bl))∧bs[j]? = some true∧(∀ m,m<j→bs[m]? = some false)∧Q (.int (j:Nat)) H
theorem alN:MtM X "list.index" akQ:=by
 intro pins s σ H x vs v us Q I rx rv h
 obtain⟨l,bs,j,rfl,rfl,hH,hj,hm,q⟩:=h
 cases rx
 obtain⟨u,rfl,ru⟩:=rv.one
 obtain rfl:u=Value.bool true:=ru
 obtain⟨z,its,n,r,hl,e⟩:=I.lstM hH
 have hjl:j<its.length:=by
  have:=(List.getElem?_eq_some_iff.mp hj).1
  rw[← hl,List.length_map];exact this
 have hat:∀ i (hi:i<its.length),∃ b,bs[i]? = some b∧its[i] = .bool b:=fun i hi=>aeZ r (List.getElem?_eq_getElem hi)
 refine call_meets F.slot_list_index ⟨_,e,rfl⟩ F.entry_list_index (F.args_list_index_2 _ _)
  (MeetsSeq.list_index l its.toArray n (.bool true) Y7 (fun y hy=>?_) j (by rw[List.size_toArray];exact hjl) ?_ ?_ fun m hm' hmj=>?_) ⟨e,?_⟩
 ·obtain⟨i,hi,rfl⟩:=List.mem_iff_getElem.mp (Array.mem_toList_iff.mpr hy)
  obtain⟨b,_,eb⟩:=hat i hi
  show MeetsSeq.EqGives its[i] _ (Y7 its[i])
  rw[eb]
  have:=ae3 b true
  rwa [show(b == true)=b by cases b <;> rfl] at this
 ·have h1:its.length≤sizeLine:=by omega
  have h2:(sizeLine:Nat) < 2 ^ 63 - 1:=by decide
  omega
 ·obtain⟨b,h1,eb⟩:=hat j hjl
  rw[hj] at h1
  cases h1
  show Y7 its[j] = true
  rw[eb];rfl
 ·obtain⟨b,h1,eb⟩:=hat m (by rw[List.size_toArray] at hm';exact hm')
  rw[hm m hmj] at h1
  cases h1
  show Y7 its[m] = false
  rw[eb];rfl
 ·exact⟨.int (j:Nat),H,I.tok _,⟨_,rfl⟩,q⟩
variable {o e:Expr} {t:TA} {apos cpos:Pos}
theorem alO (K:W.Frag) {to:TE} (ho:PE X o to) (ha:PA X [e] t) (h:X.K=K:=by rfl) (hbase:attributeBase o "index" X.env (eval o X.env)=eval o X.env:=by rfl)
  (hfew:((backTo cpos (starEach [e] X.env)).all (fun x => !x.1) && (backToKw cpos (keywordEach [] X.env)).all (fun x=>x.1.isSome)
   && decide ([e].length+([]:List Keyword).length+(if ([]:List Keyword).isEmpty then 0 else 1) < 30))=true:=by rfl)
  (hline:(apos.endLine == cpos.line)=true:=by rfl) (hs:starEach [e] X.env=(false,eval e X.env)::starEach [] X.env:=by rfl) (hplain:(backTo cpos (starEach [] X.env)).any (·.1)=false:=by rfl) :
  PE X (.Call (.Attribute o "index" apos) [e] [] cpos) (tBM K "list" akQ to t):=by subst h;exact amU PySem.F.plainAttrs_list PySem.F.slot_list_index PySem.F.type_list_index alN ho ha hbase hfew hline hs hplain
theorem alP (K:W.Frag) {to:TE} (ho:PE X o to) (h:X.K=K:=by rfl) (hbase:attributeBase o "clear" X.env (eval o X.env)=eval o X.env:=by rfl) (hline:(apos.endLine == cpos.line)=true:=by rfl) :
  PE X (.Call (.Attribute o "clear" apos) [] [] cpos) (tBM0 K "list" amW to):=by subst h;exact apm PySem.F.plainAttrs_list PySem.F.slot_list_clear PySem.F.type_list_clear amX ho hbase hline
end
end L2
namespace L2
open PySem PySem.Spec PyProof.Rows
theorem aoj {c:TT} {tb:TS} {D:Ends} {σ : St} {H:Hp} (Pv:Nat→St→Hp→Prop) (m0:Nat) (h0:Pv m0 σ H)
  (hs:∀ m σ H,Pv m σ H→c σ H fun b H1=>if b=true then tb { D with nx:=fun σ' H'=>∃ m',m'<m∧Pv m' σ' H',ct:=fun σ' H'=>∃ m',m'<m∧Pv m' σ' H',bk:=D.nx } σ H1 else D.nx σ H1)
  (mono:∀ σ H Q Q',(∀ b H1,Q b H1→Q' b H1)→c σ H Q→c σ H Q'):ajg c tb D σ H:=by
 refine⟨Pv,⟨m0,h0⟩,fun m σ H p=>mono σ H _ _ (fun b H1 q=>?_) (hs m σ H p)⟩
 cases b with
 | true=>exact⟨_,fun σ' H' h=>h,q⟩
 | false=>exact q
def rInD (neg:Bool):R2:=fun x y H Q=>∃ (d:PyData) (ds:List PyData),Dt H x d∧Dt H y (.list ds)∧d.canLay0=true∧PyData.canLayAll0 ds=true∧d.depth≤60∧Q (.bl (if neg=true then !(ds.any fun e=>PyData.eqv e d) else ds.any fun e=>PyData.eqv e d)) H
section
variable {X:Cx}
theorem ZD (hu:X.A.units+64 < cLine):OpR X (compareOp .In) (rInD false):=by
 intro pins s σ H x y v u Q I rx ry h
 obtain⟨d,ds,d1,d2,c1,c2,hd,q⟩:=h
 obtain⟨as,ra⟩:=d1.reads I.hok rx
 obtain⟨bs,rb⟩:=d2.reads I.hok ry
 exact SeqAt.in_list_reads rb ra c2 c1 (by have:min (PyData.depthAll ds) d.depth≤d.depth:=Nat.min_le_right _ _;omega) ⟨.bl _,H,I,rfl,q⟩
theorem ad6 (hu:X.A.units+64 < cLine):OpR X (compareOp .NotIn) (rInD true):=by
 intro pins s σ H x y v u Q I rx ry h
 obtain⟨d,ds,d1,d2,c1,c2,hd,q⟩:=h
 obtain⟨as,ra⟩:=d1.reads I.hok rx
 obtain⟨bs,rb⟩:=d2.reads I.hok ry
 exact SeqAt.notIn_list_reads rb ra c2 c1 (by have:min (PyData.depthAll ds) d.depth≤d.depth:=Nat.min_le_right _ _;omega) ⟨.bl _,H,I,rfl,q⟩
theorem alQ (hc:X.calm=true):mK X (.builtin "min") (fun xs H Q=>∃ (p:Addr) (a b:Int),xs = [.ref p]∧SqL X.K H p [.int a,.int b]∧Q (.int (min a b)) H):=by
 intro pins s σ H xs us Q I r h
 obtain⟨p,a,b,rfl,hq,q⟩:=h
 obtain⟨u,rfl,rx⟩:=vals1 r
 cases rx
 obtain⟨its,rv,pl,hz⟩:=I.list hq
 obtain⟨u1,u2,rfl,⟨t1,rfl⟩,⟨t2,rfl⟩⟩:=vals2 rv
 have hl:s.heap.IsList p (intItems #[(a,t1),(b,t2)]):=by
  have:=pl.isList
  simpa [intItems] using this
 refine min_intList (I.ok.hd hc) hl (show 0 < 2 by decide) fun v h' tk hv hk=>?_
 obtain⟨t,rfl⟩:=intItems_at hv
 obtain⟨h1,h2⟩:=argBest_lt (numAt #[(a,t1),(b,t2)]) 1
 have n0:numAt #[(a,t1),(b,t2)] 0=a:=rfl
 have n1:numAt #[(a,t1),(b,t2)] 1=b:=rfl
 have e:numAt #[(a,t1),(b,t2)] (argBest (fun i j=>decide (numAt #[(a,t1),(b,t2)] i<numAt #[(a,t1),(b,t2)] j)) (#[(a,t1),(b,t2)].size - 1))=min a b:=by
  show numAt #[(a,t1),(b,t2)] (argBest (fun i j=>decide (numAt #[(a,t1),(b,t2)] i<numAt #[(a,t1),(b,t2)] j)) 1)=min a b
  have g0:=h2 0 (by decide)
  have g1:=h2 1 (by decide)
  rw[n0] at g0
  rw[n1] at g1
  generalize argBest (fun i j=>decide (numAt #[(a,t1),(b,t2)] i<numAt #[(a,t1),(b,t2)] j)) 1=m at h1 g0 g1 ⊢
  have hm:m=0∨m=1:=by omega
  rcases hm with rfl | rfl
  ·rw[n0] at g1 ⊢;omega
  ·rw[n1] at g0 ⊢;omega
 exact⟨.int (min a b),H,I.kept hk,⟨t,by rw[e]⟩,q⟩
def aqb (K:W.Frag):List V→Hp→VK→Prop:=fun xs H Q=>∃ (p:Addr) (a b:Int),xs = [.ref p]∧SqL K H p [.int a,.int b]∧Q (.int (min a b)) H
theorem ajr (K:W.Frag) (hc:X.calm=true) (h:X.K=K:=by rfl):mK X (.builtin "min") (aqb K):=by subst h;exact alQ hc
end
end L2
namespace Hl
open PySem PySem.W PySem.Spec PyProof.Rows SetP
section
variable {prog:Program} {w:World} {A:Around} {E:Value→Shared→Prop} {s:Shared}
end
end Hl
namespace Hl
open PySem PySem.W PySem.Spec PyProof.Rows SetP
def h2 (x y:Nat):Int:=reduceHash (Builtin.Tuple.tupleHashOf [hashInt ((x:Nat):Int),hashInt ((y:Nat):Int)])
end Hl
namespace L2
open PySem PySem.Spec PyProof.Rows Hl SetP
def TpL (H:Hp):List Addr→List (Nat×Nat)→Prop
 | [],[]=>True
 | t::ts,p::ps=>H t=some (.tup [.int (p.1:Nat),.int (p.2:Nat)])∧TpL H ts ps
 | _,_=>False
theorem TpL.len {H:Hp}:∀ {ts:List Addr} {ps:List (Nat×Nat)},TpL H ts ps→ts.length=ps.length
 | [],[],_=>rfl
 | _::_,_::_,⟨_,t⟩=>congrArg (· + 1) (TpL.len t)
 | [],_::_,h=>h.elim
 | _::_,[],h=>h.elim
theorem TpL.get {H:Hp}:∀ {ts:List Addr} {ps:List (Nat×Nat)} {i:Nat} {t:Addr},TpL H ts ps→ts[i]? = some t→∃ p,ps[i]? = some p∧H t=some (.tup [.int (p.1:Nat),.int (p.2:Nat)])
 | [],[],i,t,_,h=>by simp at h
 | t::_,p::_,0,u,⟨h,_⟩,e=>⟨p,rfl,by
   have:t=u:=by simpa using e
   rw[← this];exact h⟩
 | _::_,_::_,i+1,u,⟨_,t⟩,e=>by
  obtain⟨p,h1,h2⟩:=TpL.get (i:=i) t (by simpa using e)
  exact⟨p,by simpa using h1,h2⟩
 | [],_::_,_,_,h,_=>h.elim
 | _::_,[],_,_,h,_=>h.elim
theorem TpL.of {H:Hp}:∀ {M:List ((Nat×Nat)×Addr)},(∀ q∈M,H q.2=some (.tup [.int (q.1.1:Nat),.int (q.1.2:Nat)]))→TpL H (M.map (·.2)) (M.map (·.1))
 | [],_=>trivial
 | q::M,h=>⟨h q List.mem_cons_self,TpL.of fun x hx=>h x (List.mem_cons_of_mem _ hx)⟩
section
variable {X:Cx}
end
end L2
namespace L2
open PySem PySem.W PySem.Spec PyProof.Rows Hl SetP
theorem Inv.grow {X:Cx} {pins:List (Addr×Obj)} {σ : St} {H H':Hp} {s:Shared} {h':Heap} {t':Nat} (I:Inv X pins σ H s) (k:∀ b u,s.heap.get? b=some u→h'.get? b=some u)
  (ext:∀ b u,H b=some u→H' b=some u) (free:∀ b o,s.heap.get? b=some o→H b=none→H' b=none) (new:∀ b u,H b=none→H' b=some u→jl X.prog X.w H' h' b u) :
  Inv X pins σ H' { s with heap:=h',toks:=t' }:=by
 refine I.un ⟨fun b o e _ _ _=>k b o e,fun b o e _ _ _=>⟨o.slots,k b o e⟩,fun b o e n _=>free b o e n,fun b o e _=>⟨o,k b o e⟩,fun b xs e=>ext b _ e,fun b o u e=>ext b _ e,fun b ps e=>⟨#[],by rw[ext b _ e];simp⟩⟩ fun b u e=>?_
 cases q:H b with
 | none=>exact new b u q e
 | some u' =>
  have z:=ext b u' q
  rw[e] at z
  cases z
  exact(I.hok b u q).stay (fun c v _ z=>k c v z) (fun c z=>ext c _ z) fun c xs z=>ext c _ z
section
variable {X:Cx} {pins:List (Addr×Obj)} {σ : St} {H:Hp} {s:Shared} {a v:Addr} {A:Around} {E:Value→Shared→Prop} {ps:List (Nat×Nat)}
theorem Ho (K:W.Frag) (h:X.K=K:=by rfl):SlR X (rSlL K):=by subst h;exact aoc
end
end L2
namespace L2
open PySem PySem.Spec PyProof.Rows
theorem filterMap_some {α β : Type} {f : α → Option β} {g : α → β}:∀ {l:List α},(∀ x∈l,f x=some (g x))→l.filterMap f=l.map g
 | [],_=>rfl
 | x::l,h=>by rw[List.filterMap_cons,h x List.mem_cons_self,List.map_cons,filterMap_some fun y hy=>h y (List.mem_cons_of_mem _ hy)]
theorem Vals.rev:∀ {xs:List V} {us:List Value},Vals xs us→Vals xs.reverse us.reverse
 | [],_,h=>by cases h;exact .nil
 | x::xs,_,h=>by
  cases h with
  | cons p q =>
   rw[List.reverse_cons,List.reverse_cons]
   exact(Vals.rev q).append (.cons p .nil)
theorem am9 (its:List Value):slicePick its.toArray none none (some (-1))=its.reverse.toArray:=by
 have hb:sliceBounds none none (some (-1)) its.toArray.size=((its.length:Int) - 1,-1,-1):=by
  simp [sliceBounds]
 unfold slicePick
 rw[hb]
 have hr:sliceRange ((its.length:Int) - 1) (-1) (-1)=(List.range its.length).map fun k=>its.length - 1 - k:=by
  unfold sliceRange
  have h1:¬ ((-1:Int) > 0):=by decide
  simp only [h1,if_false]
  by_cases h:its.length=0
  ·have h2:¬ ((its.length:Int) - 1 > -1):=by omega
   rw[if_neg h2,h];rfl
  ·have h2:((its.length:Int) - 1 > -1):=by omega
   rw[if_pos h2]
   have e:(((its.length:Int) - 1 - -1 - -1 - 1) / (- -1)).toNat=its.length:=by
    have e1:((its.length:Int) - 1 - -1 - -1 - 1)=its.length:=by omega
    rw[e1,show(- -1:Int)=1 by decide,Int.ediv_one,Int.toNat_natCast]
   rw[e]
   refine List.map_congr_left fun k hk=>?_
   have:=List.mem_range.mp hk
   omega
 simp only [hr]
 congr 1
 have hm:((List.range its.length).map fun k=>its.length - 1 - k).filterMap (fun i=>its.toArray[i]?)=its.reverse:=by
  rw[List.filterMap_map]
  have:∀ k∈List.range its.length,((fun i=>its.toArray[i]?) ∘ fun k=>its.length - 1 - k) k=some ((its.reverse)[k]?.getD .none):=fun k hk=>by
   have hk':=List.mem_range.mp hk
   have h2:its.length - 1 - k<its.length:=by omega
   have h3:k<its.reverse.length:=by rw[List.length_reverse];exact hk'
   show its.toArray[its.length - 1 - k]? = _
   rw[List.getElem?_toArray,List.getElem?_eq_getElem h2,List.getElem?_eq_getElem h3,List.getElem_reverse]
   rfl
  rw[filterMap_some this]
  refine List.ext_getElem? fun i=>?_
  rw[List.getElem?_map]
  by_cases hi:i<its.length
  ·have h3:i<its.reverse.length:=by rw[List.length_reverse];exact hi
   rw[List.getElem?_range hi,List.getElem?_eq_getElem h3]
   simp [List.getElem?_eq_getElem h3]
  ·rw[List.getElem?_eq_none (by rw[List.length_range];omega),List.getElem?_eq_none (by rw[List.length_reverse];omega)]
   rfl
 exact hm
section
variable {X:Cx} {e st:Expr} {te:TE} {ts:TO} {pos p2:Pos}
def tRev (K:W.Frag) (te:TE) (ts:TO):TE:=fun σ H Q=>te σ H fun x H1=>ts σ H1 fun o H2=>o=some (-1)∧∃ a xs,x = .ref a∧SqL K H2 a xs∧∀ p,H2 p=none→Q (.ref p) (upd H2 p (.lst xs.reverse))
theorem apt (he:PE X e te) (hs:PO X (some st) ts):PE X (.Subscript e (.Slice none none (some st) p2) pos) (tRev X.K te ts):=by
 intro pins s σ H Q I h
 refine Subscript_ (thn (he pins s σ H _ I h) fun v s1 ⟨x,H1,I1,r1,q1⟩=>?_)
 refine wpAny_Slice ?_
 rw[evalPart_none]
 refine wpAny_pure (wpAny_pure ?_)
 refine thn (hs pins s1 σ H1 _ I1 q1) fun vs s3 ⟨o,H3,I3,po,q3⟩=>?_
 obtain⟨rfl,a,xs,rfl,hx,q⟩:=q3
 cases r1
 have I4:Inv X pins σ H3 { s3 with heap:=s3.heap.push { cls:=.type "slice",data:=.fields #[.none,.none,vs] } }:=I3.kept (t':=s3.toks) fun b ob q=>Heap.get?_push_of_some _ q
 show wpAny (model X.prog X.w) X.A (subscriptTail e (.Slice none none (some st) p2) (.ref a) (.ref s3.heap.objs.size)) (EP X pins σ Q) X.xe { s3 with heap:=s3.heap.push { cls:=.type "slice",data:=.fields #[.none,.none,vs] } }
 obtain⟨its,r,ht,hz⟩:=I4.list hx
 refine tail_any (ops:=[.ref a,.ref s3.heap.objs.size]) ht.isList.typeIs slot_list_getitem.lookup ?_ (by with_unfolding_all rfl)
 refine wpAny_getItem_list_slice ht.isList (Heap.IsSliceOf.new ..) .none .none po (by decide) ?_ (by rw[List.size_toArray];have:=r.length;omega)
 rw[am9]
 refine⟨.ref _,_,I4.laid (t':=s3.toks) (o:=.lst xs.reverse) (fun b ob q=>Heap.get?_push_of_some _ q) (Nat.le_refl _) ?_,rfl,q _ (I4.hok.fresh (Nat.le_refl _))⟩
 exact⟨by rw[List.length_reverse];exact hz,_,0,r.rev,Heap.get?_push_size _ rfl⟩
theorem aok (K:W.Frag) (he:PE X e te) (hs:PO X (some st) ts) (h:X.K=K:=by rfl):PE X (.Subscript e (.Slice none none (some st) p2) pos) (tRev K te ts):=by subst h;exact apt he hs
end
end L2
namespace L2
open PySem PySem.Spec PyProof.Rows
theorem aol {K:W.Frag} {a b:Addr} {xs zs:List V} {g:TG} {tb:TS} {D:Ends} {σ : St} {H:Hp} (Pv:Nat→St→Hp→Prop) (h0:Pv 0 σ H) (hl:∀ i σ H,i≤xs.length→i≤zs.length→Pv i σ H→H a=some (.lst xs)∧H b=some (.lst zs))
  (hs:∀ i x z σ H p,xs[i]? = some x→zs[i]? = some z→Pv i σ H→H p=none→g (.ref p) σ (upd H p (.tup [x,z])) fun σ2 H2=>tb { D with nx:=Pv (i+1),ct:=Pv (i+1),bk:=D.nx } σ2 H2) (hd:∀ i σ H,i=xs.length∨i=zs.length→i≤xs.length→i≤zs.length→Pv i σ H→D.nx σ H) :
  ∃ W:Nat→Nat→St→Hp→Prop,(∃ m,W 0 m σ H)∧∀ i m σ H,W i m σ H →
   ((Itz K a b).stop i H∧D.nx σ H)∨((Itz K a b).go i H∧∃ N:St→Hp→Prop,(∀ σ' H',N σ' H'→∃ m',m'<m∧W (i+1) m' σ' H')∧∀ x H',(Itz K a b).yld i H x H'→g x σ H' fun σ2 H2=>tb { D with nx:=N,ct:=N,bk:=D.nx } σ2 H2):=by
 refine⟨fun i m σ H=>m=xs.length - i∧i≤xs.length∧i≤zs.length∧Pv i σ H,⟨xs.length,by simp,Nat.zero_le _,Nat.zero_le _,h0⟩,?_⟩
 rintro i m σ H ⟨rfl,hi,hj,p⟩
 obtain⟨q1,q2⟩:=hl i σ H hi hj p
 have q1:SqL K H a xs:=SqL.of q1
 have q2:SqL K H b zs:=SqL.of q2
 by_cases hlt:i<xs.length∧i<zs.length
 ·obtain⟨h1,h2⟩:=hlt
  refine .inr ⟨⟨xs,zs,xs[i],zs[i],q1,q2,by simp [h1],by simp [h2]⟩,Pv (i+1),fun σ' H' p'=>⟨xs.length - (i+1),by omega,rfl,h1,h2,p'⟩,fun x H' y=>?_⟩
  obtain⟨t,ht,e,y⟩:=y
  subst e
  have e1:xs[i]? = some xs[i]:=List.getElem?_eq_getElem h1
  have e2:zs[i]? = some zs[i]:=List.getElem?_eq_getElem h2
  rw[y xs zs xs[i] zs[i] q1 q2 e1 e2]
  exact hs i xs[i] zs[i] σ H t e1 e2 p ht
 ·refine .inl ⟨⟨xs,zs,q1,q2,by omega⟩,hd i σ H (by omega) hi hj p⟩
end L2
namespace L2
open PySem PySem.Spec PyProof.Rows
section
variable {pg:Program} {wd:World} {Ar:Around} {Er:Value→Shared→Prop} {sh:Shared}
theorem apu {self x:Value} {kw:List (Str×Value)} {T newId:String} (hl:typeLookup (.type T) "__init__" = pure (some (.builtin "object.__init__")))
  (hm:Bind.madeBy (.type T)=pure (some newId)) (hne:(some newId != some "object.__new__")=true) :
  Meets (Builtin.«object.__init__» ⟨[self,x],kw⟩) (fun _ R st=>st.TypeIs self T∧R (.ok (.ret .none)) st):=by
 refine Meets.of_wp fun p v B R st hst=>?_
 obtain⟨tyIs,got⟩:=hst
 repeat (any_goals (first | assumption | wp_step))
 exact⟨_,rfl,got⟩
theorem apv {T newId:String} {Bn:Builtin} {x:Value} {kw:List (Str×Value)} {S:PySem.Spec} {Q:Value→Shared→Prop} (ft:TypeCalled T newId "object.__init__") (hne:(some newId != some "object.__new__")=true)
  (c1:checkTypeCall T ⟨[x],kw⟩ = pure ()) (c2:checkBuiltinCall newId ⟨[.type T,x],kw⟩ = pure ()) (c3:∀ ob,argsOk "object.__init__" ⟨[ob,x],kw⟩)
  (eN:entryFor table newId=some Bn) (mN:Meets (Bn ⟨[.type T,x],kw⟩) S) (h:S Ar.in1 (wants (fun ob s1=>s1.TypeIs ob T∧Q ob s1) Er) sh):wpAny (model pg wd) Ar (call (.type T) [x] kw) Q Er sh:=by
 obtain⟨hd,tl,order⟩:=ft.mro
 have maker:=ft.made
 have within:=ft.sub
 refine wpAny_call (codeAny_of_tree ?_)
 show wpAny _ _ (callAny (.type T) _) _ _ _
 refine wpAny_pure ⟨Code.quiet_builtin _ (by decide +kernel),codeAny_builtin F.entry_type_call ?_⟩
 rw[Around.under_plain (weight_type_call_type T [x] kw) (units_type_call_type T [x] kw)]
 have n1:=ft.notType
 have n2:=ft.canCreate
 repeat (any_goals (first | assumption | wp_step))
 refine codeAny_mono (codeAny_call_builtin ft.plain eN (wpAny_of_eq c2 (mN pg wd Ar.in1 _ sh h))) fun res s1 got=>?_
 cases res with
 | error _=>exact got
 | ok fl =>
  cases fl with
  | ret ob =>
   obtain⟨isT,q⟩:=got
   have lk:=ft.init.lookup
   have bd:=ft.init.bind ob
   repeat (any_goals (first | assumption | wp_step))
   refine codeAny_mono (codeAny_call_builtin ft.init.plain F.entry_object_init (ft.init.check _ _ _ _ _ _ _ _ isT (c3 ob) (apu ft.init.lookup ft.made hne pg wd Ar.in1 (wants (fun r s2=>r = .none∧Q ob s2) Er) s1 ⟨isT,rfl,q⟩))) fun res2 s2 got2=>?_
   cases res2 with
   | error _=>exact got2
   | ok fl2 =>
    cases fl2 with
    | ret r =>
     obtain⟨rfl,q2⟩:=got2
     repeat (any_goals (first | assumption | wp_step))
    | _=>exact got2.elim
  | _=>exact got.elim
end
theorem kwTy (x y:Value):checkTypeCall "enumerate" ⟨[x],[("start",y)]⟩ = pure ():=by kernel_rfl
theorem aqc (x y:Value):checkBuiltinCall "enumerate.__new__" ⟨[.type "enumerate",x],[("start",y)]⟩ = pure ():=by kernel_rfl
theorem apw (ob x y:Value):argsOk "object.__init__" ⟨[ob,x],[("start",y)]⟩:=by
 unfold argsOk;rw[signature?_of (id := "object.__init__") (n := "__init__".toList.reverse) (o := "object".toList.reverse) (by kernel_rfl) F.owner_object];kernel_rfl
theorem alR (l:Addr) (its:Array Value) (n:Nat) (t:Tok) :
  Meets (Builtin.«enumerate.__new__» ⟨[.type "enumerate",.ref l],[("start",.int 1 t)]⟩) (fun _ R st=>st.heap.get? l=some { cls:=.type "list",dict:=none,data:=.seq its n,slots:=#[] } ∧
   R (.ok (.ret (.ref (st.heap.push { cls:=.type "list_iterator",data:=.fields #[.ref l,.int 0 0] }).objs.size)))
    { st with heap:=(st.heap.push { cls:=.type "list_iterator",data:=.fields #[.ref l,.int 0 0] }).push { cls:=.type "enumerate",data:=.fields #[.none,.bool false,.ref st.heap.objs.size,rawInt 1,.none,.none] } }) :=
 .of_wp fun p v B R st hst=>by
  obtain⟨hp,gn,dr,tk,os⟩:=st
  obtain⟨atL,got⟩:=hst
  have within:=sub_enumerate
  have isL:Heap.IsList (Shared.heap ⟨hp,gn,dr,tk,os⟩) l its:=⟨_,atL,rfl,n,rfl⟩
  wp_walk using AutoSeq1.wpAny_loadPart' atL
  refine wpAny_stack_any fun sk=>wpAny_pure ?_
  split
  ·rename_i c _ _ _ _ _
   cases (c == Value.type "enumerate")
   ·wp_walk using AutoSeq1.wpAny_loadPart' atL,wpAny_pyIter_list isL
    exact⟨_,rfl,got⟩
   ·wp_walk using AutoSeq1.wpAny_loadPart' atL,wpAny_pyIter_list isL
    exact⟨_,rfl,got⟩
  ·wp_walk using AutoSeq1.wpAny_loadPart' atL,wpAny_pyIter_list isL
   exact⟨_,rfl,got⟩
section
variable {pg:Program} {wd:World} {Ar:Around} {Er:Value→Shared→Prop} {sh:Shared}
theorem apx {l:Addr} {its:Array Value} {n:Nat} {t:Tok} {Q:Value→Shared→Prop} (atL:sh.heap.get? l=some { cls:=.type "list",dict:=none,data:=.seq its n,slots:=#[] })
  (h:∀ hp,IsEnum hp (sh.heap.objs.size+1) sh.heap.objs.size 1 .none→hp.IsListIter sh.heap.objs.size l 0→(∀ b o,sh.heap.get? b=some o→hp.get? b=some o)→Q (.ref (sh.heap.objs.size+1)) { sh with heap:=hp }) :
  wpAny (model pg wd) Ar (call (.type "enumerate") [.ref l] [("start",.int 1 t)]) Q Er sh:=by
 refine apv F.called_enumerate (by decide) (kwTy _ _) (aqc _ _) (fun ob=>apw ob _ _) F.entry_enumerate_new (alR l its n t) ⟨atL,?_⟩
 have sz:(sh.heap.push { cls:=.type "list_iterator",data:=.fields #[.ref l,.int 0 0] }).objs.size=sh.heap.objs.size+1:=Heap.size_push ..
 show _∧_
 rw[sz]
 have made:IsEnum ((sh.heap.push { cls:=.type "list_iterator",data:=.fields #[.ref l,.int 0 0] }).push { cls:=.type "enumerate",data:=.fields #[.none,.bool false,.ref sh.heap.objs.size,rawInt 1,.none,.none] }) (sh.heap.objs.size+1) sh.heap.objs.size 1 .none:=by
  have z:=Heap.get?_push_size (sh.heap.push { cls:=.type "list_iterator",data:=.fields #[.ref l,.int 0 0] }) (o:={ cls:=.type "enumerate",data:=.fields #[.none,.bool false,.ref sh.heap.objs.size,rawInt 1,.none,.none] }) rfl
  rwa [sz] at z
 exact⟨⟨_,made,rfl⟩,h _ made ⟨_,Heap.get?_push_of_some _ (Heap.get?_push_size _ rfl),rfl,rfl⟩ fun b o z=>Heap.get?_push_of_some _ (Heap.get?_push_of_some _ z)⟩
theorem ana {en li l:Addr} {j:Int} {i:Nat} {its:Array Value} {x old:Value} {Q:Value→Shared→Prop} (atE:IsEnum sh.heap en li j old) (atI:sh.heap.IsListIter li l i) (isL:sh.heap.IsList l its) (hx:its[i]? = some x) (ne:en≠li)
  (hQ:∀ hp,IsEnumOut hp en li (j+1) x sh.heap.objs.size→hp.IsListIter li l (i+1)→hp.get? sh.heap.objs.size=some { cls:=.type "tuple",data:=.seq #[.int j sh.toks,x] } →
   (∀ b o,b≠en→b≠li→sh.heap.get? b=some o→hp.get? b=some o)→Q (.ref sh.heap.objs.size) { sh with heap:=hp,toks:=sh.toks+1 }) :
  wpAny (model pg wd) Ar (Builtin.«enumerate.__next__» ⟨[.ref en],[]⟩) (fun fin st=>∃ v,fin = .done (.ret v)∧Q v st) Er sh:=by
 obtain⟨h0,gn,dr,tk,os⟩:=sh
 show wpAny _ _ (field (.ref en) 2 >>= _) _ _ _
 refine wpAny_bind (wpAny_field atE rfl (x:=.ref li) rfl (wpAny_bind (wpAny_nextOf_list_item atI isL hx fun h1 atI1 ad7=>?_)))
 replace ad7:Heap.SameBut li h0 h1:=ad7
 have atE1:IsEnum h1 en li j old:=(ad7.2 en ne).trans atE
 show wpAny _ _ (field (.ref en) 3 >>= _) _ _ ⟨h1,gn,dr,tk,os⟩
 refine wpAny_bind (wpAny_field atE1 rfl (x:=rawInt j) rfl ?_)
 show wpAny _ _ (field (.ref en) 4 >>= _) _ _ ⟨h1,gn,dr,tk,os⟩
 refine wpAny_bind (wpAny_field atE1 rfl (x:=.none) rfl ?_)
 show wpAny _ _ (mkInt j >>= _) _ _ ⟨h1,gn,dr,tk,os⟩
 refine wpAny_bind (wpAny_mkInt ?_)
 show wpAny _ _ (setField (.ref en) 3 (rawInt (j+1)) >>= _) _ _ ⟨h1,gn,dr,tk+1,os⟩
 refine wpAny_bind (wpAny_setField_rec atE1 (by simp) fun h2 (atE2:IsEnum h2 en li (j+1) old) (akR:Heap.SameBut en h1 h2)=>?_)
 show wpAny _ _ (setField (.ref en) 4 .none >>= _) _ _ ⟨h2,gn,dr,tk+1,os⟩
 refine wpAny_bind (wpAny_setField_rec atE2 (by simp) fun h3 (atE3:IsEnum h3 en li (j+1) old) (akS:Heap.SameBut en h2 h3)=>?_)
 show wpAny _ _ (newTuple [.int j tk,x] >>= _) _ _ ⟨h3,gn,dr,tk+1,os⟩
 refine wpAny_bind (wpAny_newTuple ?_)
 have atE4:IsEnum (h3.push { cls:=.type "tuple",data:=.seq #[.int j tk,x] }) en li (j+1) old:=Heap.get?_push_of_some _ atE3
 have sz:h3.objs.size=h0.objs.size:=by rw[akS.1,akR.1,ad7.1]
 have lt:en<h0.objs.size:=Heap.lt_size atE
 have tup4:(h3.push { cls:=.type "tuple",data:=.seq #[.int j tk,x] }).get? h0.objs.size=some { cls:=.type "tuple",data:=.seq #[.int j tk,x] }:=by
  have z:=Heap.get?_push_size h3 (o:={ cls:=.type "tuple",data:=.seq #[.int j tk,x] }) rfl
  rwa [sz] at z
 have kp4:∀ b o,b≠en→b≠li→h0.get? b=some o→(h3.push { cls:=.type "tuple",data:=.seq #[.int j tk,x] }).get? b=some o:=fun b o n1 n2 z=>Heap.get?_push_of_some _ (akS.extBut b o n1 (akR.extBut b o n1 (ad7.extBut b o n2 z)))
 have atI4:(h3.push { cls:=.type "tuple",data:=.seq #[.int j tk,x] }).IsListIter li l (i+1):=by
  obtain⟨o,ho,r⟩:=(atI1.extBut akR.extBut (Ne.symm ne)).extBut akS.extBut (Ne.symm ne)
  exact⟨o,Heap.get?_push_of_some _ ho,r⟩
 generalize h3.push { cls:=.type "tuple",data:=.seq #[.int j tk,x] } = h4 at atE4 tup4 kp4 atI4 ⊢
 show wpAny _ _ (Builtin.SmallTypes.ownedTupleIsFree (.ref en) >>= _) _ _ ⟨h4,gn,dr,tk+1,os⟩
 rw[sz]
 clear atE3 akS atE2 akR atE1 ad7 atI1 sz h3 h2 h1
 refine wpAny_bind ?_
 unfold Builtin.SmallTypes.ownedTupleIsFree
 refine wpAny_bind (wpAny_field atE4 rfl (x:=.none) rfl (wpAny_pure ?_))
 simp only [if_true]
 refine wpAny_bind (wpAny_rule (wpAny_bind (wpAny_field atE4 rfl (x:=old) rfl (wpAny_bind (wpAny_setField_rec atE4 (by simp) fun h5 (atE5:IsEnum h5 en li (j+1) x) (anb:Heap.SameBut en h4 h5)=>?_)))))
 show wpAny _ _ (Builtin.SmallTypes.ownedTupleHandOut (.ref en) (.ref h0.objs.size) >>= _) _ _ ⟨h5,gn,dr,tk+1,os⟩
 refine wpAny_bind ?_
 unfold Builtin.SmallTypes.ownedTupleHandOut
 refine wpAny_bind (wpAny_setField_rec atE5 (by simp) fun h6 (atE6:IsEnumOut h6 en li (j+1) x h0.objs.size) (anc:Heap.SameBut en h5 h6)=>?_)
 refine wpAny_setField_rec atE6 (by simp) fun h7 (atE7:IsEnumOut h7 en li (j+1) x h0.objs.size) (ane:Heap.SameBut en h6 h7)=>?_
 have nt:h0.objs.size≠en:=Nat.ne_of_gt lt
 exact wpAny_bind (wpAny_letGo (wpAny_pure ⟨_,rfl,hQ h7 atE7 (((atI4.extBut anb.extBut (Ne.symm ne)).extBut anc.extBut (Ne.symm ne)).extBut ane.extBut (Ne.symm ne))
  (ane.extBut _ _ nt (anc.extBut _ _ nt (anb.extBut _ _ nt tup4))) fun b o n1 n2 z=>ane.extBut b o n1 (anc.extBut b o n1 (anb.extBut b o n1 (kp4 b o n1 n2 z)))⟩))
theorem anf {en li l:Addr} {j:Int} {i:Nat} {its:Array Value} {x old:Value} {Q:Option Value→Shared→Prop} (atE:IsEnum sh.heap en li j old) (atI:sh.heap.IsListIter li l i) (isL:sh.heap.IsList l its) (hx:its[i]? = some x) (ne:en≠li)
  (hQ:∀ hp,IsEnumOut hp en li (j+1) x sh.heap.objs.size→hp.IsListIter li l (i+1)→hp.get? sh.heap.objs.size=some { cls:=.type "tuple",data:=.seq #[.int j sh.toks,x] } →
   (∀ b o,b≠en→b≠li→sh.heap.get? b=some o→hp.get? b=some o)→Q (some (.ref sh.heap.objs.size)) { sh with heap:=hp,toks:=sh.toks+1 }) :
  wpAny (model pg wd) Ar (pyNext (.ref en)) Q Er sh:=by
 have isT:sh.TypeIs (.ref en) "enumerate" := ⟨_,atE,rfl⟩
 unfold pyNext
 exact wpAny_bind (wpAny_attempt (wpAny_callSpecial?_slot (name:=Str.ofString "__next__") isT F.slot_enumerate_next (wpAny_call_entry F.slot_enumerate_next isT F.entry_enumerate_next
  (ana atE atI isL hx ne fun hp a b c k=>wpAny_pure (hQ hp a b c k)) (F.args_enumerate_next_1 _))))
theorem aom {en li l:Addr} {j:Int} {i:Nat} {its:Array Value} {old:Value} {Q:Option Value→Shared→Prop} (hh:Ar.handled=none) (atE:IsEnum sh.heap en li j old) (atI:sh.heap.IsListIter li l i) (isL:sh.heap.IsList l its) (hx:its[i]? = none)
  (hQ:∀ hp,Heap.ExtBut li sh.heap hp→Q none { sh with heap:=hp }):wpAny (model pg wd) Ar (pyNext (.ref en)) Q Er sh:=by
 have isT:sh.TypeIs (.ref en) "enumerate" := ⟨_,atE,rfl⟩
 unfold pyNext
 refine wpAny_bind (wpAny_attempt (wpAny_callSpecial?_slot (name:=Str.ofString "__next__") isT F.slot_enumerate_next (wpAny_call_entry F.slot_enumerate_next isT F.entry_enumerate_next ?_ (F.args_enumerate_next_1 _))))
 show wpAny _ _ (field (.ref en) 2 >>= _) _ _ _
 refine wpAny_bind (wpAny_field atE rfl (x:=.ref li) rfl (wpAny_bind (wpAny_nextOf_list_end hh atI isL hx fun hp x ext ⟨o,ho,hc⟩=>?_)))
 exact wpAny_bind (wpAny_isInstance (T := "StopIteration") (b:=true) ⟨o,ho,hc⟩ isSubtype_stop (wpAny_pure (hQ _ ext)))
end
def Ite1 (K:W.Frag) (a:Addr):It :=
 ⟨fun i H=>∃ xs x,SqL K H a xs∧xs[i]? = some x,fun i H x H'=>∃ p,H p=none∧x = .ref p∧∀ xs v,SqL K H a xs→xs[i]? = some v→H' = upd H p (.tup [.int ((i+1:Nat):Int),v]),fun i H=>∃ xs,SqL K H a xs∧xs.length≤i⟩
theorem ajs {P:Program} {w:World} {K:W.Frag} {elts:List Expr} {k0:Nat} {pos:Pos} (a e it:Addr) (hne:e≠it) :
  Turn P w K (.Tuple elts k0 pos) (Ite1 K a) [e,it] e (fun i h=>(∃ old,IsEnum h e it ((i+1:Nat):Int) old)∧h.IsListIter it a i) where
 mem:=by simp
 obj:=fun i h st b hb=>by
  obtain⟨⟨old,he⟩,o,ho,c,d⟩:=st
  rcases List.mem_cons.mp hb with rfl | hb
  ·exact⟨_,he,fun v z=>by
    have z':Data.fields _=Data.cell v:=z
    cases z'⟩
  ·have e2:b=it:=by simpa using hb
   subst e2
   exact⟨o,ho,fun v z=>by rw[d] at z;cases z⟩
 keep:=fun i h h' st k=>⟨by obtain⟨old,he⟩:=st.1;exact⟨old,k e (by simp) _ he⟩,st.2.at fun o ho=>k it (by simp) o ho⟩
 item:=by
  intro X hP hw hK hc i pins s σ H E I hf st hg
  subst hP hw hK
  obtain⟨xs,x,hq,hx⟩:=hg
  obtain⟨its,rv,p,hz⟩:=I.list hq
  obtain⟨u,hu,ru⟩:=rv.get hx
  obtain⟨⟨old,he⟩,hit⟩:=st
  refine anf he hit p.isList (x:=u) (by simpa using hu) hne fun h' ho' hit' hT' hk'=>?_
  have I1:Inv X pins σ (upd H s.heap.objs.size (.tup [.int ((i+1:Nat):Int),x])) { s with heap:=h',toks:=s.toks+1 } :=
   I.yields (ch:=[e,it]) hf (fun b o hb q=>hk' b o (fun z=>hb (by simp [z])) (fun z=>hb (by simp [z])) q) (Nat.le_refl _) (by show 2≤sizeLine;decide)
    ⟨[.int ((i+1:Nat):Int) s.toks,u],.cons ⟨_,rfl⟩ (.cons ru .nil),⟨_,hT',rfl,_,rfl⟩⟩ (fun b hb=>by
     rcases List.mem_cons.mp hb with rfl | hb
     ·exact⟨_,ho'⟩
     ·have e2:b=it:=by simpa using hb
      subst e2
      obtain⟨o,q,_⟩:=hit'
      exact⟨o,q⟩)
  refine⟨_,rfl,wpAny_letOwnedTupleGo_enum (s:={ s with heap:=h',toks:=s.toks+1 }) ho' fun h'' he'' hs''=>?_⟩
  have fr:∀ b∈[e,it],(upd H s.heap.objs.size (.tup [.int ((i+1:Nat):Int),x])) b=none:=fun b hb=>by
   have hlt:b<s.heap.objs.size:=by
    rcases List.mem_cons.mp hb with rfl | hb
    ·exact Heap.lt_size he
    ·have e2:b=it:=by simpa using hb
     subst e2
     obtain⟨o,q,_⟩:=hit
     exact Heap.lt_size q
   rw[aG (Nat.ne_of_lt hlt)];exact(hf b hb).1
  obtain⟨f0,f1,f2,f3,f4,f5⟩:=hf e (by simp)
  have I2:=I1.turned (t':=s.toks+1) (it:=e) (h':=h'') (fun b o hb q=>(hs''.2 b hb).trans q) (fr e (by simp)) f1 f3 f4 f5
  refine⟨.ref s.heap.objs.size,_,I2,rfl,⟨s.heap.objs.size,I.hok.fresh (Nat.le_refl _),rfl,fun ys v hy hv=>?_⟩,⟨⟨_,by simpa using he''⟩,hit'.at fun o q=>(hs''.2 it (Ne.symm hne)).trans q⟩,fr⟩
  have:=I.G9 hy hq
  subst this
  rw[hx] at hv
  cases hv
  rfl
 done:=by
  intro X hP hw hK hc i pins s σ H E I hf st hg
  subst hP hw hK
  obtain⟨xs,hq,hx⟩:=hg
  obtain⟨its,rv,p,hz⟩:=I.list hq
  obtain⟨⟨old,he⟩,hit⟩:=st
  obtain⟨f0,f1,f2,f3,f4,f5⟩:=hf it (by simp)
  have hl:=rv.length
  exact aom (I.ok.hd hc) he hit p.isList (by simp;omega) fun h' eb=>⟨rfl,I.turned (t':=s.toks) (fun b o hb q=>eb b o hb q) f0 f1 f3 f4 f5⟩
 self:=fun _ _ _ _ _ st h=>by obtain⟨old,he⟩:=st.1;exact wpAny_pyIter_enum he h
def apy (K:W.Frag) (tl:TA):TI:=fun σ H R=>tl σ H fun vs H1=>∃ a xs,vs = [.ref a]∧H1 a=some (.lst xs)∧R (Ite1 K a) H1
section
variable {X:Cx}
theorem ang {M:Model} {A:Around} {E:Value→Shared→Prop} {s:Shared} {pos:Pos} {T:String} {args:List (Bool×Sem Value)} {kws:List (Option Str×Sem Value)} {Q:Value→Shared→Prop} (h1:args.any (·.1)=false) (h2:kws.any (·.1.isNone)=false)
  (h:wpAny M A (evalArgs (.type T) true args kws) (fun a s1=>wpAny M A (call (.type T) a.pos a.kw) Q E s1) E s):wpAny M A (callWith pos (.type T) [] args kws) Q E s:=by
 unfold callWith
 refine wpAny_bind (wpAny_holding (thn h fun a s1 g1=>wpAny_bind (wpAny_standAt ?_)))
 simp only [h1,h2,Bool.or_false]
 exact wpAny_bind (wpAny_pure (wpAny_bind (thn g1 fun r s2 g2=>wpAny_bind (wpAny_holding (wpAny_point (wpAny_pure g2))))))
theorem alS (K:W.Frag) {elts:List Expr} {k0:Nat} {tpos:Pos} {l ev:Expr} {tl:TA} {p pos kp:Pos} (hg:Gl X "enumerate") (hm:X.mg "enumerate" = none) (hb:bootBuiltins "enumerate" = some (.type "enumerate")) (ha:PA X [l] tl) (he:PE X ev (tC (.int 1))) (hK:X.K=K:=by rfl)
  (hs:starEach [l] X.env = [(false,eval l X.env)]:=by rfl):PI X (.Tuple elts k0 tpos) (.Call (.Name "enumerate" p) [l] [⟨some "start",ev,kp⟩] pos) (apy K tl):=by
 subst hK
 intro pins s σ H R I h
 refine wpAny_Call_Name_kw (Pg I hg hm hb ?_)
 have ht:backTo pos (starEach [l] X.env) = [(false,eval l X.env)]:=by rw[hs];rfl
 have h0:=ha pos pins s σ H _ I h
 rw[ht] at h0 ⊢
 refine ang rfl rfl (evalArgs_kwB rfl (thn h0 fun us s1 ⟨vs,H1,I1,r1,q1⟩=>kws_cons (thn (he pins s1 σ H1 (fun v H'=>v=V.int 1∧H' = H1) I1 ⟨rfl,rfl⟩) fun v s2 ⟨y,H2,I2,r2,e1,e2⟩=>kws_nil ?_)))
 subst e1 e2
 obtain⟨a,xs,rfl,hq,q⟩:=q1
 obtain⟨u,rfl,ru⟩:=vals1 r1
 cases ru
 obtain⟨tk,rfl⟩:=r2
 obtain⟨z,its,n,rv,e⟩:=(show jl X.prog X.w H2 s2.heap a (.lst xs) from I2.hok a _ hq)
 refine apx e fun h' he hit hk=>?_
 have I3:Inv X pins σ H2 { s2 with heap:=h' }:=I2.kept (t':=s2.toks) hk
 refine wpAny_pyIter_enum he ?_
 refine⟨s2.heap.objs.size+1,[s2.heap.objs.size+1,s2.heap.objs.size],_,_,H2,rfl,I3,ajs a _ _ (Nat.ne_of_gt (Nat.lt_succ_self _)),⟨⟨_,he⟩,hit⟩,fun b hb=>?_,q⟩
 have hle:s2.heap.objs.size≤b:=by
  rcases List.mem_cons.mp hb with rfl | hb
  ·exact Nat.le_succ _
  ·have e2:b=s2.heap.objs.size:=by simpa using hb
   exact Nat.le_of_eq e2.symm
 exact I2.fpOk hle (I2.hok.fresh hle)
end
theorem ajt {K:W.Frag} {a D:Addr} {xs:List V} {tt:TT} {te:TE} {σ0:St} {H1:Hp} {Q:VK} (Pv:Nat→List V→Hp→Prop) (h0:Pv 0 [] (upd H1 D (.lst [])))
  (hl:∀ i ys H,i≤xs.length→Pv i ys H→H a=some (.lst xs))
  (hs:∀ i x ys H p,xs[i]? = some x→Pv i ys H→H D=some (.lst ys)→H p=none→tt ((σ0.set 0 (some (.int ((i+1:Nat):Int)))).set 1 (some x)) (upd H p (.tup [.int ((i+1:Nat):Int),x])) fun b H4 =>
   if b=true then te ((σ0.set 0 (some (.int ((i+1:Nat):Int)))).set 1 (some x)) H4 (CE2 σ0 D Pv (i+1) ((σ0.set 0 (some (.int ((i+1:Nat):Int)))).set 1 (some x))) else CN2 σ0 D Pv (i+1) ((σ0.set 0 (some (.int ((i+1:Nat):Int)))).set 1 (some x)) H4)
  (hd:∀ ys H,Pv xs.length ys H→H D=some (.lst ys)→Q (.ref D) H):xY (Ite1 K a) (g2 K) tt te Q σ0 H1 D:=by
 refine Pk (n:=xs.length) (xs:=fun i=>(.int ((i+1:Nat):Int),(xs[i]?).getD .non)) Pv h0 (fun i ys H hi p=>?_) (fun ys H p=>?_) (fun i ys H x H' hi p y=>?_) (fun i ys H p hi hp hD hf=>?_) hd
 ·exact⟨xs,xs[i],SqL.of (hl i ys H (Nat.le_of_lt hi) p),List.getElem?_eq_getElem hi⟩
 ·exact⟨xs,SqL.of (hl _ ys H (Nat.le_refl _) p),Nat.le_refl _⟩
 ·obtain⟨q,hq,e,z⟩:=y
  refine⟨q,hq,e,?_⟩
  rw[z xs xs[i] (SqL.of (hl i ys H (Nat.le_of_lt hi) p)) (List.getElem?_eq_getElem hi),List.getElem?_eq_getElem hi];rfl
 ·have e:xs[i]? = some xs[i]:=List.getElem?_eq_getElem hi
  have z:=hs i xs[i] ys H p e hp hD hf
  dsimp only
  rw[e]
  exact z
end L2
namespace TC
def Sb (a b:Nat):Prop:=a ||| b=b
instance (a b:Nat):Decidable (Sb a b):=inferInstanceAs (Decidable (a ||| b=b))
theorem Sb.refl (a:Nat):Sb a a:=Nat.or_self a
theorem Sb.trans {a b c:Nat} (h:Sb a b) (k:Sb b c):Sb a c:=by
 unfold Sb at *
 rw[← k,← Nat.or_assoc,h]
theorem Sb.left (a b:Nat):Sb a (a ||| b):=by
 unfold Sb
 rw[← Nat.or_assoc,Nat.or_self]
theorem Sb.right (a b:Nat):Sb b (a ||| b):=by
 unfold Sb
 rw[Nat.or_comm a b,← Nat.or_assoc,Nat.or_self]
theorem Sb.le {a b:Nat} (h:Sb a b):a≤b:=by
 unfold Sb at h
 rw[← h];exact Nat.left_le_or
theorem Sb.or {a b c:Nat} (h:Sb a c) (k:Sb b c):Sb (a ||| b) c:=by
 unfold Sb at *
 rw[Nat.or_assoc,k,h]
theorem Sb.Rk {a b:Nat}:Sb a b ↔ ∀ i,a.testBit i=true→b.testBit i=true:=by
 unfold Sb
 constructor
 ·intro h i hi
  rw[← h,Nat.testBit_or,hi];rfl
 ·intro h
  apply Nat.eq_of_testBit_eq
  intro i
  rw[Nat.testBit_or]
  cases e:a.testBit i with
  | true=>rw[h i e];rfl
  | false=>rfl
theorem akT {a b:Nat}:Sb a b ↔ b &&& a=a:=by
 rw[Sb.Rk]
 constructor
 ·intro h
  apply Nat.eq_of_testBit_eq
  intro i
  rw[Nat.testBit_and]
  cases e:a.testBit i with
  | true=>rw[h i e];rfl
  | false=>rw[Bool.and_false]
 ·intro h i hi
  rw[← h,Nat.testBit_and] at hi
  exact(Bool.and_eq_true _ _ ▸ hi).1
def stp (s:Nat) (p:Nat×Nat):Nat:=if Sb p.1 s then s ||| p.2 else s
def pass (ps:List (Nat×Nat)) (s:Nat):Nat:=ps.foldl stp s
theorem akU (s:Nat) (p:Nat×Nat):Sb s (stp s p):=by
 unfold stp;split
 ·exact Sb.left _ _
 ·exact Sb.refl _
theorem Rm:∀ (ps:List (Nat×Nat)) (s:Nat),Sb s (pass ps s)
 | [],s=>Sb.refl s
 | p::ps,s=>(akU s p).trans (Rm ps (stp s p))
theorem apz {k s:Nat} {p:Nat×Nat} (hs:s < 2 ^ k) (hp:p.2 < 2 ^ k):stp s p < 2 ^ k:=by
 unfold stp;split
 ·exact Nat.or_lt_two_pow hs hp
 ·exact hs
theorem ae4 {k:Nat}:∀ {ps:List (Nat×Nat)} {s:Nat},s < 2 ^ k→(∀ p∈ps,p.2 < 2 ^ k)→pass ps s < 2 ^ k
 | [],_,hs,_=>hs
 | p::ps,s,hs,hp=>ae4 (ps:=ps) (apz hs (hp p List.mem_cons_self)) fun q hq=>hp q (List.mem_cons_of_mem _ hq)
def fired (s:Nat) (p:Nat×Nat):Bool:=decide (Sb p.1 s∧Sb p.2 s)
theorem ZF {s t:Nat} {p:Nat×Nat} (h:Sb s t) (f:fired s p=true):fired t p=true:=by
 unfold fired at *
 have:=of_decide_eq_true f
 exact decide_eq_true ⟨this.1.trans h,this.2.trans h⟩
theorem ZG:∀ (ps:List (Nat×Nat)) (s:Nat),pass ps s≠s→∃ p∈ps,fired s p=false∧fired (pass ps s) p=true
 | [],s,h=>absurd rfl h
 | p::ps,s,h=>by
  by_cases e:stp s p=s
  ·have h2:pass ps s≠s:=by
    intro z;apply h;show pass ps (stp s p)=s;rw[e];exact z
   obtain⟨q,hq,f1,f2⟩:=ZG ps s h2
   refine⟨q,List.mem_cons_of_mem _ hq,f1,?_⟩
   show fired (pass ps (stp s p)) q=true
   rw[e];exact f2
  ·refine⟨p,List.mem_cons_self,?_,?_⟩
   ·unfold fired
    refine decide_eq_false ?_
    rintro ⟨a,b⟩
    apply e
    unfold stp;rw[if_pos a,Nat.or_comm];exact b
   ·refine ZF (Rm ps (stp s p)) ?_
    unfold fired
    unfold stp at e ⊢
    by_cases a:Sb p.1 s
    ·rw[if_pos a] at e ⊢
     exact decide_eq_true ⟨a.trans (Sb.left _ _),Sb.right _ _⟩
    ·rw[if_neg a] at e;exact absurd rfl e
theorem ahx {α : Type} {f g : α → Bool}:∀ (l:List α),(∀ x∈l,f x=true→g x=true)→(∃ x∈l,f x=false∧g x=true)→l.countP f<l.countP g
 | [],_,⟨_,h,_⟩=>nomatch h
 | a::l,hm,⟨x,hx,hf,hg⟩=>by
  rw[List.countP_cons,List.countP_cons]
  have mono:l.countP f≤l.countP g:=List.countP_mono_left fun y hy h=>hm y (List.mem_cons_of_mem _ hy) h
  rcases List.mem_cons.mp hx with rfl | hx
  ·rw[hf,hg];simp;omega
  ·have ih:=ahx l (fun y hy=>hm y (List.mem_cons_of_mem _ hy)) ⟨x,hx,hf,hg⟩
   cases ha:f a with
   | true=>rw[hm a List.mem_cons_self ha];simp;omega
   | false=>simp;omega
theorem ZJ {ps:List (Nat×Nat)} {s:Nat} (h:pass ps s≠s):ps.countP (fired s)<ps.countP (fired (pass ps s)) :=
 ahx ps (fun _ _ f=>ZF (Rm ps s) f) (ZG ps s h)
def dj (ps:List (Nat×Nat)):Nat→Nat→Nat
 | 0,s=>s
 | n+1,s=>dj ps n (pass ps s)
theorem wK (ps:List (Nat×Nat)):∀ (n s:Nat),dj ps (n+1) s=pass ps (dj ps n s)
 | 0,_=>rfl
 | n+1,s=>by
  show dj ps (n+1) (pass ps s)=pass ps (dj ps n (pass ps s))
  exact wK ps n (pass ps s)
theorem K6 {ps:List (Nat×Nat)} {s:Nat} (h:pass ps s=s):∀ n,dj ps n s=s
 | 0=>rfl
 | n+1=>by show dj ps n (pass ps s)=s;rw[h];exact K6 h n
theorem ZK (ps:List (Nat×Nat)):∀ (n s:Nat),pass ps (dj ps n s)≠dj ps n s→n<ps.countP (fired (dj ps (n+1) s))
 | 0,s,h=>Nat.lt_of_le_of_lt (Nat.zero_le _) (ZJ h)
 | n+1,s,h=>by
  have h0:pass ps (dj ps n s)≠dj ps n s:=by
   intro z
   apply h
   rw[wK ps n s,z,z]
  have ih:=ZK ps n s h0
  have:=ZJ h
  rw[wK ps (n+1) s]
  omega
def cl (ps:List (Nat×Nat)) (s:Nat):Nat:=dj ps ps.length s
theorem apA (ps:List (Nat×Nat)) (s:Nat):pass ps (cl ps s)=cl ps s:=by
 by_cases h:pass ps (cl ps s)=cl ps s
 ·exact h
 ·have h1:=ZK ps ps.length s h
  have h2:ps.countP (fired (dj ps (ps.length+1) s))≤ps.length:=List.countP_le_length
  omega
theorem Vx (ps:List (Nat×Nat)):∀ (a b s:Nat),dj ps (a+b) s=dj ps b (dj ps a s)
 | 0,b,s=>by rw[Nat.zero_add];rfl
 | a+1,b,s=>by
  rw[Nat.succ_add]
  exact Vx ps a b (pass ps s)
theorem aqd {ps:List (Nat×Nat)} {s:Nat} {j:Nat} (h:pass ps (dj ps j s)=dj ps j s):dj ps j s=cl ps s:=by
 unfold cl
 by_cases q:j≤ps.length
 ·obtain⟨b,e⟩:=Nat.exists_eq_add_of_le q
  rw[e,Vx,K6 h]
 ·obtain⟨b,e⟩:=Nat.exists_eq_add_of_le (Nat.le_of_not_le q)
  rw[e,Vx]
  exact K6 (apA ps s) b
theorem ZL {k:Nat} {ps:List (Nat×Nat)} (hp:∀ p∈ps,p.2 < 2 ^ k):∀ (n:Nat) {s:Nat},s < 2 ^ k→dj ps n s < 2 ^ k
 | 0,_,hs=>hs
 | n+1,_,hs=>ZL hp n (ae4 hs hp)
end TC
namespace TC
theorem anh {a b:Nat} (p:Nat×Nat) (h:Sb a b):Sb (stp a p) (stp b p):=by
 unfold stp
 by_cases e:Sb p.1 a
 ·rw[if_pos e,if_pos (e.trans h)]
  exact(h.trans (Sb.left _ _)).or (Sb.right _ _)
 ·rw[if_neg e]
  exact h.trans (akU b p)
theorem ad8:∀ (ps:List (Nat×Nat)) {a b:Nat},Sb a b→Sb (pass ps a) (pass ps b)
 | [],_,_,h=>h
 | p::ps,_,_,h=>ad8 ps (anh p h)
theorem ZM (ps:List (Nat×Nat)):∀ (n:Nat) {a b:Nat},Sb a b→Sb (dj ps n a) (dj ps n b)
 | 0,_,_,h=>h
 | n+1,_,_,h=>ZM ps n (ad8 ps h)
theorem aon (ps:List (Nat×Nat)) {a b:Nat} (h:Sb a b):Sb (cl ps a) (cl ps b):=ZM ps _ h
theorem aqe {k:Nat} {ps:List (Nat×Nat)} (hp:∀ p∈ps,p.2 < 2 ^ k) {s:Nat} (hs:s < 2 ^ k):cl ps s < 2 ^ k:=ZL hp _ hs
def full (c:Nat):Nat:=2 ^ c - 1
theorem ae5 {c s k:Nat} (hs:s < 2 ^ c) (h:s.testBit k=true):k<c:=by
 apply Decidable.byContradiction
 intro hn
 have:2 ^ c≤2 ^ k:=Nat.pow_le_pow_right (by decide) (Nat.le_of_not_lt hn)
 rw[Nat.testBit_lt_two_pow (Nat.lt_of_lt_of_le hs this)] at h
 cases h
end TC
namespace TC
def Cld (ps:List (Nat×Nat)) (X:Nat):Prop:=∀ p∈ps,Sb p.1 X→Sb p.2 X
theorem aoo {X:Nat} {p:Nat×Nat} (h:Sb p.1 X→Sb p.2 X):stp X p=X:=by
 unfold stp
 by_cases e:Sb p.1 X
 ·rw[if_pos e,Nat.or_comm];exact h e
 ·rw[if_neg e]
theorem ahy:∀ {ps:List (Nat×Nat)} {X:Nat},Cld ps X→pass ps X=X
 | [],_,_=>rfl
 | p::ps,X,h=>by
  show pass ps (stp X p)=X
  rw[aoo (h p List.mem_cons_self)]
  exact ahy fun q hq=>h q (List.mem_cons_of_mem _ hq)
theorem alT {ps:List (Nat×Nat)} {X:Nat} (h:Cld ps X):cl ps X=X:=K6 (ahy h) _
theorem Sb.and {a b c:Nat} (h:Sb a b) (k:Sb a c):Sb a (b &&& c):=Sb.Rk.mpr fun i hi=>by
 rw[Nat.testBit_and,Sb.Rk.mp h i hi,Sb.Rk.mp k i hi];rfl
theorem Sb.zero (a:Nat):Sb 0 a:=by unfold Sb;exact Nat.zero_or a
theorem Sb.lt {a b k:Nat} (h:Sb a b) (hb:b < 2 ^ k):a < 2 ^ k:=Nat.lt_of_le_of_lt h.le hb
end TC
namespace TC
def j8 (ps:List (Nat×Nat)):List Nat→Nat→Option Nat
 | [],k=>some k
 | i::is,k=>match ps[i]? with
  | none=>none
  | some p=>if Sb p.1 k then j8 ps is (k ||| p.2) else none
theorem vh (ps:List (Nat×Nat)):∀ (a b:List Nat) (k:Nat),j8 ps (a++b) k=(j8 ps a k).bind (j8 ps b)
 | [],b,k=>rfl
 | i::a,b,k=>by
  show j8 ps (i::(a++b)) k=_
  unfold j8
  cases ps[i]? with
  | none=>rfl
  | some p =>
   by_cases h:Sb p.1 k
   ·simp only [if_pos h];exact vh ps a b _
   ·simp only [if_neg h];rfl
theorem ZQ {ps:List (Nat×Nat)} {pl:List Nat} {i n k:Nat} (h:pl[i]? = some n):j8 ps (pl.take (i+1)) k=(j8 ps (pl.take i) k).bind (j8 ps [n]):=by
 rw[← vh,List.take_add_one,h];rfl
theorem Pn {ps:List (Nat×Nat)} {pl:List Nat} {i k:Nat} (h:j8 ps (pl.take i) k=none):j8 ps pl k=none:=by
 have:j8 ps (pl.take i++pl.drop i) k=none:=by rw[vh,h];rfl
 rwa [List.take_append_drop] at this
theorem ZR {ps:List (Nat×Nat)} {n k:Nat} (h:ps[n]? = none):j8 ps [n] k=none:=by unfold j8;rw[h]
theorem Rn {ps:List (Nat×Nat)} {n k:Nat} {p:Nat×Nat} (h:ps[n]? = some p) (hs:¬ Sb p.1 k):j8 ps [n] k=none:=by unfold j8;rw[h];exact if_neg hs
theorem Vy {ps:List (Nat×Nat)} {n k:Nat} {p:Nat×Nat} (h:ps[n]? = some p) (hs:Sb p.1 k):j8 ps [n] k=some (k ||| p.2):=by unfold j8;rw[h];exact if_pos hs
def rK (ps:List (Nat×Nat)) (pl:List Nat) (l r:Nat):Bool:=match j8 ps pl l with
 | none=>false
 | some k=>decide (Sb r k)
theorem Dc {ps:List (Nat×Nat)} {pl:List Nat} {l r:Nat} (h:j8 ps pl l=none):rK ps pl l r=false:=by unfold rK;rw[h]
theorem Pq {ps:List (Nat×Nat)} {pl:List Nat} {l r k:Nat} (h:j8 ps pl l=some k):rK ps pl l r=decide (Sb r k):=by unfold rK;rw[h]
theorem Dd {ps:List (Nat×Nat)}:∀ {pl:List Nat} {l k:Nat},j8 ps pl l=some k→∀ i∈pl,i<ps.length
 | [],_,_,_=>fun _ h=>nomatch h
 | i::pl,l,k,h=>by
  unfold j8 at h
  cases e:ps[i]? with
  | none=>rw[e] at h;cases h
  | some p =>
   rw[e] at h
   simp only at h
   by_cases q:Sb p.1 l
   ·rw[if_pos q] at h
    intro j hj
    rcases List.mem_cons.mp hj with rfl | hj
    ·exact(List.getElem?_eq_some_iff.mp e).1
    ·exact Dd h j hj
   ·rw[if_neg q] at h;cases h
def useful (k:Nat) (p:Nat×Nat):Bool:=decide (Sb p.1 k) && !decide (Sb p.2 k)
theorem ZS:∀ (bs:List Bool),true∈bs→∃ j:Nat,bs[j]? = some true∧∀ m:Nat,m<j→bs[m]? = some false
 | [],h=>nomatch h
 | true::_,_=>⟨0,rfl,fun m h=>absurd h (Nat.not_lt_zero m)⟩
 | false::bs,h=>by
  obtain⟨j,h1,h2⟩:=ZS bs (by simpa using h)
  refine⟨j+1,by simpa using h1,fun m hm=>?_⟩
  cases m with
  | zero=>rfl
  | succ m=>simpa using h2 m (by omega)
theorem alU {ps:List (Nat×Nat)} {k r:Nat} (h:Sb r (cl ps k)) (hn:¬ Sb r k):true∈ps.map (useful k):=by
 by_cases e:∃ p∈ps,useful k p=true
 ·obtain⟨p,hp,hu⟩:=e
  exact List.mem_map.mpr ⟨p,hp,hu⟩
 ·exfalso
  apply hn
  have hc:Cld ps k:=fun p hp hs=>by
   by_cases q:Sb p.2 k
   ·exact q
   ·exact absurd ⟨p,hp,by unfold useful;rw[decide_eq_true hs,decide_eq_false q];rfl⟩ e
  rwa [alT hc] at h
theorem aju {k:Nat} {p:Nat×Nat} (h:useful k p=true):Sb p.1 k∧¬ Sb p.2 k:=by
 unfold useful at h
 rw[Bool.and_eq_true] at h
 exact⟨of_decide_eq_true h.1,fun z=>by have:=h.2;rw[decide_eq_true z] at this;cases this⟩
theorem grows {k a:Nat} (h:¬ Sb a k):k<k ||| a:=by
 rcases Nat.lt_or_eq_of_le (Nat.left_le_or (n:=k) (m:=a)) with q | q
 ·exact q
 ·exfalso;apply h;unfold Sb;rw[Nat.or_comm];exact q.symm
end TC
namespace TC
def rowOf (c s n:Nat):List Nat:=(List.range c).map fun j=>if s.testBit j=true then 0 else n
theorem BW (c s n:Nat):(rowOf c s n).length=c:=by unfold rowOf;rw[List.length_map,List.length_range]
theorem ahz {c s n j:Nat} (h:j<c):(rowOf c s n).getD j 0=if s.testBit j=true then 0 else n:=by
 unfold rowOf
 simp [List.getD,List.getElem?_map,List.getElem?_range,h]
def low (a b v:Nat):Nat:=if v=a∨v=b then min a b else v
theorem apB (a b v:Nat):low a b v≤v:=by
 unfold low
 split
 ·rename_i h
  rcases h with rfl | rfl
  ·exact Nat.min_le_left _ _
  ·exact Nat.min_le_right _ _
 ·exact Nat.le_refl _
theorem ani {a b:Nat}:low a b a=min a b:=by unfold low;rw[if_pos (.inl rfl)]
theorem alV {a b:Nat}:low a b b=min a b:=by unfold low;rw[if_pos (.inr rfl)]
def dI (c r:Nat) (f g row:List Nat):List Nat:=(List.range c).map fun j=>if r.testBit j=true then low (f.getD j 0) (g.getD j 0) (row.getD j 0) else row.getD j 0
def dG (c r i k:Nat) (S:List (List Nat)):List (List Nat):=S.map (dI c r (S.getD i []) (S.getD k []))
theorem dm (c r:Nat) (f g row:List Nat):(dI c r f g row).length=c:=by unfold dI;rw[List.length_map,List.length_range]
theorem jN {c r j:Nat} {f g row:List Nat} (h:j<c):(dI c r f g row).getD j 0=if r.testBit j=true then low (f.getD j 0) (g.getD j 0) (row.getD j 0) else row.getD j 0:=by
 unfold dI
 simp [List.getD,List.getElem?_map,List.getElem?_range,h]
theorem ahA {row:List Nat} {j:Nat} (h:row.length≤j):row.getD j 0=0:=by
 simp [List.getD,List.getElem?_eq_none h]
theorem rN {c r j:Nat} {f g row:List Nat}:(dI c r f g row).getD j 0≤row.getD j 0:=by
 by_cases h:j<c
 ·rw[jN h]
  split
  ·exact apB _ _ _
  ·exact Nat.le_refl _
 ·rw[ahA (by rw[dm];omega)]
  exact Nat.zero_le _
theorem ae6 {x y:List Nat} (h:x.length=y.length) (e:∀ j,j<x.length→x.getD j 0=y.getD j 0):x=y:=by
 refine List.ext_getElem h fun j h1 h2=>?_
 have:=e j h1
 simpa [List.getD,List.getElem?_eq_getElem h1,List.getElem?_eq_getElem h2] using this
def sumTo (row:List Nat) (c:Nat):Nat:=((List.range c).map fun j=>row.getD j 0).sum
theorem wL (row:List Nat) (c:Nat):sumTo row (c+1)=sumTo row c+row.getD c 0:=by
 unfold sumTo
 rw[List.range_succ,List.map_append,List.sum_append];simp
theorem Ro {x y:List Nat} (h:∀ j,x.getD j 0≤y.getD j 0):∀ c,sumTo x c≤sumTo y c
 | 0=>Nat.le_refl _
 | c+1=>by
  rw[wL,wL]
  have:=Ro h c
  have:=h c
  omega
theorem ZV {x y:List Nat} {j:Nat} (h:∀ j,x.getD j 0≤y.getD j 0) (hj:x.getD j 0 < y.getD j 0):∀ c,j<c→sumTo x c<sumTo y c
 | 0,hc=>absurd hc (Nat.not_lt_zero j)
 | c+1,hc=>by
  rw[wL,wL]
  by_cases e:j=c
  ·subst e
   have:=Ro h j
   omega
  ·have:=ZV h hj c (by omega)
   have:=h c
   omega
def tot (c:Nat) (S:List (List Nat)):Nat:=(S.map fun row=>sumTo row c).sum
theorem Pr {α : Type} {f g : α → Nat}:∀ {l:List α},(∀ x∈l,f x≤g x)→(l.map f).sum≤(l.map g).sum
 | [],_=>Nat.le_refl _
 | x::l,h=>by
  simp only [List.map_cons,List.sum_cons]
  have:=h x List.mem_cons_self
  have:=Pr (l:=l) fun y hy=>h y (List.mem_cons_of_mem _ hy)
  omega
theorem Pu {α : Type} {f g : α → Nat} {a : α}:∀ {l:List α},(∀ x∈l,f x≤g x)→a∈l→f a<g a→(l.map f).sum<(l.map g).sum
 | [],_,ha,_=>nomatch ha
 | x::l,h,ha,hl=>by
  simp only [List.map_cons,List.sum_cons]
  have h1:=h x List.mem_cons_self
  have h2:=Pr (l:=l) fun y hy=>h y (List.mem_cons_of_mem _ hy)
  rcases List.mem_cons.mp ha with rfl | ha
  ·omega
  ·have:=Pu (l:=l) (fun y hy=>h y (List.mem_cons_of_mem _ hy)) ha hl
   omega
theorem apC (c r i k:Nat) (S:List (List Nat)):tot c (dG c r i k S)≤tot c S:=by
 unfold tot dG
 rw[List.map_map]
 exact Pr fun x _=>Ro (fun _=>rN) c
theorem K7 {S:List (List Nat)} {i:Nat} {f:List Nat} (h:S[i]? = some f):S.getD i [] = f:=by simp [List.getD,h]
theorem apE {c r i k j:Nat} {S:List (List Nat)} {f g:List Nat} (hf:S[i]? = some f) (hg:S[k]? = some g) (hj:j<c) (hr:r.testBit j=true) (hne:f.getD j 0≠g.getD j 0):tot c (dG c r i k S)<tot c S:=by
 unfold tot dG
 rw[List.map_map,K7 hf,K7 hg]
 have hle:∀ x∈S,sumTo (dI c r f g x) c≤sumTo x c:=fun x _=>Ro (fun _=>rN) c
 rcases Nat.lt_or_gt_of_ne hne with h | h
 ·refine Pu hle (List.mem_of_getElem? hg) ?_
  refine ZV (j:=j) (fun _=>rN) ?_ c hj
  rw[jN hj,if_pos hr,alV]
  omega
 ·refine Pu hle (List.mem_of_getElem? hf) ?_
  refine ZV (j:=j) (fun _=>rN) ?_ c hj
  rw[jN hj,if_pos hr,ani]
  omega
def Lk (s:Nat) (x y:List Nat):Prop:=∀ j,s.testBit j=true→x.getD j 0=y.getD j 0
theorem Lk.or {a b:Nat} {x y:List Nat} (h:Lk a x y) (k:Lk b x y):Lk (a ||| b) x y:=fun j hj=>by
 rw[Nat.testBit_or,Bool.or_eq_true] at hj
 rcases hj with e | e
 ·exact h j e
 ·exact k j e
theorem Lk.sub {a b:Nat} {x y:List Nat} (h:Lk b x y) (k:Sb a b):Lk a x y:=fun j hj=>h j (Sb.Rk.mp k j hj)
theorem Lk.symm {a:Nat} {x y:List Nat} (h:Lk a x y):Lk a y x:=fun j hj=>(h j hj).symm
theorem Lk.refl (a:Nat) (x:List Nat):Lk a x x:=fun _ _=>rfl
theorem Lk.trans {a:Nat} {x y z:List Nat} (h:Lk a x y) (k:Lk a y z):Lk a x z:=fun j hj=>(h j hj).trans (k j hj)
def Zer (s:Nat) (x:List Nat):Prop:=∀ j,s.testBit j=true→x.getD j 0=0
theorem Zer.step {s c r:Nat} {f g x:List Nat} (h:Zer s x):Zer s (dI c r f g x):=fun j hj=>Nat.le_zero.mp (by have:=h j hj;have:=rN (c:=c) (r:=r) (j:=j) (f:=f) (g:=g) (row:=x);omega)
end TC
namespace TC
theorem K8 (r n j:Nat):(r % 2 ^ n).testBit j=(decide (j<n) && r.testBit j):=Nat.testBit_mod_two_pow r n j
theorem ae7 {c r n:Nat} {f g x:List Nat} (hb:r.testBit n=true) (hn:n<c):dI c (r % 2 ^ (n+1)) f g x=(dI c (r % 2 ^ n) f g x).set n (low (f.getD n 0) (g.getD n 0) (x.getD n 0)):=by
 refine ae6 (by rw[List.length_set,dm,dm]) fun j hj=>?_
 rw[dm] at hj
 have hlen:j<(dI c (r % 2 ^ n) f g x).length:=by rw[dm];exact hj
 rw[jN hj,K8]
 by_cases e:j=n
 ·subst e
  rw[hb,if_pos (by simp)]
  simp [List.getD,List.getElem?_set,hlen]
 ·have h1:((dI c (r % 2 ^ n) f g x).set n (low (f.getD n 0) (g.getD n 0) (x.getD n 0))).getD j 0=(dI c (r % 2 ^ n) f g x).getD j 0:=by
   simp [List.getD,List.getElem?_set,Ne.symm e]
  rw[h1,jN hj,K8]
  have h2:decide (j<n+1)=decide (j<n):=decide_eq_decide.mpr (by omega)
  rw[h2]
theorem ae8 {c r n:Nat} {f g x:List Nat} (hb:r.testBit n=false):dI c (r % 2 ^ (n+1)) f g x=dI c (r % 2 ^ n) f g x:=by
 refine ae6 (by rw[dm,dm]) fun j hj=>?_
 rw[dm] at hj
 rw[jN hj,jN hj,K8,K8]
 by_cases e:j=n
 ·subst e
  rw[hb];simp
 ·have h2:decide (j<n+1)=decide (j<n):=decide_eq_decide.mpr (by omega)
  rw[h2]
theorem Df {c r n:Nat} {f g x:List Nat} (hn:n<c):(dI c (r % 2 ^ n) f g x).getD n 0=x.getD n 0:=by
 rw[jN hn,K8]
 simp
theorem ae9 {c r:Nat} {f g x:List Nat} (h:x.length=c):dI c (r % 2 ^ 0) f g x=x:=by
 refine ae6 (by rw[dm,h]) fun j hj=>?_
 rw[dm] at hj
 rw[jN hj,K8]
 simp
theorem anj {x:List Nat} {n:Nat}:x.set n (x.getD n 0)=x:=by
 refine ae6 (by rw[List.length_set]) fun j hj=>?_
 rw[List.length_set] at hj
 by_cases e:j=n
 ·subst e
  simp [List.getD,List.getElem?_set,hj]
 ·simp [List.getD,List.getElem?_set,Ne.symm e]
theorem akV {α : Type} {A B:List α} {m:Nat} {x : α} (hA:A[m]? = some x) (hl:A.length=B.length):(A.take m++B.drop m).set m x=A.take (m+1)++B.drop (m+1):=by
 have hm:m<A.length:=(List.getElem?_eq_some_iff.mp hA).1
 have hml:(A.take m).length=m:=by rw[List.length_take];omega
 rw[List.set_append_right _ _ (by omega),hml,Nat.sub_self,List.drop_eq_getElem_cons (by omega:m<B.length),List.set_cons_zero,List.take_add_one,hA]
 simp
theorem ank {α : Type} {A B:List α} {m:Nat} (hm:m≤A.length):(A.take m++B.drop m)[m]? = B[m]?:=by
 have hml:(A.take m).length=m:=by rw[List.length_take];omega
 rw[List.getElem?_append_right (by omega),hml,Nat.sub_self,List.getElem?_drop,Nat.add_zero]
def fO (c:Nat) (pts:List Nat):List (List Nat):=(List.range pts.length).map fun i=>rowOf c (pts.getD i 0) (i+1)
theorem ad9 {c i p:Nat} {pts:List Nat} (h:pts[i]? = some p):(fO c pts)[i]? = some (rowOf c p (i+1)):=by
 have hi:i<pts.length:=(List.getElem?_eq_some_iff.mp h).1
 unfold fO
 rw[List.getElem?_map,List.getElem?_range hi]
 simp [List.getD,h]
theorem Px (c:Nat) (pts:List Nat):(fO c pts).length=pts.length:=by unfold fO;rw[List.length_map,List.length_range]
theorem ajv {c:Nat} {pts:List Nat}:∀ x∈fO c pts,x.length=c:=fun x hx=>by
 unfold fO at hx
 obtain⟨i,_,rfl⟩:=List.mem_map.mp hx
 exact BW _ _ _
theorem alW {c s n:Nat} (hs:s < 2 ^ c):Zer s (rowOf c s n):=fun j hj=>by
 rw[ahz (ae5 hs hj),if_pos hj]
def ZP (pts:List Nat) (S:List (List Nat)):Prop:=∀ (i p:Nat),pts[i]? = some p→∃ x,S[i]? = some x∧Zer p x
theorem ZP.ahB {c:Nat} {pts:List Nat} (h:∀ p∈pts,p < 2 ^ c):ZP pts (fO c pts):=fun _ p hp=>⟨_,ad9 hp,alW (h p (List.mem_of_getElem? hp))⟩
theorem ZP.step {c r i k:Nat} {pts:List Nat} {S:List (List Nat)} (h:ZP pts S):ZP pts (dG c r i k S):=fun j p hp=>by
 obtain⟨x,hx,hz⟩:=h j p hp
 refine⟨dI c r (S.getD i []) (S.getD k []) x,?_,hz.step⟩
 unfold dG
 rw[List.getElem?_map,hx];rfl
theorem j9 (c r i k:Nat) (S:List (List Nat)):(dG c r i k S).length=S.length:=by unfold dG;rw[List.length_map]
theorem aea {c r i k:Nat} {S:List (List Nat)}:∀ x∈dG c r i k S,x.length=c:=fun x hx=>by
 unfold dG at hx
 obtain⟨y,_,rfl⟩:=List.mem_map.mp hx
 exact dm _ _ _ _ _
theorem ajw {c r i k:Nat} {S:List (List Nat)} (h:∀ x∈S,x.length=c):dG c (r % 2 ^ 0) i k S=S:=by
 unfold dG
 conv=>rhs;rw[← List.map_id S]
 exact List.map_congr_left fun x hx=>ae9 (h x hx)
theorem ajx {c r i k n:Nat} {S:List (List Nat)} (hb:r.testBit n=false):dG c (r % 2 ^ (n+1)) i k S=dG c (r % 2 ^ n) i k S:=by
 unfold dG
 exact List.map_congr_left fun x _=>ae8 hb
theorem ajy {c r i k:Nat} {S:List (List Nat)} (hr:r < 2 ^ c):dG c (r % 2 ^ c) i k S=dG c r i k S:=by rw[Nat.mod_eq_of_lt hr]
theorem apF {s c:Nat} {x y:List Nat} (hs:s < 2 ^ c) (h:¬ Lk s x y):∃ j,j<c∧s.testBit j=true∧x.getD j 0≠y.getD j 0:=by
 by_cases e:∃ j,j<c∧s.testBit j=true∧x.getD j 0≠y.getD j 0
 ·exact e
 ·exfalso
  apply h
  intro j hj
  by_cases q:x.getD j 0=y.getD j 0
  ·exact q
  ·exact absurd ⟨j,ae5 hs hj,hj,q⟩ e
end TC
namespace TC
theorem anl (a v:Nat):low a a v=v:=by
 unfold low
 by_cases h:v=a
 ·rw[if_pos (.inl h),Nat.min_self,h]
 ·rw[if_neg (fun z=>z.elim h h)]
theorem afa {c l r:Nat} {f g x:List Nat} (hl:l < 2 ^ c) (h:Lk l f g):Lk l (dI c r f g x) x:=fun j hj=>by
 rw[jN (ae5 hl hj)]
 by_cases e:r.testBit j=true
 ·rw[if_pos e,h j hj,anl]
 ·rw[if_neg e]
def Lks (l:Nat) (S S':List (List Nat)):Prop:=S'.length=S.length∧∀ (i:Nat) (x y:List Nat),S[i]? = some x→S'[i]? = some y→Lk l y x
theorem Lks.refl (l:Nat) (S:List (List Nat)):Lks l S S:=⟨rfl,fun i x y h k=>by rw[h] at k;cases k;exact Lk.refl _ _⟩
theorem Lks.step {c l r i k:Nat} {S S':List (List Nat)} {f g:List Nat} (hl:l < 2 ^ c) (h:Lks l S S') (hf:S'[i]? = some f) (hg:S'[k]? = some g) (hfg:Lk l f g):Lks l S (dG c r i k S'):=by
 refine⟨by rw[j9];exact h.1,fun n x y hx hy=>?_⟩
 unfold dG at hy
 rw[List.getElem?_map,K7 hf,K7 hg] at hy
 cases e:S'[n]? with
 | none=>rw[e] at hy;cases hy
 | some z =>
  rw[e] at hy
  cases hy
  exact(afa hl hfg).trans (h.2 n x z hx e)
theorem Lks.two {l i k:Nat} {S S':List (List Nat)} {x y f g:List Nat} (h:Lks l S S') (hx:S[i]? = some x) (hy:S[k]? = some y) (hf:S'[i]? = some f) (hg:S'[k]? = some g) (hxy:Lk l x y):Lk l f g :=
 ((h.2 i x f hx hf).trans hxy).trans (h.2 k y g hy hg).symm
theorem alX {c m:Nat} {S:List (List Nat)} (h:∀ x∈S,∀ j,x.getD j 0≤m):tot c S≤S.length * (c * m):=by
 have h1:∀ (row:List Nat),(∀ j,row.getD j 0≤m)→∀ c,sumTo row c≤c * m:=fun row hr c=>by
  induction c with
  | zero=>exact Nat.le_of_eq (by unfold sumTo;simp)
  | succ c ih =>
   rw[wL,Nat.succ_mul]
   exact Nat.add_le_add ih (hr c)
 induction S with
 | nil=>simp [tot]
 | cons x S ih =>
  have e:tot c (x::S)=sumTo x c+tot c S:=by unfold tot;rw[List.map_cons,List.sum_cons]
  rw[e,List.length_cons,Nat.succ_mul,Nat.add_comm]
  exact Nat.add_le_add (ih fun y hy=>h y (List.mem_cons_of_mem _ hy)) (h1 x (h x List.mem_cons_self) c)
theorem aeb {c:Nat} {pts:List Nat}:∀ x∈fO c pts,∀ j,x.getD j 0≤pts.length:=fun x hx j=>by
 obtain⟨i,hi⟩:=List.mem_iff_getElem?.mp hx
 have hl:i<pts.length:=by have:=(List.getElem?_eq_some_iff.mp hi).1;rwa [Px] at this
 rw[ad9 (List.getElem?_eq_getElem hl)] at hi
 cases hi
 by_cases hj:j<c
 ·rw[ahz hj]
  split <;> omega
 ·rw[ahA (by rw[BW];omega)]
  exact Nat.zero_le _
def Dn (m:Nat) (S:List (List Nat)):Prop:=∀ x∈S,∀ j,x.getD j 0≤m
theorem Dn.step {c r i k m:Nat} {S:List (List Nat)} (h:Dn m S):Dn m (dG c r i k S):=fun x hx j=>by
 unfold dG at hx
 obtain⟨y,hy,rfl⟩:=List.mem_map.mp hx
 exact Nat.le_trans rN (h y hy j)
end TC
namespace K12
open PySem L2 TC
def top (i:Nat):Stmt:=PySem.Challenge.pw_tellscolumns_k12_answers_by_hand.main.body.getD i (.Pass ⟨0,0,0,0⟩)
abbrev iT:Stmt:=top 11
abbrev lM:Stmt:=top 12
abbrev jO:Stmt:=top 13
abbrev fB:Stmt:=top 14
abbrev oY:Stmt:=top 15
abbrev lN:Stmt:=top 16
abbrev gW:Stmt:=top 17
abbrev mU:Stmt:=top 18
abbrev jn:Stmt:=top 19
abbrev iU:Stmt:=top 20
abbrev gw:Stmt:=top 21
abbrev iV:Stmt:=top 22
abbrev qI:Stmt:=top 23
abbrev tu:Stmt:=top 24
abbrev gY:Stmt:=top 25
abbrev qJ:Stmt:=top 26
abbrev mV:Stmt:=top 27
abbrev jo:Stmt:=top 28
abbrev lO:Stmt:=top 29
abbrev d8:Stmt:=top 30
abbrev gA:Stmt:=inClass (top 33) 0
abbrev fC:Stmt:=inClass (top 33) 1
abbrev iW:Stmt:=inClass (top 34) 0
abbrev gB:Stmt:=inClass (top 34) 1
abbrev d9:Stmt:=inClass (top 35) 0
abbrev fD:Stmt:=inClass (top 35) 1
abbrev gC:Stmt:=inClass (top 36) 0
abbrev fG:Stmt:=inClass (top 36) 1
abbrev iY:Stmt:=inClass (top 37) 0
abbrev gD:Stmt:=inClass (top 37) 1
abbrev fV:Stmt:=inClass (top 38) 0
abbrev gF:Stmt:=inClass (top 38) 1
abbrev jP:Stmt:=top 39
abbrev Ad:Stmt:=top 40
abbrev jq:Stmt:=top 41
abbrev fH:Stmt:=top 42
abbrev lQ:Stmt:=top 43
abbrev fP:Stmt:=inClass (top 45) 0
abbrev fJ:Stmt:=inClass (top 45) 1
abbrev oZ:Stmt:=top 46
abbrev gG:Stmt:=top 48
abbrev jQ:Stmt:=top 49
abbrev lR:Stmt:=top 51
abbrev jR:Stmt:=top 52
abbrev dw:Stmt:=top 53
abbrev fK:Stmt:=top 55
abbrev jT:Stmt:=top 56
abbrev lU:Stmt:=top 57
abbrev iZ:Stmt:=top 58
abbrev jU:Stmt:=top 59
abbrev jb:Stmt:=top 60
abbrev dU:Stmt:=top 61
abbrev jc:Stmt:=top 62
abbrev jr:Stmt:=top 63
abbrev fX:Stmt:=top 64
abbrev gZ:Stmt:=top 65
abbrev fM:Stmt:=top 66
abbrev jt:Stmt:=top 67
abbrev fQ:Stmt:=top 68
abbrev jV:Stmt:=top 69
abbrev kh:Stmt:=top 70
abbrev bZ:Stmt:=top 71
abbrev lV:Stmt:=top 72
abbrev cR:Stmt:=top 73
abbrev bW:Stmt:=top 74
abbrev cT:Stmt:=top 75
abbrev gH:Stmt:=top 76
abbrev bR:Stmt:=top 77
abbrev dD:Stmt:=top 78
abbrev cU:Stmt:=top 79
abbrev cW:Stmt:=top 80
abbrev Mx:Stmt:=top 81
abbrev apG:Scope:={ kind:=PySem.ScopeKind.function,names:=[ (PySem.Str.ofString ".0",PySem.NameKind.local),(PySem.Str.ofString "_law_part",PySem.NameKind.cell),(PySem.Str.ofString "any",PySem.NameKind.globalImplicit),(PySem.Str.ofString "_law_row_here",PySem.NameKind.free),(PySem.Str.ofString "_law_table",PySem.NameKind.free)],isGenerator:=false,isCoroutine:=false,more:=[]:PySem.Scope }
abbrev apH:Scope:={ kind:=PySem.ScopeKind.function,names:=[(PySem.Str.ofString ".0",PySem.NameKind.local),(PySem.Str.ofString "_law_some",PySem.NameKind.local)],isGenerator:=false,isCoroutine:=false,more:=[]:PySem.Scope }
theorem afb:aX ["value", "least", "most"] ["value", "least", "most"] (ak iT):=⟨rfl,rfl,rfl,by decide +kernel,rfl,by decide +kernel,by decide +kernel⟩
theorem ajz:aX ["value", "least", "most"] ["value", "least", "most"] (ak lM):=⟨rfl,rfl,rfl,by decide +kernel,rfl,by decide +kernel,by decide +kernel⟩
theorem ahC:aX ["columns"] ["columns"] (ak jO):=⟨rfl,rfl,rfl,by decide +kernel,rfl,by decide +kernel,by decide +kernel⟩
theorem ZW:aX ["columns"] ["columns"] (ak fB):=⟨rfl,rfl,rfl,by decide +kernel,rfl,by decide +kernel,by decide +kernel⟩
theorem alY:aX ["value", "columns"] ["value", "columns"] (ak oY):=⟨rfl,rfl,rfl,by decide +kernel,rfl,by decide +kernel,by decide +kernel⟩
theorem ajA:aX ["value", "columns"] ["value", "columns"] (ak lN):=⟨rfl,rfl,rfl,by decide +kernel,rfl,by decide +kernel,by decide +kernel⟩
theorem afc:aX ["value", "columns"] ["value", "columns"] (ak gW):=⟨rfl,rfl,rfl,by decide +kernel,rfl,by decide +kernel,by decide +kernel⟩
theorem alZ:aX ["value", "columns"] ["value", "columns"] (ak mU):=⟨rfl,rfl,rfl,by decide +kernel,rfl,by decide +kernel,by decide +kernel⟩
theorem ahD:aX ["value", "columns"] ["value", "columns"] (ak jn):=⟨rfl,rfl,rfl,by decide +kernel,rfl,by decide +kernel,by decide +kernel⟩
theorem vm:aX ["value", "columns", "together", "part"] ["value", "columns"] (ak iU):=⟨rfl,rfl,rfl,by decide +kernel,rfl,by decide +kernel,by decide +kernel⟩
theorem acL:aX ["columns", "parts"] ["columns", "parts"] (ak gw):=⟨rfl,rfl,rfl,by decide +kernel,rfl,by decide +kernel,by decide +kernel⟩
theorem afd:aX ["some", "whole"] ["some", "whole"] (ak iV):=⟨rfl,rfl,rfl,by decide +kernel,rfl,by decide +kernel,by decide +kernel⟩
theorem anm:aX ["row", "some"] ["row", "some"] (ak qI):=⟨rfl,rfl,rfl,by decide +kernel,rfl,by decide +kernel,by decide +kernel⟩
theorem Rp:aX ["table", "rule", "firsts", "row", "right"] ["table", "rule"] (ak tu):=⟨rfl,rfl,rfl,by decide +kernel,rfl,by decide +kernel,by decide +kernel⟩
theorem afe:aX ["table", "pairs"] ["table", "pairs"] (ak gY):=⟨rfl,rfl,rfl,by decide +kernel,rfl,by decide +kernel,by decide +kernel⟩
theorem ahE:aX ["table", "parts", "row", "part"] ["table", "parts", "row"] (ak qJ):=⟨rfl,rfl,rfl,by decide +kernel,rfl,by decide +kernel,by decide +kernel⟩
theorem al0:aX ["columns", "some", "number"] ["columns", "some", "number"] (ak mV):=⟨rfl,rfl,rfl,by decide +kernel,rfl,by decide +kernel,by decide +kernel⟩
theorem ahF:aX ["columns", "parts"] ["columns", "parts"] (ak jo):=⟨rfl,rfl,rfl,by decide +kernel,rfl,by decide +kernel,by decide +kernel⟩
theorem ajB:aX ["number", "one", "other"] ["number", "one", "other"] (ak lO):=⟨rfl,rfl,rfl,by decide +kernel,rfl,by decide +kernel,by decide +kernel⟩
theorem lW:aX ["sheet", "right", "one", "other", "first", "second", "stepped", "row", "fallen"] ["sheet", "right", "one", "other"] (ak d8):=⟨rfl,rfl,rfl,by decide +kernel,rfl,by decide +kernel,by decide +kernel⟩
theorem acM:aX ["self", "places"] ["self", "places"] (ak gA):=⟨rfl,rfl,rfl,by decide +kernel,rfl,by decide +kernel,by decide +kernel⟩
theorem ZX:aX ["self", "rules", "left", "right"] ["self", "rules", "left", "right"] (ak fC):=⟨rfl,rfl,rfl,by decide +kernel,rfl,by decide +kernel,by decide +kernel⟩
theorem afg:aX ["self", "one", "other"] ["self", "one", "other"] (ak iW):=⟨rfl,rfl,rfl,by decide +kernel,rfl,by decide +kernel,by decide +kernel⟩
theorem acN:aX ["self", "rules", "left", "right"] ["self", "rules", "left", "right"] (ak gB):=⟨rfl,rfl,rfl,by decide +kernel,rfl,by decide +kernel,by decide +kernel⟩
theorem acO:aX ["self", "there", "back"] ["self", "there", "back"] (ak d9):=⟨rfl,rfl,rfl,by decide +kernel,rfl,by decide +kernel,by decide +kernel⟩
theorem Z0:aX ["self", "one", "other"] ["self", "one", "other"] (ak fD):=⟨rfl,rfl,rfl,by decide +kernel,rfl,by decide +kernel,by decide +kernel⟩
theorem acP:aX ["self", "side", "place", "one", "other"] ["self", "side", "place", "one", "other"] (ak gC):=⟨rfl,rfl,rfl,by decide +kernel,rfl,by decide +kernel,by decide +kernel⟩
theorem wM:aX ["self", "one", "other", "pairs", "kept"] ["self", "one", "other"] (ak fG):=⟨rfl,rfl,rfl,by decide +kernel,rfl,by decide +kernel,by decide +kernel⟩
theorem afh:aX ["self", "steps"] ["self", "steps"] (ak iY):=⟨rfl,rfl,rfl,by decide +kernel,rfl,by decide +kernel,by decide +kernel⟩
theorem pq:aX ["self", "rules", "parts", "pairs", "sheet", "step"] ["self", "rules", "parts"] (ak gD):=⟨rfl,rfl,rfl,by decide +kernel,rfl,by decide +kernel,by decide +kernel⟩
theorem Rq:aX ["self", "table", "row"] ["self", "table", "row"] (ak fV):=⟨rfl,rfl,rfl,by decide +kernel,rfl,by decide +kernel,by decide +kernel⟩
theorem acQ:aX ["self", "rules", "parts"] ["self", "rules", "parts"] (ak gF):=⟨rfl,rfl,rfl,by decide +kernel,rfl,by decide +kernel,by decide +kernel⟩
theorem ahG:aX ["value", "things"] ["value", "things"] (ak jP):=⟨rfl,rfl,rfl,by decide +kernel,rfl,by decide +kernel,by decide +kernel⟩
theorem Rr:aX ["places", "rules", "left", "right", "pairs", "known", "place"] ["places", "rules", "left", "right"] (ak Ad):=⟨rfl,rfl,rfl,by decide +kernel,rfl,by decide +kernel,by decide +kernel⟩
theorem WL:aX ["lists", "rules", "others", "pairs"] ["lists", "rules", "others"] (ak jq):=⟨rfl,rfl,rfl,by decide +kernel,rfl,by decide +kernel,by decide +kernel⟩
theorem Z1:aX ["rows", "rules", "rule"] ["rows", "rules", "rule"] (ak fH):=⟨rfl,rfl,rfl,by decide +kernel,rfl,by decide +kernel,by decide +kernel⟩
theorem Z2:aX ["step", "pairs", "sheet", "left"] ["step", "pairs", "sheet"] (ak lQ):=⟨rfl,rfl,rfl,by decide +kernel,rfl,by decide +kernel,by decide +kernel⟩
theorem acR:aX ["self", "columns", "rules"] ["self", "columns", "rules"] (ak fP):=⟨rfl,rfl,rfl,by decide +kernel,rfl,by decide +kernel,by decide +kernel⟩
theorem Z4:aX ["self"] ["self"] (ak fJ):=⟨rfl,rfl,rfl,by decide +kernel,rfl,by decide +kernel,by decide +kernel⟩
theorem wH:aX ["pairs", "some", "known", "before", "rule"] ["pairs", "some"] (ak oZ):=⟨rfl,rfl,rfl,by decide +kernel,rfl,by decide +kernel,by decide +kernel⟩
theorem dW:aX ["rules", "parts", "pairs", "sheet", "full", "steps", "before", "place", "rule", "step"] ["rules", "parts"] (ak gG):=⟨rfl,rfl,rfl,by decide +kernel,rfl,by decide +kernel,by decide +kernel⟩
theorem qi:aX ["sheet", "place", "rule", "firsts", "steps", "number", "row", "first"] ["sheet", "place", "rule"] (ak jQ):=⟨rfl,rfl,rfl,by decide +kernel,rfl,by decide +kernel,by decide +kernel⟩
theorem Py:aX ["rules", "left", "right", "pairs", "known"] ["rules", "left", "right"] (ak lR):=⟨rfl,rfl,rfl,by decide +kernel,rfl,by decide +kernel,by decide +kernel⟩
theorem uM:aX ["pairs", "left", "right", "known", "steps", "step"] ["pairs", "left", "right"] (ak jR):=⟨rfl,rfl,rfl,by decide +kernel,rfl,by decide +kernel,by decide +kernel⟩
theorem GQ:aX ["pairs", "known", "useful"] ["pairs", "known"] (ak dw):=⟨rfl,rfl,rfl,by decide +kernel,rfl,by decide +kernel,by decide +kernel⟩
theorem Z5:aX ["_law_script", "_law_k"] ["_law_script", "_law_k"] (ak fK):=⟨rfl,rfl,rfl,by decide +kernel,rfl,by decide +kernel,by decide +kernel⟩
theorem WM:aX ["_law_cell", "_law_k", "_law_many", "_law_mixed"] ["_law_cell", "_law_k", "_law_many"] (ak jT):=⟨rfl,rfl,rfl,by decide +kernel,rfl,by decide +kernel,by decide +kernel⟩
theorem Dg:aX ["_law_cell", "_law_columns", "_law_some", "_law_column"] ["_law_cell", "_law_columns"] (ak lU):=⟨rfl,rfl,rfl,by decide +kernel,rfl,by decide +kernel,by decide +kernel⟩
theorem nW:aX ["_law_cell", "_law_columns", "_law_most", "_law_pairs_here", "_law_k", "_law_left", "_law_right"] ["_law_cell", "_law_columns", "_law_most"] (ak iZ):=⟨rfl,rfl,rfl,by decide +kernel,rfl,by decide +kernel,by decide +kernel⟩
theorem WN:aX ["_law_one", "_law_other", "_law_some", "_law_column"] ["_law_one", "_law_other", "_law_some"] (ak jU):=⟨rfl,rfl,rfl,by decide +kernel,rfl,by decide +kernel,by decide +kernel⟩
theorem Dh:aX ["_law_table", "_law_rule", "_law_one", "_law_other"] ["_law_table", "_law_rule"] (ak jb):=⟨rfl,rfl,rfl,by decide +kernel,rfl,by decide +kernel,by decide +kernel⟩
theorem Z6:aX ["_law_found", "_law_most"] ["_law_found", "_law_most"] (ak dU):=⟨rfl,rfl,rfl,by decide +kernel,rfl,by decide +kernel,by decide +kernel⟩
theorem vo:aX ["_law_pairs_here", "_law_left", "_law_right", "_law_places_here", "_law_now", "_law_place"] ["_law_pairs_here", "_law_left", "_law_right", "_law_places_here"] (ak jc):=⟨rfl,rfl,rfl,by decide +kernel,rfl,by decide +kernel,by decide +kernel⟩
theorem ahH:aX ["_law_pairs_here", "_law_columns", "_law_left", "_law_right", "_law_one", "_law_other"] ["_law_pairs_here", "_law_columns", "_law_left", "_law_right", "_law_one", "_law_other"] (ak jr):=⟨rfl,rfl,rfl,by decide +kernel,rfl,by decide +kernel,by decide +kernel⟩
theorem jD:aX ["_law_cell", "_law_columns", "_law_parts_here", "_law_one", "_law_k", "_law_left", "_law_part"] ["_law_cell", "_law_columns"] (ak fX):=⟨rfl,rfl,rfl,by decide +kernel,rfl,by decide +kernel,by decide +kernel⟩
theorem Di:aX ["_law_parts_here", "_law_columns", "_law_found", "_law_place"] ["_law_parts_here", "_law_columns"] (ak gZ):=⟨rfl,rfl,rfl,by decide +kernel,rfl,by decide +kernel,by decide +kernel⟩
theorem qK:aX ["_law_sheet_here", "_law_one", "_law_other", "_law_right", "_law_column", "_law_both", "_law_row_here"] ["_law_sheet_here", "_law_one", "_law_other", "_law_right"] (ak fM):=⟨rfl,rfl,rfl,by decide +kernel,rfl,by decide +kernel,by decide +kernel⟩
theorem mW:aX ["_law_pairs_here", "_law_columns", "_law_parts_here", "_law_steps_here", "_law_sheet_here", "_law_step", "_law_place", "_law_one", "_law_other"] ["_law_pairs_here", "_law_columns", "_law_parts_here", "_law_steps_here"] (ak jt):=⟨rfl,rfl,rfl,by decide +kernel,rfl,by decide +kernel,by decide +kernel⟩
theorem ahI:aX ["_law_pairs_here", "_law_columns", "_law_parts_here", "_law_table", "_law_row_here"] ["_law_pairs_here", "_law_columns", "_law_parts_here", "_law_table", "_law_row_here"] (ak fQ):=⟨rfl,rfl,rfl,by decide +kernel,rfl,by decide +kernel,by decide +kernel⟩
theorem ahJ:aX ["_law_said", "_law_due"] ["_law_said", "_law_due"] (ak jV):=⟨rfl,rfl,rfl,by decide +kernel,rfl,by decide +kernel,by decide +kernel⟩
theorem ajC:aX ["_law_cell", "_law_columns"] ["_law_cell", "_law_columns"] (ak kh):=⟨rfl,rfl,rfl,by decide +kernel,rfl,by decide +kernel,by decide +kernel⟩
theorem bC:aX ["_law_rules", "_law_cell", "_law_columns", "_law_pairs_here", "_law_left", "_law_right", "_law_places_here", "_law_found", "_law_handed", "_law_answer", "_law_said", "_law_one", "_law_other"] ["_law_rules", "_law_cell", "_law_columns"] (ak bZ):=⟨rfl,rfl,rfl,by decide +kernel,rfl,by decide +kernel,by decide +kernel⟩
theorem ajD:aX ["_law_some", "_law_others"] ["_law_some", "_law_others"] (ak lV):=⟨rfl,rfl,rfl,by decide +kernel,rfl,by decide +kernel,by decide +kernel⟩
theorem jE:aX ["_law_rules", "_law_answer", "_law_cell", "_law_columns", "_law_left", "_law_right", "_law_pairs_here", "_law_rows_here", "_law_turn", "_law_due"] ["_law_rules", "_law_answer", "_law_cell", "_law_columns", "_law_left", "_law_right"] (ak cR):=⟨rfl,rfl,rfl,by decide +kernel,rfl,by decide +kernel,by decide +kernel⟩
theorem bD:aX ["_law_rules", "_law_cell", "_law_columns", "_law_pairs_here", "_law_parts_here", "_law_steps_here", "_law_k", "_law_table", "_law_row_here", "_law_found", "_law_handed", "_law_answer", "_law_other", "_law_one", "_law_said"] ["_law_rules", "_law_cell", "_law_columns"] (ak bW):=⟨rfl,rfl,rfl,by decide +kernel,rfl,by decide +kernel,by decide +kernel⟩
theorem mq:aX ["_law_rules", "_law_parts_here", "_law_answer", "_law_other", "_law_cell", "_law_columns", "_law_pairs_here", "_law_turn", "_law_due"] ["_law_rules", "_law_parts_here", "_law_answer", "_law_other", "_law_cell", "_law_columns"] (ak cT):=⟨rfl,rfl,rfl,by decide +kernel,rfl,by decide +kernel,by decide +kernel⟩
theorem pA:aX ["_law_pairs_here", "_law_rules", "_law_found", "_law_left", "_law_right", "_law_answer"] ["_law_pairs_here", "_law_rules"] (ak gH):=⟨rfl,rfl,rfl,by decide +kernel,rfl,by decide +kernel,by decide +kernel⟩
theorem dz:aX ["_law_one", "_law_other", "_law_cell", "_law_columns", "_law_pairs_here", "_law_others", "_law_lists", "_law_handed", "_law_answer", "_law_some", "_law_due"] ["_law_one", "_law_other", "_law_cell", "_law_columns"] (ak bR):=⟨rfl,rfl,rfl,by decide +kernel,rfl,by decide +kernel,by decide +kernel⟩
theorem eH:aX ["_law_pairs_here", "_law_others", "_law_there", "_law_back_here", "_law_due", "_law_mine", "_law_theirs", "_law_some", "_law_rule", "_law_places_here"] ["_law_pairs_here", "_law_others", "_law_there", "_law_back_here"] (ak dD):=⟨rfl,rfl,rfl,by decide +kernel,rfl,by decide +kernel,by decide +kernel⟩
theorem xZ:aX ["_law_one", "_law_other", "_law_answer", "_law_cell", "_law_due"] ["_law_one", "_law_other", "_law_answer", "_law_cell"] (ak cU):=⟨rfl,rfl,rfl,by decide +kernel,rfl,by decide +kernel,by decide +kernel⟩
theorem bK:aX ["_law_one", "_law_other", "_law_cell", "_law_columns", "_law_pairs_here", "_law_others", "_law_side", "_law_place", "_law_first", "_law_second", "_law_handed", "_law_answer", "_law_due", "_law_left", "_law_right"] ["_law_one", "_law_other", "_law_cell", "_law_columns"] (ak cW):=⟨rfl,rfl,rfl,by decide +kernel,rfl,by decide +kernel,by decide +kernel⟩
theorem Vz:aX ["_law_script", "_law_columns", "_law_one", "_law_other", "_law_at", "_law_cell"] ["_law_script"] (ak Mx):=⟨rfl,rfl,rfl,by decide +kernel,rfl,by decide +kernel,by decide +kernel⟩
theorem Ae:bootBuiltins "all" = some (.builtin "all"):=by decide +kernel
theorem apI:bootBuiltins "any" = some (.builtin "any"):=by decide +kernel
theorem afi:bootBuiltins "bool" = some (.type "bool"):=by decide +kernel
theorem vp:bootBuiltins "enumerate" = some (.type "enumerate"):=by decide +kernel
theorem ano:bootBuiltins "int" = some (.type "int"):=by decide +kernel
theorem cj:bootBuiltins "isinstance" = some (.builtin "isinstance"):=by decide +kernel
theorem dH:bootBuiltins "len" = some (.builtin "len"):=by decide +kernel
theorem dh:bootBuiltins "list" = some (.type "list"):=by decide +kernel
theorem anp:bootBuiltins "min" = some (.builtin "min"):=by decide +kernel
theorem Rt:bootBuiltins "tuple" = some (.type "tuple"):=by decide +kernel
theorem anq:bootBuiltins "zip" = some (.type "zip"):=by decide +kernel
structure Adr where
 kJ:Addr
 Hq:FuncData
 qj:Addr
 VB:FuncData
 mX:Addr
 Pz:FuncData
 jd:Addr
 Af:FuncData
 uN:Addr
 Z7:FuncData
 ql:Addr
 VD:FuncData
 kO:Addr
 Hr:FuncData
 uO:Addr
 Z8:FuncData
 mY:Addr
 PJ:FuncData
 kW:Addr
 Hs:FuncData
 jF:Addr
 Dj:FuncData
 kY:Addr
 Ht:FuncData
 yc:Addr
 afj:FuncData
 yd:Addr
 afk:FuncData
 kZ:Addr
 Hu:FuncData
 ye:Addr
 afl:FuncData
 uP:Addr
 Z9:FuncData
 mZ:Addr
 PK:FuncData
 qm:Addr
 VF:FuncData
 jG:Addr
 Dk:FuncData
 iH:Addr
 Dl:FuncData
 gJ:Addr
 Ag:FuncData
 jH:Addr
 Hv:FuncData
 iI:Addr
 Dm:FuncData
 iJ:Addr
 Dp:FuncData
 gK:Addr
 Ah:FuncData
 iK:Addr
 Dq:FuncData
 gM:Addr
 Ai:FuncData
 jJ:Addr
 Hw:FuncData
 iM:Addr
 Dr:FuncData
 je:Addr
 yg:FuncData
 iQ:Addr
 Ds:FuncData
 m5:Addr
 PL:FuncData
 Hx:Addr
 ajE:FuncData
 m6:Addr
 PN:FuncData
 jf:Addr
 Aj:FuncData
 qp:Addr
 VG:FuncData
 iR:Addr
 Du:FuncData
 gO:Addr
 Ak:FuncData
 uQ:Addr
 aac:FuncData
 jK:Addr
 Dv:FuncData
 m7:Addr
 PX:FuncData
 qt:Addr
 VH:FuncData
 m8:Addr
 P0:FuncData
 g8:Addr
 wN:FuncData
 jg:Addr
 Al:FuncData
 m9:Addr
 Qa:FuncData
 qu:Addr
 VJ:FuncData
 lg:Addr
 Hy:FuncData
 nj:Addr
 Qc:FuncData
 lu:Addr
 Hz:FuncData
 jh:Addr
 Am:FuncData
 lz:Addr
 HB:FuncData
 nu:Addr
 Qd:FuncData
 lA:Addr
 HD:FuncData
 lB:Addr
 HF:FuncData
 ji:Addr
 Ao:FuncData
 nA:Addr
 Qe:FuncData
 nC:Addr
 Qf:FuncData
 nF:Addr
 Qg:FuncData
 qw:Addr
 VL:FuncData
 cY:Addr
 oU:FuncData
 qx:Addr
 VN:FuncData
 eO:Addr
 rO:FuncData
 dJ:Addr
 qL:FuncData
 eU:Addr
 rP:FuncData
 jL:Addr
 Dw:FuncData
 dM:Addr
 qM:FuncData
 fY:Addr
 uZ:FuncData
 eV:Addr
 rQ:FuncData
 eX:Addr
 rR:FuncData
 aad:Addr
 anr:FuncData
 c7:Addr
 cI:Addr
 cM:Addr
 cA:Addr
 fu:Addr
 bT:Addr
 bB:Addr
structure Txt (K:W.Frag) (mg:Str→Option Value) (A:Adr):Prop where
 nG:Fun K "is_number" "is_number" iT A.kJ A.Hq
 qy:Binds K A.Hq ["value", "least", "most"] []
 qz:mg "is_number" = some (.ref A.kJ)
 BX:Fun K "is_list" "is_list" lM A.qj A.VB
 K9:Binds K A.VB ["value", "least", "most"] []
 La:mg "is_list" = some (.ref A.qj)
 aae:Fun K "is_count" "is_count" jO A.mX A.Pz
 ajF:Binds K A.Pz ["columns"] []
 ajG:mg "is_count" = some (.ref A.mX)
 tD:Fun K "all_columns" "all_columns" fB A.jd A.Af
 Aq:Binds K A.Af ["columns"] []
 Av:mg "all_columns" = some (.ref A.jd)
 HJ:Fun K "is_set" "is_set" oY A.uN A.Z7
 Ru:Binds K A.Z7 ["value", "columns"] []
 Rv:mg "is_set" = some (.ref A.uN)
 aec:Fun K "is_rule" "is_rule" lN A.ql A.VD
 al1:Binds K A.VD ["value", "columns"] []
 al2:mg "is_rule" = some (.ref A.ql)
 WQ:Fun K "are_rules" "are_rules" gW A.kO A.Hr
 ahK:Binds K A.Hr ["value", "columns"] []
 ahL:mg "are_rules" = some (.ref A.kO)
 aaf:Fun K "is_row" "is_row" mU A.uO A.Z8
 ahM:Binds K A.Z8 ["value", "columns"] []
 ahN:mg "is_row" = some (.ref A.uO)
 Qh:Fun K "is_table" "is_table" jn A.mY A.PJ
 aag:Binds K A.PJ ["value", "columns"] []
 aah:mg "is_table" = some (.ref A.mY)
 WR:Fun K "are_parts" "are_parts" iU A.kW A.Hs
 ahO:Binds K A.Hs ["value", "columns"] []
 ahP:mg "are_parts" = some (.ref A.kW)
 Rw:Fun K "need_parts" "need_parts" gw A.jF A.Dj
 afm:Binds K A.Dj ["columns", "parts"] []
 afn:mg "need_parts" = some (.ref A.jF)
 lC:Fun K "is_within" "is_within" iV A.kY A.Ht
 nH:Binds K A.Ht ["some", "whole"] []
 nJ:mg "is_within" = some (.ref A.kY)
 tE:Fun K "cells" "cells" qI A.yc A.afj
 vq:Binds K A.afj ["row", "some"] []
 vy:mg "cells" = some (.ref A.yc)
 afo:Fun K "keeps" "keeps" tu A.yd A.afk
 akW:Binds K A.afk ["table", "rule"] []
 akX:mg "keeps" = some (.ref A.yd)
 HN:Fun K "keeps_all" "keeps_all" gY A.kZ A.Hu
 WT:Binds K A.Hu ["table", "pairs"] []
 WW:mg "keeps_all" = some (.ref A.kZ)
 akY:Fun K "makes" "makes" qJ A.ye A.afl
 aop:Binds K A.afl ["table", "parts", "row"] []
 aoq:mg "makes" = some (.ref A.ye)
 Rx:Fun K "row_of" "row_of" mV A.uP A.Z9
 aai:Binds K A.Z9 ["columns", "some", "number"] []
 aaj:mg "row_of" = some (.ref A.uP)
 Qi:Fun K "sheet_of" "sheet_of" jo A.mZ A.PK
 aak:Binds K A.PK ["columns", "parts"] []
 aal:mg "sheet_of" = some (.ref A.mZ)
 aed:Fun K "lowered" "lowered" lO A.qm A.VF
 al3:Binds K A.VF ["number", "one", "other"] []
 al4:mg "lowered" = some (.ref A.qm)
 Dy:Fun K "after_step" "after_step" d8 A.jG A.Dk
 Ry:Binds K A.Dk ["sheet", "right", "one", "other"] []
 Rz:mg "after_step" = some (.ref A.jG)
 afp:Fun K "__init__" "Steps.__init__" gA A.iH A.Dl
 RB:Binds K A.Dl ["self", "places"] []
 BZ:Mk K A.c7 A.iH
 acS:Fun K "shows" "Steps.shows" fC A.gJ A.Ag
 Mz:Binds K A.Ag ["self", "rules", "left", "right"] []
 HS:Meth K A.c7 "shows" A.gJ
 ahQ:Fun K "__init__" "Rows.__init__" iW A.jH A.Hv
 WX:Binds K A.Hv ["self", "one", "other"] []
 Lb:Mk K A.cI A.jH
 afq:Fun K "shows" "Rows.shows" gB A.iI A.Dm
 Dz:Binds K A.Dm ["self", "rules", "left", "right"] []
 Aw:Meth K A.cI "shows" A.iI
 afr:Fun K "__init__" "Alike.__init__" d9 A.iJ A.Dp
 afs:Binds K A.Dp ["self", "there", "back"] []
 Ia:Mk K A.cM A.iJ
 acT:Fun K "shows" "Alike.shows" fD A.gK A.Ah
 MF:Binds K A.Ah ["self", "one", "other"] []
 Ib:Meth K A.cM "shows" A.gK
 aft:Fun K "__init__" "Apart.__init__" gC A.iK A.Dq
 afu:Binds K A.Dq ["self", "side", "place", "one", "other"] []
 Ie:Mk K A.cA A.iK
 acU:Fun K "shows" "Apart.shows" fG A.gM A.Ai
 MJ:Binds K A.Ai ["self", "one", "other"] []
 Ig:Meth K A.cA "shows" A.gM
 ahR:Fun K "__init__" "Back.__init__" iY A.jJ A.Hw
 WY:Binds K A.Hw ["self", "steps"] []
 Ld:Mk K A.fu A.jJ
 afv:Fun K "shows" "Back.shows" gD A.iM A.Dr
 RD:Binds K A.Dr ["self", "rules", "parts"] []
 MK:Meth K A.fu "shows" A.iM
 W0:Fun K "__init__" "Lost.__init__" fV A.je A.yg
 W2:Binds K A.yg ["self", "table", "row"] []
 Le:Mk K A.bT A.je
 afw:Fun K "shows" "Lost.shows" gF A.iQ A.Ds
 RG:Binds K A.Ds ["self", "rules", "parts"] []
 MN:Meth K A.bT "shows" A.iQ
 rT:Fun K "is_place" "is_place" jP A.m5 A.PL
 wO:Binds K A.PL ["value", "things"] []
 wQ:mg "is_place" = some (.ref A.m5)
 ajH:Fun K "lead" "lead" Ad A.Hx A.ajE
 ant:Binds K A.ajE ["places", "rules", "left", "right"] []
 anu:mg "lead" = some (.ref A.Hx)
 Qj:Fun K "all_lead" "all_lead" jq A.m6 A.PN
 aam:Binds K A.PN ["lists", "rules", "others"] []
 aan:mg "all_lead" = some (.ref A.m6)
 Ax:Fun K "break_alone" "break_alone" fH A.jf A.Aj
 MP:Binds K A.Aj ["rows", "rules", "rule"] []
 MT:mg "break_alone" = some (.ref A.jf)
 aee:Fun K "is_step" "is_step" lQ A.qp A.VG
 al5:Binds K A.VG ["step", "pairs", "sheet"] []
 al6:mg "is_step" = some (.ref A.qp)
 afx:Fun K "__init__" "Rules.__init__" fP A.iR A.Du
 RJ:Binds K A.Du ["self", "columns", "rules"] []
 Ca:Mk K A.bB A.iR
 acV:Fun K "rules" "Rules.rules" fJ A.gO A.Ak
 bO:Binds K A.Ak ["self"] []
 bH:Meth K A.bB "rules" A.gO
 ahS:Fun K "spread" "spread" oZ A.uQ A.aac
 anv:Binds K A.aac ["pairs", "some"] []
 anw:mg "spread" = some (.ref A.uQ)
 RK:Fun K "comes_back" "comes_back" gG A.jK A.Dv
 afy:Binds K A.Dv ["rules", "parts"] []
 afz:mg "comes_back" = some (.ref A.jK)
 aao:Fun K "steps_by" "steps_by" jQ A.m7 A.PX
 ajI:Binds K A.PX ["sheet", "place", "rule"] []
 ajJ:mg "steps_by" = some (.ref A.m7)
 VP:Fun K "follows" "follows" lR A.qt A.VH
 aef:Binds K A.VH ["rules", "left", "right"] []
 aeg:mg "follows" = some (.ref A.qt)
 aap:Fun K "steps_to" "steps_to" jR A.m8 A.P0
 ajK:Binds K A.P0 ["pairs", "left", "right"] []
 ajL:mg "steps_to" = some (.ref A.m8)
 Ih:Fun K "first_useful" "first_useful" dw A.g8 A.wN
 aaq:Binds K A.wN ["pairs", "known"] []
 aar:mg "first_useful" = some (.ref A.g8)
 pB:Fun K "_law_cell_at" "_law_cell_at" fK A.jg A.Al
 tG:Binds K A.Al ["_law_script", "_law_k"] []
 tH:mg "_law_cell_at" = some (.ref A.jg)
 fU:Fun K "_law_draw" "_law_draw" jT A.m9 A.Qa
 gj:Binds K A.Qa ["_law_cell", "_law_k", "_law_many"] []
 gm:mg "_law_draw" = some (.ref A.m9)
 wI:Fun K "_law_set" "_law_set" lU A.qu A.VJ
 Cd:Binds K A.VJ ["_law_cell", "_law_columns"] []
 Ce:mg "_law_set" = some (.ref A.qu)
 Ii:Fun K "_law_pairs" "_law_pairs" iZ A.lg A.Hy
 W3:Binds K A.Hy ["_law_cell", "_law_columns", "_law_most"] []
 W4:mg "_law_pairs" = some (.ref A.lg)
 pY:Fun K "_law_like" "_law_like" jU A.nj A.Qc
 rW:Binds K A.Qc ["_law_one", "_law_other", "_law_some"] []
 rY:mg "_law_like" = some (.ref A.nj)
 Ij:Fun K "_law_keeps" "_law_keeps" jb A.lu A.Hz
 W5:Binds K A.Hz ["_law_table", "_law_rule"] []
 W6:mg "_law_keeps" = some (.ref A.lu)
 jW:Fun K "_law_numbers" "_law_numbers" dU A.jh A.Am
 lX:Binds K A.Am ["_law_found", "_law_most"] []
 lY:mg "_law_numbers" = some (.ref A.jh)
 Ik:Fun K "_law_steps" "_law_steps" jc A.lz A.HB
 W7:Binds K A.HB ["_law_pairs_here", "_law_left", "_law_right", "_law_places_here"] []
 W8:mg "_law_steps" = some (.ref A.lz)
 wR:Fun K "_law_rows" "_law_rows" jr A.nu A.Qd
 DG:Binds K A.Qd ["_law_pairs_here", "_law_columns", "_law_left", "_law_right", "_law_one", "_law_other"] []
 DK:mg "_law_rows" = some (.ref A.nu)
 W9:Fun K "_law_parts" "_law_parts" fX A.lA A.HD
 ahT:Binds K A.HD ["_law_cell", "_law_columns"] []
 ahU:mg "_law_parts" = some (.ref A.lA)
 Xa:Fun K "_law_sheet" "_law_sheet" gZ A.lB A.HF
 ahV:Binds K A.HF ["_law_parts_here", "_law_columns"] []
 ahW:mg "_law_sheet" = some (.ref A.lB)
 M4:Fun K "_law_stepped" "_law_stepped" fM A.ji A.Ao
 acW:Binds K A.Ao ["_law_sheet_here", "_law_one", "_law_other", "_law_right"] []
 acX:mg "_law_stepped" = some (.ref A.ji)
 Qk:Fun K "_law_back" "_law_back" jt A.nA A.Qe
 aas:Binds K A.Qe ["_law_pairs_here", "_law_columns", "_law_parts_here", "_law_steps_here"] []
 aat:mg "_law_back" = some (.ref A.nA)
 Ql:Fun K "_law_lost" "_law_lost" fQ A.nC A.Qf
 aau:Binds K A.Qf ["_law_pairs_here", "_law_columns", "_law_parts_here", "_law_table", "_law_row_here"] []
 aav:mg "_law_lost" = some (.ref A.nC)
 iC:Fun K "_law_says" "_law_says" jV A.nF A.Qg
 ju:Binds K A.Qg ["_law_said", "_law_due"] []
 jw:mg "_law_says" = some (.ref A.nF)
 nY:Fun K "_law_row" "_law_row" kh A.qw A.VL
 qC:Binds K A.VL ["_law_cell", "_law_columns"] []
 qD:mg "_law_row" = some (.ref A.qw)
 vg:Fun K "_law_follows_right" "_law_follows_right" bZ A.cY A.oU
 Ms:Binds K A.oU ["_law_rules", "_law_cell", "_law_columns"] []
 Mt:mg "_law_follows_right" = some (.ref A.cY)
 wJ:Fun K "_law_put" "_law_put" lV A.qx A.VN
 Cg:Binds K A.VN ["_law_some", "_law_others"] []
 Ci:mg "_law_put" = some (.ref A.qx)
 Cj:Fun K "_law_anew_right" "_law_anew_right" cR A.eO A.rO
 VR:Binds K A.rO ["_law_rules", "_law_answer", "_law_cell", "_law_columns", "_law_left", "_law_right"] []
 V0:mg "_law_anew_right" = some (.ref A.eO)
 yh:Fun K "_law_parts_right" "_law_parts_right" bW A.dJ A.qL
 RL:Binds K A.qL ["_law_rules", "_law_cell", "_law_columns"] []
 RM:mg "_law_parts_right" = some (.ref A.dJ)
 Ck:Fun K "_law_parts_anew" "_law_parts_anew" cT A.eU A.rP
 V1:Binds K A.rP ["_law_rules", "_law_parts_here", "_law_answer", "_law_other", "_law_cell", "_law_columns"] []
 V2:mg "_law_parts_anew" = some (.ref A.eU)
 DN:Fun K "_law_places" "_law_places" gH A.jL A.Dw
 RN:Binds K A.Dw ["_law_pairs_here", "_law_rules"] []
 RP:mg "_law_places" = some (.ref A.jL)
 yj:Fun K "_law_lists_right" "_law_lists_right" bR A.dM A.qM
 RQ:Binds K A.qM ["_law_one", "_law_other", "_law_cell", "_law_columns"] []
 RT:mg "_law_lists_right" = some (.ref A.dM)
 u0:Fun K "_law_alike_due" "_law_alike_due" dD A.fY A.uZ
 GR:Binds K A.uZ ["_law_pairs_here", "_law_others", "_law_there", "_law_back_here"] []
 GX:mg "_law_alike_due" = some (.ref A.fY)
 Cm:Fun K "_law_there_anew" "_law_there_anew" cU A.eV A.rQ
 V3:Binds K A.rQ ["_law_one", "_law_other", "_law_answer", "_law_cell"] []
 V4:mg "_law_there_anew" = some (.ref A.eV)
 Cp:Fun K "_law_side_right" "_law_side_right" cW A.eX A.rR
 V5:Binds K A.rR ["_law_one", "_law_other", "_law_cell", "_law_columns"] []
 V6:mg "_law_side_right" = some (.ref A.eX)
 aqf:Fun K "law" "law" Mx A.aad A.anr
 b_law:Binds K A.anr ["_law_script"] []
 m_law:mg "law" = some (.ref A.aad)
 pC:Cls K A.c7
 Y8:mg "Steps" = some (.ref A.c7)
 eE:j7 K A.c7 "places"
 gP:Cls K A.cI
 ajM:mg "Rows" = some (.ref A.cI)
 jj:j7 K A.cI "one"
 cX:j7 K A.cI "other"
 lH:Cls K A.cM
 aor:mg "Alike" = some (.ref A.cM)
 dX:j7 K A.cM "there"
 jk:j7 K A.cM "back"
 gb:Cls K A.cA
 aos:mg "Apart" = some (.ref A.cA)
 gQ:j7 K A.cA "side"
 ig:j7 K A.cA "place"
 jM:j7 K A.cA "one"
 jx:j7 K A.cA "other"
 qN:Cls K A.fu
 ajN:mg "Back" = some (.ref A.fu)
 dY:j7 K A.fu "steps"
 dN:Cls K A.bT
 ajO:mg "Lost" = some (.ref A.bT)
 cu:j7 K A.bT "table"
 eY:j7 K A.bT "row"
 bL:Cls K A.bB
 akZ:mg "Rules" = some (.ref A.bB)
 bx:j7 K A.bB "columns"
 kj:j7 K A.bB "pairs"
 aaw:ad4 K A.c7
 kE:W.kitOne K (.ref A.c7) (.ref A.c7)=some true
 pD:W.kitOne K (.ref A.c7) (.ref A.cI)=some false
 tK:W.kitOne K (.ref A.c7) (.ref A.fu)=some false
 tM:W.kitOne K (.ref A.c7) (.ref A.bT)=some false
 afA:ad4 K A.cI
 lZ:W.kitOne K (.ref A.cI) (.ref A.c7)=some false
 qO:W.kitOne K (.ref A.cI) (.ref A.cI)=some true
 vz:W.kitOne K (.ref A.cI) (.ref A.fu)=some false
 vA:W.kitOne K (.ref A.cI) (.ref A.bT)=some false
 ak0:ad4 K A.fu
 tO:W.kitOne K (.ref A.fu) (.ref A.c7)=some false
 vB:W.kitOne K (.ref A.fu) (.ref A.cI)=some false
 qP:W.kitOne K (.ref A.fu) (.ref A.fu)=some true
 qQ:W.kitOne K (.ref A.fu) (.ref A.bT)=some false
 ak1:ad4 K A.bT
 tQ:W.kitOne K (.ref A.bT) (.ref A.c7)=some false
 vC:W.kitOne K (.ref A.bT) (.ref A.cI)=some false
 qR:W.kitOne K (.ref A.bT) (.ref A.fu)=some false
 qT:W.kitOne K (.ref A.bT) (.ref A.bT)=some true
 yo:mg "all" = none
 ahX:mg "any" = none
 Qm:mg "bool" = none
 lD:mg "enumerate" = none
 aeh:mg "int" = none
 bU:mg "isinstance" = none
 gh:mg "len" = none
 dZ:mg "list" = none
 aei:mg "min" = none
 dO:mg "range" = none
 yp:mg "tuple" = none
 aej:mg "zip" = none
 nM:∃ t,mg "MOST_COLUMNS" = some (.int 6 t)
 qU:∃ t,mg "MOST_RULES" = some (.int 64 t)
 uR:∃ t,mg "MOST_ROWS" = some (.int 64 t)
 pF:∃ t,mg "MOST_NUMBER" = some (.int 99 t)
 qW:∃ t,mg "MOST_PARTS" = some (.int 64 t)
def Tps (H:Hp):List Addr→List (Nat×Nat)→Prop
 | [],[]=>True
 | t::ts,p::ps=>H t=some (.tup [.int (p.1:Nat),.int (p.2:Nat)])∧Tps H ts ps
 | _,_=>False
theorem Tps.same {H H':Hp} (e:Same H H'):∀ {ts:List Addr} {ps:List (Nat×Nat)},Tps H ts ps→Tps H' ts ps
 | [],[],_=>trivial
 | _::_,_::_,⟨h,t⟩=>⟨e _ _ h,Tps.same e t⟩
 | [],_::_,h=>h.elim
 | _::_,[],h=>h.elim
theorem Tps.len {H:Hp}:∀ {ts:List Addr} {ps:List (Nat×Nat)},Tps H ts ps→ts.length=ps.length
 | [],[],_=>rfl
 | _::_,_::_,⟨_,t⟩=>congrArg (· + 1) (Tps.len t)
 | [],_::_,h=>h.elim
 | _::_,[],h=>h.elim
theorem Tps.get {H:Hp}:∀ {ts:List Addr} {ps:List (Nat×Nat)} {i:Nat} {v:V},Tps H ts ps→(ts.map V.ref)[i]? = some v→∃ t p,v = .ref t∧ps[i]? = some p∧H t=some (.tup [.int (p.1:Nat),.int (p.2:Nat)])
 | [],[],i,v,_,h=>by simp at h
 | t::_,p::_,0,v,⟨h,_⟩,e=>⟨t,p,by simpa using e.symm,by simp,h⟩
 | _::_,_::_,i+1,v,⟨_,t⟩,e=>by
  obtain⟨a,b,h1,h2,h3⟩:=Tps.get (i:=i) t (by simpa using e)
  exact⟨a,b,h1,by simpa using h2,h3⟩
 | [],_::_,_,_,h,_=>h.elim
 | _::_,[],_,_,h,_=>h.elim
theorem Tps.snoc {H:Hp} {t:Addr} {p:Nat×Nat} (e:H t=some (.tup [.int (p.1:Nat),.int (p.2:Nat)])):∀ {ts:List Addr} {ps:List (Nat×Nat)},Tps H ts ps→Tps H (ts++[t]) (ps++[p])
 | [],[],_=>⟨e,trivial⟩
 | _::_,_::_,⟨h,r⟩=>⟨h,Tps.snoc e r⟩
 | [],_::_,h=>h.elim
 | _::_,[],h=>h.elim
theorem Tps.upd {H:Hp} {a:Addr} {xs:List V} {o:HO} (ha:H a=some (.lst xs)):∀ {ts:List Addr} {ps:List (Nat×Nat)},Tps H ts ps→Tps (upd H a o) ts ps
 | [],[],_=>trivial
 | _::_,_::_,⟨h,t⟩=>⟨by rw[aG (iG h ha (by intro z;cases z))];exact h,Tps.upd ha t⟩
 | [],_::_,h=>h.elim
 | _::_,[],h=>h.elim
def dg (H:Hp) (l:Addr) (ps:List (Nat×Nat)):Prop:=∃ ts:List Addr,H l=some (.lst (ts.map V.ref))∧Tps H ts ps
theorem dg.same {H H':Hp} (e:Same H H') {l:Addr} {ps:List (Nat×Nat)}:dg H l ps→dg H' l ps:=fun ⟨ts,h,t⟩=>⟨ts,e _ _ h,t.same e⟩
theorem dg.upd {H:Hp} {a l:Addr} {xs:List V} {o:HO} {ps:List (Nat×Nat)} (ha:H a=some (.lst xs)) (hn:l≠a):dg H l ps→dg (upd H a o) l ps:=fun ⟨ts,h,t⟩=>⟨ts,by rw[aG hn];exact h,t.upd ha⟩
theorem Same.up {H H':Hp} {a:Addr} {o:HO} (e:Same H H') (h:H a=none):Same H (upd H' a o):=fun b u q=>by
 rw[aG (aL q h)];exact e b u q
theorem Same.new {H:Hp} {a:Addr} {o:HO} (h:H a=none):Same H (upd H a o):=Same.up (Same.refl H) h
def flds (c:Nat) (l:Addr):List (Str×V):=putF "pairs" (.ref l) (putF "columns" (.int (c:Nat)) [])
theorem kc:¬ (("columns" : Str) = "pairs"):=by decide +kernel
theorem cJ (c:Nat) (l:Addr):(flds c l).lookup ("columns" : Str)=some (.int (c:Nat)):=by
 unfold flds;rw[aZ,if_neg kc,aZ,if_pos rfl]
theorem ajP (c:Nat) (l:Addr):(flds c l).lookup ("pairs" : Str)=some (.ref l):=by
 unfold flds;rw[aZ,if_pos rfl]
theorem iB (c:Nat) (l:Addr) {m:Str} (h1:¬ m = "pairs") (h2:¬ m = "columns"):(flds c l).lookup m=none:=by
 unfold flds;rw[aZ,if_neg h1,aZ,if_neg h2];rfl
def bV (C:Addr) (H:Hp) (p l:Addr) (c:Nat) (ps:List (Nat×Nat)):Prop:=(∃ dx,H p=some (.ins C dx (flds c l)))∧dg H l ps
theorem bV.same {C:Addr} {H H':Hp} (e:Same H H') {p l:Addr} {c:Nat} {ps:List (Nat×Nat)}:bV C H p l c ps→bV C H' p l c ps:=fun ⟨⟨dx,h⟩,t⟩=>⟨⟨dx,e _ _ h⟩,t.same e⟩
theorem bV.upd {C:Addr} {H:Hp} {a:Addr} {xs:List V} {o:HO} {p l:Addr} {c:Nat} {ps:List (Nat×Nat)} (ha:H a=some (.lst xs)) (hn:l≠a):bV C H p l c ps→bV C (upd H a o) p l c ps:=fun ⟨⟨dx,h⟩,t⟩ =>
 ⟨⟨dx,by rw[aG (iG h ha (by intro z;cases z))];exact h⟩,t.upd ha hn⟩
def Good (c:Nat) (ps:List (Nat×Nat)):Prop:=1≤c∧c≤6∧ps.length≤64∧∀ p∈ps,p.1 < 2 ^ c∧p.2 < 2 ^ c
theorem afB {a c:Nat} (h:a < 2 ^ c):(decide ((0:Int)≤(a:Int)) && decide ((a:Int)≤((2 ^ c:Nat):Int) - 1))=true:=by
 generalize 2 ^ c=N at h ⊢
 rw[Bool.and_eq_true]
 exact⟨decide_eq_true (by omega),decide_eq_true (by omega)⟩
theorem Ay (a b:Nat):Builtin.bitOr (a:Int) (b:Int)=((a ||| b:Nat):Int):=by
 have h1:¬ (0≤Builtin.bitNot (a:Int)):=by unfold Builtin.bitNot;omega
 have h2:¬ (0≤Builtin.bitNot (b:Int)):=by unfold Builtin.bitNot;omega
 have e:∀ z:Int,Builtin.bitNot (Builtin.bitNot z)=z:=fun z=>by unfold Builtin.bitNot;omega
 have e2:Builtin.bitAnd (Builtin.bitNot (a:Int)) (Builtin.bitNot (b:Int))=Builtin.bitNot (((Builtin.bitNot (Builtin.bitNot (a:Int))).toNat ||| (Builtin.bitNot (Builtin.bitNot (b:Int))).toNat:Nat):Int):=by
  simp [Builtin.bitAnd,h1,h2]
 unfold Builtin.bitOr
 rw[e2,e,e,e,Int.toNat_natCast,Int.toNat_natCast]
theorem Y9 (a b:Nat):Builtin.bitAnd (a:Int) (b:Int)=((a &&& b:Nat):Int):=by
 rw[PyProof.Rows.bitAnd_pp (Int.natCast_nonneg a) (Int.natCast_nonneg b)];rfl
theorem DP (c:Nat):(1:Int) * 2 ^ ((c:Int)).toNat=((2 ^ c:Nat):Int):=by
 rw[Int.one_mul,Int.toNat_natCast];norm_cast
def afC:Sp:=fun vs H Q _=>∃ v a b:Int,vs = [.int v,.int a,.int b]∧Q (.bl (decide (a≤v) && decide (v≤b))) H
def ajQ:Sp:=fun vs H Q _=>∃ (p:Addr) (xs:List V) (a b:Int),vs = [.ref p,.int a,.int b]∧H p=some (.lst xs)∧Q (.bl (decide (a≤(xs.length:Int)) && decide ((xs.length:Int)≤b))) H
def ahY:Sp:=fun vs H Q _=>∃ v:Int,vs = [.int v]∧Q (.bl (decide (1≤v) && decide (v≤6))) H
def aax:Sp:=fun vs H Q _=>∃ c:Nat,vs = [.int (c:Nat)]∧c≤6∧Q (.int (((2 ^ c:Nat):Int) - 1)) H
def al7:Sp:=fun vs H Q _=>∃ (v:Int) (c:Nat),vs = [.int v,.int (c:Nat)]∧c≤6∧Q (.bl (decide (0≤v) && decide (v≤((2 ^ c:Nat):Int) - 1))) H
def ajR:Sp:=fun vs H Q _=>∃ (t:Addr) (a b c:Nat),vs = [.ref t,.int (c:Nat)]∧H t=some (.tup [.int (a:Nat),.int (b:Nat)])∧c≤6∧a < 2 ^ c∧b < 2 ^ c∧Q (.bl true) H
def afD:Sp:=fun vs H Q _=>∃ (l:Addr) (c:Nat) (ps:List (Nat×Nat)),vs = [.ref l,.int (c:Nat)]∧dg H l ps∧Good c ps∧∀ H',Same H H'→Q (.bl true) H'
def acY (C:Addr):Sp:=fun vs H Q _=>∃ (p dx l:Addr) (c:Nat) (ps:List (Nat×Nat)),vs = [.ref p,.int (c:Nat),.ref l]∧H p=some (.ins C dx [])∧dg H l ps∧Good c ps ∧
 ∀ (m:Addr) (H':Hp),H m=none→bV C H' p m c ps→(∀ b o,H b=some o→b≠p→H' b=some o)→Q .non H'
def aay (C:Addr):Sp:=fun vs H Q _=>∃ (p m:Addr) (c:Nat) (ps:List (Nat×Nat)),vs = [.ref p]∧bV C H p m c ps∧∀ (l:Addr) (ts:List Addr),H l=none→Tps H ts ps→Q (.ref l) (upd H l (.lst (ts.map V.ref)))
section
variable {P:Program} {w:World} {K:W.Frag} {mg:Str→Option Value} {base:Heap} {A:Adr}
theorem RV:W.kitOne K (.type "int") (.type "bool")=some false:=by kernel_rfl
theorem Xb:W.kitOne K (.type "int") (.type "int")=some true:=by kernel_rfl
theorem tR:W.kitOne K (.type "list") (.type "list")=some true:=by kernel_rfl
theorem u5:W.kitOne K (.type "tuple") (.type "tuple")=some true:=by kernel_rfl
theorem nZ (T:Txt K mg A):FnOk P w K mg base CX0 1 A.kJ A.Hq ["value", "least", "most"] afC:=by
 refine T.nG.ok afb (fun vs H Q E h=>?_) (fun cdv A' outer s H vs Q E hr h=>?_)
 ·obtain⟨v,a,b,rfl,_⟩:=h;rfl
 ·obtain⟨v,a,b,rfl,k⟩:=h
  refine⟨_,(aq (bN (bG (aW (d7 K) rfl T.bU cj (aj (pv 0) (aj (pL (v:=.ty "bool") rfl T.Qm afi rfl) ao)))) (aB (aM cH)) aU)
   (aB (aM (pX (aW (d7 K) rfl T.bU cj (aj (pv 0) (aj (pL (v:=.ty "int") rfl T.aeh ano rfl) ao))) (qF (Zo ahl ahl (pv 1) (pv 0) (pv 2))))))),?_⟩
  refine⟨_,rfl,_,_,_,false,rfl,.int v,RV,false,rfl,iteF ?_⟩
  refine⟨_,rfl,_,_,_,true,rfl,.int v,Xb,true,rfl,iteT ?_⟩
  refine⟨_,rfl,_,rfl,a,v,rfl,rfl,_,rfl,?_⟩
  refine ite2 (fun e=>?_) (fun e=>?_)
  ·refine⟨_,rfl,v,b,rfl,rfl,?_⟩
   rw[e,Bool.true_and] at k
   exact k
  ·have e':decide (a≤v)=false:=by simpa using e
   rw[e',Bool.false_and] at k
   exact k
theorem DQ (T:Txt K mg A):FnOk P w K mg base CX0 1 A.qj A.VB ["value", "least", "most"] ajQ:=by
 refine T.BX.ok ajz (fun vs H Q E h=>?_) (fun cdv A' outer s H vs Q E hr h=>?_)
 ·obtain⟨p,xs,a,b,rfl,_⟩:=h;rfl
 ·obtain⟨p,xs,a,b,rfl,hp,k⟩:=h
  refine⟨_,(aB (aM (pX (aW (d7 K) rfl T.bU cj (aj (pv 0) (aj (pL (v:=.ty "list") rfl T.dZ dh rfl) ao))) (qF (Zo ahl ahl (pv 1) (aW (bM K) rfl T.gh dH (aj (pv 0) ao)) (pv 2)))))),?_⟩
  refine⟨_,rfl,_,_,_,true,rfl,.lst hp,tR,true,rfl,iteT ?_⟩
  refine⟨_,rfl,_,rfl,p,xs,rfl,.inl (SqL.of hp),a,_,rfl,rfl,_,rfl,?_⟩
  refine ite2 (fun e=>?_) (fun e=>?_)
  ·refine⟨_,rfl,_,b,rfl,rfl,?_⟩
   rw[e,Bool.true_and] at k
   exact k
  ·have e':decide (a≤(xs.length:Int))=false:=by simpa using e
   rw[e',Bool.false_and] at k
   exact k
theorem ahZ (T:Txt K mg A):FnOk P w K mg base CX0 3 A.mX A.Pz ["columns"] ahY:=by
 have iu:=nZ (P:=P) (w:=w) (base:=base) T
 refine T.aae.ok ahC (fun vs H Q E h=>?_) (fun cdv A' outer s H vs Q E hr h=>?_)
 ·obtain⟨v,rfl,_⟩:=h;rfl
 ·obtain⟨v,rfl,k⟩:=h
  refine⟨_,(aB (aM (aC iu (hr.mono (by decide)) rfl T.qz T.nG.kp T.qy .nil aH (aj (pv 0) (aj aA (aj (sW (v:=.int 6) rfl T.nM.choose_spec ⟨_,rfl⟩) ao)))))),?_⟩
  exact⟨_,rfl,v,1,6,rfl,k⟩
theorem Il (T:Txt K mg A):FnOk P w K mg base CX0 1 A.jd A.Af ["columns"] aax:=by
 refine T.tD.ok ZW (fun vs H Q E h=>?_) (fun cdv A' outer s H vs Q E hr h=>?_)
 ·obtain⟨v,rfl,_⟩:=h;rfl
 ·obtain⟨c,rfl,hc,k⟩:=h
  refine⟨_,(aB (aM (bw aeT (bw CV aA (pv 0)) aA))),?_⟩
  refine⟨_,rfl,1,(c:Int),rfl,rfl,⟨Int.natCast_nonneg c,by omega,by decide⟩,_,1,rfl,rfl,?_⟩
  rw[DP]
  exact k
theorem aek (T:Txt K mg A):FnOk P w K mg base CX0 3 A.uN A.Z7 ["value", "columns"] al7:=by
 have iu:=nZ (P:=P) (w:=w) (base:=base) T
 have tU:=Il (P:=P) (w:=w) (base:=base) T
 refine T.HJ.ok alY (fun vs H Q E h=>?_) (fun cdv A' outer s H vs Q E hr h=>?_)
 ·obtain⟨v,c,rfl,_⟩:=h;rfl
 ·obtain⟨v,c,rfl,hc,k⟩:=h
  refine⟨_,(aB (aM (aC iu (hr.mono (by decide)) rfl T.qz T.nG.kp T.qy .nil aH (aj (pv 0) (aj aA (aj (aC tU (hr.mono (by decide)) rfl T.Av T.tD.kp T.Aq .nil aH (aj (pv 1) ao)) ao)))))),?_⟩
  exact⟨_,rfl,_,rfl,c,rfl,hc,v,0,_,rfl,k⟩
theorem ajS (T:Txt K mg A):FnOk P w K mg base CX0 5 A.ql A.VD ["value", "columns"] ajR:=by
 have Im:=aek (P:=P) (w:=w) (base:=base) T
 refine T.aec.ok ajA (fun vs H Q E h=>?_) (fun cdv A' outer s H vs Q E hr h=>?_)
 ·obtain⟨t,a,b,c,rfl,_⟩:=h;rfl
 ·obtain⟨t,a,b,c,rfl,ht,hc,ha,hb,k⟩:=h
  refine⟨_,(aq (bN (PW.pt (kI (bY (bG (aW (d7 K) rfl T.bU cj (aj (pv 0) (aj (pL (v:=.ty "tuple") rfl T.yp Rt rfl) ao))))) (lF (bA GP (aW (bM K) rfl T.gh dH (aj (pv 0) ao)) aA (bF _))))) (aB (aM cH)) aU)
   (aB (aM (pX (aC Im (hr.mono (by decide)) rfl T.Rv T.HJ.kp T.Ru .nil aH (aj (bh (bQ K) (pv 0) aA (fun _ _=>rfl)) (aj (pv 1) ao))) (qF (aC Im (hr.mono (by decide)) rfl T.Rv T.HJ.kp T.Ru .nil aH (aj (bh (bQ K) (pv 0) aA (fun _ _=>rfl)) (aj (pv 1) ao)))))))),?_⟩
  refine⟨_,rfl,_,_,_,true,rfl,.tup ht,u5,true,rfl,iteF ?_⟩
  refine⟨_,rfl,t,_,rfl,.inr (SqT.of ht),rfl,_,rfl,iteF ?_⟩
  refine⟨_,rfl,t,_,0,_,rfl,rfl,SqT.of ht,rfl,_,rfl,a,c,rfl,hc,_,rfl,?_⟩
  have e1:=afB ha
  have e2:=afB hb
  rw[e1]
  refine iteT ⟨_,rfl,t,_,1,_,rfl,rfl,SqT.of ht,rfl,_,rfl,b,c,rfl,hc,?_⟩
  rw[e2]
  exact k
theorem afE (T:Txt K mg A):FnOk P w K mg base CX0 7 A.kO A.Hr ["value", "columns"] afD:=by
 have rZ:=DQ (P:=P) (w:=w) (base:=base) T
 have al8:=ajS (P:=P) (w:=w) (base:=base) T
 refine T.WQ.ok afc (fun vs H Q E h=>?_) (fun cdv A' outer s H vs Q E hr h=>?_)
 ·obtain⟨l,c,ps,rfl,_⟩:=h;rfl
 ·obtain⟨l,c,ps,rfl,⟨ts,hl,htp⟩,⟨hc1,hc6,hlen,hps⟩,k⟩:=h
  refine⟨_,(aq (bN (bY (bG (aC rZ (hr.mono (by decide)) rfl T.La T.BX.kp T.K9 .nil aH (aj (pv 0) (aj aA (aj (sW (v:=.int 64) rfl T.qU.choose_spec ⟨_,rfl⟩) ao)))))) (aB (aM cH)) aU)
   (aB (aM (aW (lK K rfl) rfl T.yo Ae (aj (cP ["value", "columns"] (ak gW) ["rule", "columns"] [none,some 1] ⟨rfl,by decide +kernel,by decide +kernel,by decide +kernel,by decide +kernel,by decide +kernel⟩ rfl (bI K (pv 0)) (fun _ _ _ _ _=>(aO (i:=0) (by show List.Nodup (["rule", "columns"]:List Str);decide +kernel) rfl (Or.inl rfl) (Or.inr rfl))) (fun _ _ _ _ _=>cG) (fun _ _ _ _ _=>(aC al8 (hr.mono (by decide)) rfl T.al2 T.aec.kp T.al1 .nil aH (aj (pv 0) (aj (pv 1) ao))))) ao))))),?_⟩
  refine⟨_,rfl,l,ts.map V.ref,0,64,rfl,hl,_,rfl,?_⟩
  have hln:(ts.map V.ref).length=ps.length:=by rw[List.length_map];exact htp.len
  have e:(decide ((0:Int)≤((ts.map V.ref).length:Int)) && decide (((ts.map V.ref).length:Int)≤64))=true:=by
   rw[hln];simp;omega
  rw[e]
  refine iteF ?_
  refine⟨_,rfl,l,rfl,⟨_,SqL.of hl⟩,fun D hD=>cO (xs:=ts.map V.ref) (fun i ys H'=>Same H H'∧ys=List.replicate i (.bl true)∧i≤ps.length) ⟨Same.new hD,rfl,Nat.zero_le _⟩ (fun i ys H' _ ⟨e,_⟩=>SqL.of (e _ _ hl)) ?_ ?_⟩
  ·rintro i x ys H' hx ⟨se,rfl,hi⟩ hDl
   obtain⟨t,p,rfl,hp,ht⟩:=(htp.same se).get hx
   have hi':i<ps.length:=(List.getElem?_eq_some_iff.mp hp).1
   have hb:=hps p (List.mem_of_getElem? hp)
   refine dF ?_
   refine⟨_,rfl,_,rfl,t,p.1,p.2,c,rfl,ht,hc6,hb.1,hb.2,CE1.mk hDl (aP (by rw[List.length_replicate];omega)) ⟨Same.up se hD,?_,hi'⟩⟩
   rw[List.replicate_succ']
  ·rintro ys H' ⟨se,rfl,_⟩ hDl
   refine⟨D,List.replicate _ true,rfl,SqL.of (by rw[List.map_replicate];exact hDl),?_⟩
   have e2:(List.replicate (ts.map V.ref).length true).all id=true:=by simp
   rw[e2]
   exact k H' se
theorem acZ (T:Txt K mg A):FnOk P w K mg base CX0 9 A.iR A.Du ["self", "columns", "rules"] (acY A.bB):=by
 have ajT:=ahZ (P:=P) (w:=w) (base:=base) T
 have ah0:=afE (P:=P) (w:=w) (base:=base) T
 refine T.afx.ok acR (fun vs H Q E h=>?_) (fun cdv A' outer s H vs Q E hr h=>?_)
 ·obtain⟨p,dx,l,c,ps,rfl,_⟩:=h;rfl
 ·obtain⟨p,dx,l,c,ps,rfl,hp,hP,hG,k⟩:=h
  obtain⟨hc1,hc6,hlen,hps⟩:=id hG
  refine⟨_,(aq (bN (bY (bG (aC ajT (hr.mono (by decide)) rfl T.ajG T.aae.kp T.ajF .nil aH (aj (pv 1) ao)))) (aB Rg) aU)
   (aq (bN (bY (bG (aC ah0 (hr.mono (by decide)) rfl T.ahL T.WQ.kp T.ahK .nil aH (aj (pv 2) (aj (pv 1) ao))))) (aB Rg) aU)
   (aq (jY K (pv 0) (pv 1))
   (aB (jY K (pv 0) (cP ["self", "columns", "rules"] (ak fP) ["rule"] [none] ⟨rfl,by decide +kernel,by decide +kernel,by decide +kernel,by decide +kernel,by decide +kernel⟩ rfl (bI K (pv 2)) (fun _ _ _ _ _=>(aO (i:=0) (by show List.Nodup (["rule"]:List Str);decide +kernel) rfl (Or.inl rfl) (Or.inr rfl))) (fun _ _ _ _ _=>cG) (fun _ _ _ _ _=>(Ab (aj (bh (bQ K) (pv 0) aA (fun _ _=>rfl)) (aj (bh (bQ K) (pv 0) aA (fun _ _=>rfl)) ao)))))))))),?_⟩
  refine⟨_,rfl,c,rfl,_,rfl,?_⟩
  have e:(decide ((1:Int)≤(c:Int)) && decide ((c:Int)≤6))=true:=by simp;omega
  rw[e]
  refine iteF ?_
  refine⟨_,rfl,_,rfl,l,c,ps,rfl,hP,hG,fun H1 s1=>⟨_,rfl,iteF ?_⟩⟩
  obtain⟨ts,hl,htp⟩:=hP.same s1
  have hp1:=s1 _ _ hp
  have npl:l≠p:=iG hl hp1 (by intro z;cases z)
  refine⟨_,rfl,_,rfl,p,A.bB,dx,[],rfl,hp1,T.bL,T.bx,by show 0 < 1000;decide,?_⟩
  have hl2:(upd H1 p (.ins A.bB dx (putF "columns" (.int (c:Nat)) []))) l=some (.lst (ts.map V.ref)):=by rw[aG npl];exact hl
  have hln:(ts.map V.ref).length=ps.length:=by rw[List.length_map];exact htp.len
  have htp2:Tps (upd H1 p (.ins A.bB dx (putF "columns" (.int (c:Nat)) []))) ts ps:=by
   have:∀ {ts:List Addr} {ps:List (Nat×Nat)},Tps H1 ts ps→Tps (upd H1 p (.ins A.bB dx (putF "columns" (.int (c:Nat)) []))) ts ps:=by
    intro ts
    induction ts with
    | nil=>intro ps h;cases ps with
     | nil=>exact h
     | cons _ _=>exact h
    | cons t ts ih=>intro ps h;cases ps with
     | nil=>exact h
     | cons q ps=>exact⟨by rw[aG (iG h.1 hp1 (by intro z;cases z))];exact h.1,ih h.2⟩
   exact this htp
  refine⟨_,rfl,l,rfl,⟨_,SqL.of hl2⟩,fun D hD=>cO (xs:=ts.map V.ref) (fun i ys H'=>Same (upd H1 p (.ins A.bB dx (putF "columns" (.int (c:Nat)) []))) H'∧i≤ps.length∧∃ qs:List Addr,ys=qs.map V.ref∧Tps H' qs (ps.take i)) ⟨Same.new hD,Nat.zero_le _,[],rfl,trivial⟩ (fun i ys H' _ ⟨e,_⟩=>SqL.of (e _ _ hl2)) ?_ ?_⟩
  ·rintro i x ys H' hx ⟨se,hi,qs,rfl,hq⟩ hDl
   obtain⟨t,q,rfl,hqe,ht⟩:=(htp2.same se).get hx
   have hi':i<ps.length:=(List.getElem?_eq_some_iff.mp hqe).1
   have hql:qs.length=i:=by rw[hq.len,List.length_take];omega
   refine dF ?_
   refine⟨_,rfl,t,_,0,_,rfl,rfl,SqT.of ht,rfl,_,rfl,t,_,1,_,rfl,rfl,SqT.of ht,rfl,by show 2≤sizeLine;decide,fun n hn=>?_⟩
   have nD:D≠n:=aL hDl hn
   have hDl2:(upd H' n (.tup [.int (q.1:Nat),.int (q.2:Nat)])) D=some (.lst (qs.map V.ref)):=by rw[aG nD];exact hDl
   refine CE1.mk hDl2 (aP (by rw[List.length_map];omega)) ⟨Same.up (Same.up se (se.free hn)) hD,hi',qs++[n],by rw[List.map_append];rfl,?_⟩
   have et:ps.take (i+1)=ps.take i++[q]:=by rw[List.take_succ,hqe];rfl
   rw[et]
   exact Tps.snoc (by rw[aG nD.symm,au]) ((hq.same (Same.new hn)).upd hDl2)
  ·rintro ys H' ⟨se,hi,qs,rfl,hq⟩ hDl
   rw[hln,List.take_length] at hq
   have hp3:=se p _ au
   have nDp:D≠p:=iG hDl hp3 (by intro z;cases z)
   refine⟨_,rfl,p,A.bB,dx,_,rfl,hp3,T.bL,T.kj,by show 1 < 1000;decide,?_⟩
   have hq2:Tps (upd H' p (.ins A.bB dx (flds c D))) qs ps:=by
    have:∀ {ts:List Addr} {ps:List (Nat×Nat)},Tps H' ts ps→Tps (upd H' p (.ins A.bB dx (flds c D))) ts ps:=by
     intro ts
     induction ts with
     | nil=>intro ps h;cases ps with
      | nil=>exact h
      | cons _ _=>exact h
     | cons t ts ih=>intro ps h;cases ps with
      | nil=>exact h
      | cons q ps=>exact⟨by rw[aG (iG h.1 hp3 (by intro z;cases z))];exact h.1,ih h.2⟩
    exact this hq
   refine k D _ ?_ ⟨⟨dx,au⟩,qs,by rw[aG nDp];exact hDl,hq2⟩ fun b o hb hbp=>?_
   ·rw[aG nDp] at hD
    exact s1.free hD
   ·rw[aG hbp]
    refine se _ _ ?_
    rw[aG hbp]
    exact s1 _ _ hb
theorem cB (T:Txt K mg A):FnOk P w K mg base CX0 1 A.gO A.Ak ["self"] (aay A.bB):=by
 refine T.acV.ok Z4 (fun vs H Q E h=>?_) (fun cdv A' outer s H vs Q E hr h=>?_)
 ·obtain⟨p,m,c,ps,rfl,_⟩:=h;rfl
 ·obtain⟨p,m,c,ps,rfl,⟨⟨dx,hp⟩,ts,hm,htp⟩,k⟩:=h
  refine⟨_,(aB (aM (cC (cg K) rfl T.dZ dh (aj (aR K (pv 0)) ao)))),?_⟩
  exact⟨_,rfl,p,A.bB,dx,_,_,rfl,hp,T.bL,T.kj,ajP _ _,m,_,rfl,.inl (SqL.of hm),fun l hl=>k l ts hl htp⟩
end
def nums (ns:List Nat):List V:=ns.map fun n=>V.int (n:Nat)
def ltB (m:Nat) (ns:List Nat):Bool:=ns.all fun n=>decide (n<m)
def ajU:Sp:=fun vs H Q _=>∃ (l:Addr) (ns:List Nat) (m:Nat),vs = [.ref l,.int (m:Nat)]∧H l=some (.lst (nums ns))∧ns.length≤900∧∀ H',Same H H'→Q (.bl (ltB m ns)) H'
section
variable {P:Program} {w:World} {K:W.Frag} {mg:Str→Option Value} {base:Heap} {A:Adr}
theorem qX (T:Txt K mg A):FnOk P w K mg base CX0 1 A.jh A.Am ["_law_found", "_law_most"] ajU:=by
 refine T.jW.ok Z6 (fun vs H Q E h=>?_) (fun cdv A' outer s H vs Q E hr h=>?_)
 ·obtain⟨l,ns,m,rfl,_⟩:=h;rfl
 ·obtain⟨l,ns,m,rfl,hl,hlen,k⟩:=h
  refine⟨_,(aq (bN (bY (bG (aW (d7 K) rfl T.bU cj (aj (pv 0) (aj (pL (v:=.ty "list") rfl T.dZ dh rfl) ao))))) (aB (aM cH)) aU)
   (aB (aM (aW (lK K rfl) rfl T.yo Ae (aj (cP ["_law_found", "_law_most"] (ak dU) ["_law_one", "_law_most"] [none,some 1] ⟨rfl,by decide +kernel,by decide +kernel,by decide +kernel,by decide +kernel,by decide +kernel⟩ rfl (bI K (pv 0)) (fun _ _ _ _ _=>(aO (i:=0) (by show List.Nodup (["_law_one", "_law_most"]:List Str);decide +kernel) rfl (Or.inl rfl) (Or.inr rfl))) (fun _ _ _ _ _=>cG) (fun _ _ _ _ _=>(pX (aW (d7 K) rfl T.bU cj (aj (pv 0) (aj (pL (v:=.ty "int") rfl T.aeh ano rfl) ao))) (pX (aeR (aW (d7 K) rfl T.bU cj (aj (pv 0) (aj (pL (v:=.ty "bool") rfl T.Qm afi rfl) ao)))) (qF (Zo ahl Zn aA (pv 0) (pv 1))))))) ao))))),?_⟩
  refine⟨_,rfl,_,_,_,true,rfl,.lst hl,tR,true,rfl,iteF ?_⟩
  refine⟨_,rfl,l,rfl,⟨_,SqL.of hl⟩,fun D hD=>cO (xs:=nums ns) (fun i ys H'=>Same H H'∧ys=((ns.take i).map fun n=>decide (n<m)).map V.bl) ⟨Same.new hD,rfl⟩ (fun i ys H' _ ⟨e,_⟩=>SqL.of (e _ _ hl)) ?_ ?_⟩
  ·rintro i x ys H' hx ⟨se,rfl⟩ hDl
   have hi:i<ns.length:=by
    have:=(List.getElem?_eq_some_iff.mp hx).1
    unfold nums at this
    rwa [List.length_map] at this
   have hxe:x = .int ((ns[i]:Nat):Int):=by
    unfold nums at hx
    rw[List.getElem?_map,List.getElem?_eq_getElem hi] at hx
    exact(Option.some.inj hx).symm
   subst hxe
   refine dF ?_
   refine⟨_,rfl,_,_,_,true,rfl,.int _,Xb,true,rfl,iteT ?_⟩
   refine⟨_,rfl,_,_,_,false,rfl,.int _,RV,false,rfl,true,rfl,iteT ?_⟩
   refine⟨_,rfl,0,_,rfl,rfl,_,rfl,?_⟩
   have e1:decide ((0:Int)≤((ns[i]:Nat):Int))=true:=decide_eq_true (Int.natCast_nonneg _)
   rw[e1]
   refine iteT ⟨_,rfl,_,_,rfl,rfl,?_⟩
   have e2:decide (((ns[i]:Nat):Int)<((m:Nat):Int))=decide (ns[i]<m):=decide_eq_decide.mpr (by omega)
   show CE1 _ D _ (i+1) _ (V.bl (decide (((ns[i]:Nat):Int)<((m:Nat):Int)))) H'
   rw[e2]
   refine CE1.mk hDl (aP (by rw[List.length_map,List.length_map,List.length_take];omega)) ⟨Same.up se hD,?_⟩
   rw[List.take_add_one,List.getElem?_eq_getElem hi,List.map_append,List.map_append];rfl
  ·rintro ys H' ⟨se,rfl⟩ hDl
   have hnl:(nums ns).length=ns.length:=by unfold nums;rw[List.length_map]
   rw[hnl,List.take_length] at hDl
   refine⟨D,_,rfl,SqL.of hDl,?_⟩
   have e2:(ns.map fun n=>decide (n<m)).all id=ltB m ns:=by rw[List.all_map];rfl
   rw[e2]
   exact k H' se
end
theorem RW {H:Hp}:∀ (ns:List Nat),Dts H (nums ns) (ns.map fun n=>PyData.int (n:Nat))
 | []=>.nil
 | _::ns=>.cons (.int _) (RW ns)
theorem Cq:∀ ns:List Nat,PyData.canLayAll0 (ns.map fun n=>PyData.int (n:Nat))=true
 | []=>rfl
 | _::ns=>by
  show(PyData.canLay0 (.int _) && PyData.canLayAll0 (ns.map fun n=>PyData.int (n:Nat)))=true
  rw[Cq ns];rfl
theorem wU:∀ ns:List Nat,PyData.depthAll (ns.map fun n=>PyData.int (n:Nat))≤1
 | []=>Nat.zero_le _
 | _::ns=>Nat.max_le.mpr ⟨Nat.zero_le _,wU ns⟩
theorem aqg:∀ a,a < 64→∀ i,i < 6→((a &&& 2 ^ i) != 0)=a.testBit i:=by decide +kernel
theorem afF {a i:Nat} (ha:a < 64) (hi:i < 6):(Builtin.bitAnd (a:Int) ((1:Int) * 2 ^ ((i:Int)).toNat) != 0)=a.testBit i:=by
 rw[DP,Y9,← aqg a ha i hi]
 generalize a &&& 2 ^ i=z
 cases z with
 | zero=>rfl
 | succ n=>rfl
theorem gq (ns:List Nat) (n:Nat):nums (ns++[n])=nums ns++[.int (n:Nat)]:=by unfold nums;rw[List.map_append];rfl
theorem aY (ns:List Nat):(nums ns).length=ns.length:=by unfold nums;rw[List.length_map]
theorem tV {ns:List Nat} {i:Nat} {x:V} (h:(nums ns)[i]? = some x):∃ n,ns[i]? = some n∧x = .int (n:Nat):=by
 unfold nums at h
 rw[List.getElem?_map] at h
 cases e:ns[i]? with
 | none=>rw[e] at h;cases h
 | some n=>rw[e] at h;exact⟨n,rfl,(Option.some.inj h).symm⟩
theorem aaz:∀ {a b:List Nat},nums a=nums b→a=b
 | [],[],_=>rfl
 | [],_::_,h=>by cases h
 | _::_,[],h=>by cases h
 | x::a,y::b,h=>by
  have h':V.int (x:Nat)::nums a=V.int (y:Nat)::nums b:=h
  injection h' with h1 h2
  injection h1 with h1
  rw[aaz h2,Int.ofNat.inj h1]
theorem Lf:∀ a b:List Nat,PyData.eqvAll (a.map fun n=>PyData.int (n:Nat)) (b.map fun n=>PyData.int (n:Nat))=decide (a=b)
 | [],[]=>rfl
 | [],_::_=>by simp [PyData.eqvAll]
 | _::_,[]=>by simp [PyData.eqvAll]
 | x::a,y::b=>by
  show(((x:Int) == (y:Int)) && PyData.eqvAll (a.map fun n=>PyData.int (n:Nat)) (b.map fun n=>PyData.int (n:Nat)))=_
  rw[Lf a b]
  by_cases h:x=y
  ·subst h;simp
  ·have h1:((x:Int) == (y:Int))=false:=by
    rw[beq_eq_false_iff_ne];omega
   rw[h1];simp [h]
theorem ajV (c:Nat):((2 ^ c:Nat):Int) - 1=((2 ^ c - 1:Nat):Int):=by
 have:0 < 2 ^ c:=Nat.two_pow_pos c
 generalize 2 ^ c=N at this ⊢
 omega
theorem al9 {s n j:Nat} (hs:s < 2 ^ n) (h:n≤j):s.testBit j=false:=Nat.testBit_lt_two_pow (Nat.lt_of_lt_of_le hs (Nat.pow_le_pow_right (by decide) h))
theorem getD_at {r:List Nat} {j:Nat} (h:j<r.length):r[j]? = some (r.getD j 0):=by simp [List.getD,h]
theorem lJ {α : Type} {rs:List α} {i:Nat} {r a : α} (h:rs[i]? = some r):a∈rs.take (i+1) ↔ a∈rs.take i∨a=r:=by
 rw[List.take_succ,h,List.mem_append];simp
def Rws (H:Hp):List Addr→List (List Nat)→Prop
 | [],[]=>True
 | t::ts,r::rs=>H t=some (.lst (nums r))∧Rws H ts rs
 | _,_=>False
theorem Rws.same {H H':Hp} (e:Same H H'):∀ {ts:List Addr} {rs:List (List Nat)},Rws H ts rs→Rws H' ts rs
 | [],[],_=>trivial
 | _::_,_::_,⟨h,t⟩=>⟨e _ _ h,Rws.same e t⟩
 | [],_::_,h=>h.elim
 | _::_,[],h=>h.elim
theorem Rws.len {H:Hp}:∀ {ts:List Addr} {rs:List (List Nat)},Rws H ts rs→ts.length=rs.length
 | [],[],_=>rfl
 | _::_,_::_,⟨_,t⟩=>congrArg (· + 1) (Rws.len t)
 | [],_::_,h=>h.elim
 | _::_,[],h=>h.elim
theorem Rws.get {H:Hp}:∀ {ts:List Addr} {rs:List (List Nat)} {i:Nat} {v:V},Rws H ts rs→(ts.map V.ref)[i]? = some v→∃ t r,v = .ref t∧rs[i]? = some r∧H t=some (.lst (nums r))
 | [],[],i,v,_,h=>by simp at h
 | t::_,r::_,0,v,⟨h,_⟩,e=>⟨t,r,by simpa using e.symm,by simp,h⟩
 | _::_,_::_,i+1,v,⟨_,t⟩,e=>by
  obtain⟨a,b,h1,h2,h3⟩:=Rws.get (i:=i) t (by simpa using e)
  exact⟨a,b,h1,by simpa using h2,h3⟩
 | [],_::_,_,_,h,_=>h.elim
 | _::_,[],_,_,h,_=>h.elim
theorem Rws.snoc {H:Hp} {t:Addr} {r:List Nat} (e:H t=some (.lst (nums r))):∀ {ts:List Addr} {rs:List (List Nat)},Rws H ts rs→Rws H (ts++[t]) (rs++[r])
 | [],[],_=>⟨e,trivial⟩
 | _::_,_::_,⟨h,t⟩=>⟨h,Rws.snoc e t⟩
 | [],_::_,h=>h.elim
 | _::_,[],h=>h.elim
def iw (H:Hp) (l:Addr) (rs:List (List Nat)):Prop:=∃ ts:List Addr,H l=some (.lst (ts.map V.ref))∧Rws H ts rs
theorem iw.same {H H':Hp} (e:Same H H') {l:Addr} {rs:List (List Nat)}:iw H l rs→iw H' l rs:=fun ⟨ts,h,t⟩=>⟨ts,e _ _ h,t.same e⟩
def aoV (c:Nat) (rs:List (List Nat)):Prop:=rs.length≤64∧∀ r∈rs,r.length=c∧∀ n∈r,n≤99
def Az (r:List Nat) (s i:Nat):List Nat:=((List.range i).filter fun j=>s.testBit j).map fun j=>r.getD j 0
def aK (r:List Nat) (s:Nat):List Nat:=Az r s r.length
theorem Xc (r:List Nat) (s i:Nat):Az r s (i+1)=Az r s i++(if s.testBit i=true then [r.getD i 0] else []):=by
 unfold Az
 rw[List.range_succ,List.filter_append,List.map_append]
 congr 1
 by_cases h:s.testBit i=true
 ·rw[if_pos h,List.filter_cons,if_pos h];rfl
 ·rw[if_neg h,List.filter_cons,if_neg h];rfl
theorem ajW (r:List Nat) (s i:Nat):(Az r s i).length≤i:=by
 unfold Az
 rw[List.length_map]
 exact Nat.le_trans (List.length_filter_le _ _) (by rw[List.length_range];exact Nat.le_refl _)
def Keeps (rs:List (List Nat)) (p:Nat×Nat):Prop:=∀ a∈rs,∀ b∈rs,aK a p.1=aK b p.1→aK a p.2=aK b p.2
instance (rs:List (List Nat)) (p:Nat×Nat):Decidable (Keeps rs p):=by unfold Keeps;infer_instance
def rowB (c:Nat) (r:List Nat):Bool:=decide (r.length=c) && r.all fun n=>decide (n≤99)
def tabB (c:Nat) (rs:List (List Nat)):Bool:=decide (rs.length≤64) && rs.all (rowB c)
theorem Lg {c:Nat} {rs:List (List Nat)} (h:tabB c rs=true):aoV c rs:=by
 unfold tabB at h
 rw[Bool.and_eq_true] at h
 refine⟨of_decide_eq_true h.1,fun r hr=>?_⟩
 have h2:=List.all_eq_true.mp h.2 r hr
 unfold rowB at h2
 rw[Bool.and_eq_true] at h2
 exact⟨of_decide_eq_true h2.1,fun n hn=>of_decide_eq_true (List.all_eq_true.mp h2.2 n hn)⟩
theorem ama {c:Nat} {rs:List (List Nat)} (h:aoV c rs):tabB c rs=true:=by
 unfold tabB
 rw[decide_eq_true h.1,Bool.true_and]
 refine List.all_eq_true.mpr fun r hr=>?_
 unfold rowB
 rw[decide_eq_true (h.2 r hr).1,Bool.true_and]
 exact List.all_eq_true.mpr fun n hn=>decide_eq_true ((h.2 r hr).2 n hn)
def bls (bs:List Bool):List V:=bs.map V.bl
theorem tW (bs:List Bool):(bls bs).length=bs.length:=by unfold bls;rw[List.length_map]
theorem nO (bs:List Bool) (b:Bool):bls (bs++[b])=bls bs++[.bl b]:=by unfold bls;rw[List.map_append];rfl
theorem map_take {α β : Type} (f : α → β) {xs:List α} {i:Nat} {x : α} (h:xs[i]? = some x):(xs.take (i+1)).map f=(xs.take i).map f++[f x]:=by
 rw[List.take_add_one,h,List.map_append];rfl
theorem all_map {α : Type} (f : α → Bool) (xs:List α):(xs.map f).all id=xs.all f:=by
 rw[List.all_map];rfl
def amb:Sp:=fun vs H Q _=>∃ (l:Addr) (c:Nat) (r:List Nat),vs = [.ref l,.int (c:Nat)]∧c≤6∧H l=some (.lst (nums r))∧∀ H',Same H H'→Q (.bl (rowB c r)) H'
def ah1:Sp:=fun vs H Q _=>∃ (l:Addr) (c:Nat) (rs:List (List Nat)),vs = [.ref l,.int (c:Nat)]∧c≤6∧iw H l rs∧∀ H',Same H H'→Q (.bl (tabB c rs)) H'
section
variable {P:Program} {w:World} {K:W.Frag} {mg:Str→Option Value} {base:Heap} {A:Adr}
theorem ael (T:Txt K mg A):FnOk P w K mg base CX0 3 A.uO A.Z8 ["value", "columns"] amb:=by
 have rZ:=DQ (P:=P) (w:=w) (base:=base) T
 have iu:=nZ (P:=P) (w:=w) (base:=base) T
 refine T.aaf.ok alZ (fun vs H Q E h=>?_) (fun cdv A' outer s H vs Q E hr h=>?_)
 ·obtain⟨l,c,r,rfl,_⟩:=h;rfl
 ·obtain⟨l,c,r,rfl,hc,hl,k⟩:=h
  refine⟨_,(aq (bN (bY (bG (aC rZ (hr.mono (by decide)) rfl T.La T.BX.kp T.K9 .nil aH (aj (pv 0) (aj (pv 1) (aj (pv 1) ao)))))) (aB (aM cH)) aU)
   (aB (aM (aW (lK K rfl) rfl T.yo Ae (aj (cP ["value", "columns"] (ak mU) ["number"] [none] ⟨rfl,by decide +kernel,by decide +kernel,by decide +kernel,by decide +kernel,by decide +kernel⟩ rfl (bI K (pv 0)) (fun _ _ _ _ _=>(aO (i:=0) (by show List.Nodup (["number"]:List Str);decide +kernel) rfl (Or.inl rfl) (Or.inr rfl))) (fun _ _ _ _ _=>cG) (fun _ _ _ _ _=>(aC iu (hr.mono (by decide)) rfl T.qz T.nG.kp T.qy .nil aH (aj (pv 0) (aj aA (aj (sW (v:=.int 99) rfl T.pF.choose_spec ⟨_,rfl⟩) ao)))))) ao))))),?_⟩
  refine⟨_,rfl,_,rfl,_,rfl,l,nums r,(c:Int),(c:Int),rfl,hl,_,rfl,?_⟩
  by_cases hlen:r.length=c
  ·have e:(decide ((c:Int)≤((nums r).length:Int)) && decide (((nums r).length:Int)≤(c:Int)))=true:=by
    rw[aY,hlen];simp
   rw[e]
   refine iteF ?_
   refine⟨_,rfl,l,rfl,⟨_,SqL.of hl⟩,fun D hD=>cO (xs:=nums r) (fun i ys H'=>Same H H'∧ys=bls ((r.take i).map fun n=>decide (n≤99))∧i≤r.length) ⟨Same.new hD,rfl,Nat.zero_le _⟩ (fun i ys H' _ ⟨e,_⟩=>SqL.of (e _ _ hl)) ?_ ?_⟩
   ·rintro i x ys H' hx ⟨se,rfl,hi⟩ hDl
    obtain⟨n,hn,rfl⟩:=tV hx
    have hi':i<r.length:=(List.getElem?_eq_some_iff.mp hn).1
    refine dF ?_
    refine⟨_,rfl,(n:Int),0,99,rfl,?_⟩
    have e2:(decide ((0:Int)≤(n:Int)) && decide ((n:Int)≤99))=decide (n≤99):=by
     rw[decide_eq_true (Int.natCast_nonneg n),Bool.true_and]
     exact decide_eq_decide.mpr (by omega)
    rw[e2]
    refine CE1.mk hDl (aP (by rw[tW,List.length_map,List.length_take];omega)) ⟨Same.up se hD,?_,hi'⟩
    rw[map_take _ hn,nO]
   ·rintro ys H' ⟨se,rfl,_⟩ hDl
    rw[aY,List.take_length] at hDl
    refine⟨D,_,rfl,SqL.of hDl,?_⟩
    have z:=k H' se
    unfold rowB at z
    rw[decide_eq_true hlen,Bool.true_and] at z
    rw[all_map]
    exact z
  ·have e:(decide ((c:Int)≤((nums r).length:Int)) && decide (((nums r).length:Int)≤(c:Int)))=false:=by
    rw[aY,Bool.and_eq_false_iff]
    by_cases q:c≤r.length
    ·exact .inr (decide_eq_false (by omega))
    ·exact .inl (decide_eq_false (by omega))
   rw[e]
   refine iteT ?_
   have z:=k H (Same.refl _)
   unfold rowB at z
   rw[decide_eq_false hlen,Bool.false_and] at z
   exact z
theorem Xd (T:Txt K mg A):FnOk P w K mg base CX0 5 A.mY A.PJ ["value", "columns"] ah1:=by
 have rZ:=DQ (P:=P) (w:=w) (base:=base) T
 have aaA:=ael (P:=P) (w:=w) (base:=base) T
 refine T.Qh.ok ahD (fun vs H Q E h=>?_) (fun cdv A' outer s H vs Q E hr h=>?_)
 ·obtain⟨l,c,rs,rfl,_⟩:=h;rfl
 ·obtain⟨l,c,rs,rfl,hc,⟨ts,hl,htp⟩,k⟩:=h
  refine⟨_,(aq (bN (bY (bG (aC rZ (hr.mono (by decide)) rfl T.La T.BX.kp T.K9 .nil aH (aj (pv 0) (aj aA (aj (sW (v:=.int 64) rfl T.uR.choose_spec ⟨_,rfl⟩) ao)))))) (aB (aM cH)) aU)
   (aB (aM (aW (lK K rfl) rfl T.yo Ae (aj (cP ["value", "columns"] (ak jn) ["row", "columns"] [none,some 1] ⟨rfl,by decide +kernel,by decide +kernel,by decide +kernel,by decide +kernel,by decide +kernel⟩ rfl (bI K (pv 0)) (fun _ _ _ _ _=>(aO (i:=0) (by show List.Nodup (["row", "columns"]:List Str);decide +kernel) rfl (Or.inl rfl) (Or.inr rfl))) (fun _ _ _ _ _=>cG) (fun _ _ _ _ _=>(aC aaA (hr.mono (by decide)) rfl T.ahN T.aaf.kp T.ahM .nil aH (aj (pv 0) (aj (pv 1) ao))))) ao))))),?_⟩
  have hln:(ts.map V.ref).length=rs.length:=by rw[List.length_map];exact htp.len
  refine⟨_,rfl,l,ts.map V.ref,0,64,rfl,hl,_,rfl,?_⟩
  by_cases hlen:rs.length≤64
  ·have e:(decide ((0:Int)≤((ts.map V.ref).length:Int)) && decide (((ts.map V.ref).length:Int)≤64))=true:=by
    rw[hln];simp;omega
   rw[e]
   refine iteF ?_
   refine⟨_,rfl,l,rfl,⟨_,SqL.of hl⟩,fun D hD=>cO (xs:=ts.map V.ref) (fun i ys H'=>Same H H'∧ys=bls ((rs.take i).map (rowB c))∧i≤rs.length) ⟨Same.new hD,rfl,Nat.zero_le _⟩ (fun i ys H' _ ⟨e,_⟩=>SqL.of (e _ _ hl)) ?_ ?_⟩
   ·rintro i x ys H' hx ⟨se,rfl,hi⟩ hDl
    obtain⟨t,r,rfl,hp,ht⟩:=(htp.same se).get hx
    have hi':i<rs.length:=(List.getElem?_eq_some_iff.mp hp).1
    refine dF ?_
    refine⟨_,rfl,_,rfl,t,c,r,rfl,hc,ht,fun H2 s2=>?_⟩
    refine CE1.mk (s2 _ _ hDl) (aP (by rw[tW,List.length_map,List.length_take];omega)) ⟨Same.up (se.trans s2) hD,?_,hi'⟩
    rw[map_take _ hp,nO]
   ·rintro ys H' ⟨se,rfl,_⟩ hDl
    rw[hln,List.take_length] at hDl
    refine⟨D,_,rfl,SqL.of hDl,?_⟩
    have z:=k H' se
    unfold tabB at z
    rw[decide_eq_true hlen,Bool.true_and] at z
    rw[all_map]
    exact z
  ·have e:(decide ((0:Int)≤((ts.map V.ref).length:Int)) && decide (((ts.map V.ref).length:Int)≤64))=false:=by
    rw[hln,Bool.and_eq_false_iff]
    exact .inr (decide_eq_false (by omega))
   rw[e]
   refine iteT ?_
   have z:=k H (Same.refl _)
   unfold tabB at z
   rw[decide_eq_false hlen,Bool.false_and] at z
   exact z
end
end K12
namespace K12
open PySem L2 TC
def afG:Sp:=fun vs H Q _=>∃ a b:Nat,vs = [.int (a:Nat),.int (b:Nat)]∧Q (.bl (decide (Sb a b))) H
def amc:Sp:=fun vs H Q _=>∃ (l:Addr) (s:Nat) (ps:List (Nat×Nat)),vs = [.ref l,.int (s:Nat)]∧dg H l ps∧s < 64∧(∀ p∈ps,p.2 < 64)∧Q (.int (cl ps s:Nat)) H
section
variable {P:Program} {w:World} {K:W.Frag} {mg:Str→Option Value} {base:Heap} {A:Adr}
theorem qY (T:Txt K mg A):FnOk P w K mg base CX0 1 A.kY A.Ht ["some", "whole"] afG:=by
 refine T.lC.ok afd (fun vs H Q E h=>?_) (fun cdv A' outer s H vs Q E hr h=>?_)
 ·obtain⟨a,b,rfl,_⟩:=h;rfl
 ·obtain⟨a,b,rfl,k⟩:=h
  refine⟨_,(aB (aM (mj mO (bw Rh (pv 0) (pv 1)) (pv 1) (bF _)))),?_⟩
  refine⟨_,rfl,_,rfl,(a:Int),(b:Int),rfl,rfl,_,rfl,rfl,?_⟩
  have e:decide (V.int (Builtin.bitOr (a:Int) (b:Int))=V.int (b:Int))=decide (Sb a b):=by
   rw[Ay]
   by_cases h:Sb a b
   ·have h':a ||| b=b:=h
    rw[decide_eq_true h,h'];simp
   ·rw[decide_eq_false h]
    refine decide_eq_false fun z=>h ?_
    injection z with z
    show a ||| b=b
    omega
  rw[e]
  exact k
def mu:St→Hp→Nat:=fun σ _=>match σ with
 | [_,_,some (.int kn),some bf,_]=>2 * (64 - kn.toNat)+(if bf = .int kn then 0 else 1)
 | _=>0
theorem aem {ps:List (Nat×Nat)} {i:Nat} {p:Nat×Nat} (h:ps[i]? = some p) (s:Nat):pass (ps.take (i+1)) s=stp (pass (ps.take i) s) p:=by
 rw[List.take_succ,h]
 unfold pass
 rw[List.foldl_append];rfl
theorem amd (T:Txt K mg A):FnOk P w K mg base CX0 3 A.uQ A.aac ["pairs", "some"] amc:=by
 have iy:=qY (P:=P) (w:=w) (base:=base) T
 refine T.ahS.ok wH (fun vs H Q E h=>?_) (fun cdv A' outer s H vs Q E hr h=>?_)
 ·obtain⟨l,s,ps,rfl,_⟩:=h;rfl
 ·obtain⟨l,s,ps,rfl,⟨ts,hl,htp⟩,hs,hps,k⟩:=h
  have hln:(ts.map V.ref).length=ps.length:=by rw[List.length_map];exact htp.len
  refine⟨_,(aq (aQ (i:=2) wH.nd rfl (Or.inl rfl) (pv 1))
   (aq (aQ (i:=3) wH.nd rfl (Or.inl rfl) amI)
   (aq (Zk PassesOwn.never (bA GP (pv 2) (pv 3) (bF _)) (aq (aQ (i:=3) wH.nd rfl (Or.inl rfl) (pv 2))
   (aB (dR PassesOwn.never rfl (bI K (pv 0)) (aO (i:=4) wH.nd rfl (Or.inl rfl))
   (aB (bN (bG (aC iy (hr.mono (by decide)) rfl T.nJ T.lC.kp T.nH .nil aH (aj (bh (bQ K) (pv 4) aA (fun _ _=>rfl)) (aj (pv 2) ao)))) (aB (aQ (i:=2) wH.nd rfl (Or.inl rfl) (bw Rh (pv 2) (bh (bQ K) (pv 4) aA (fun _ _=>rfl))))) aU))))))
   (aB (aM (pv 2)))))),?_⟩
  refine⟨_,rfl,?_⟩
  refine ahk (fun σ H'=>H' = H∧∃ (j:Nat) (bf:V) (rl:Option V),σ = [some (.ref l),some (.int (s:Nat)),some (.int (dj ps j s:Nat)),some bf,rl]∧(bf = .non ∨ ∃ i,j=i+1∧bf = .int (dj ps i s:Nat))) mu ⟨rfl,0,.non,none,rfl,.inl rfl⟩ ?_ (fun σ H Q Q' hq ⟨v,e,v',e',hs,k,ek,q⟩=>⟨v,e,v',e',hs,k,ek,hq _ _ q⟩)
  rintro σ H' ⟨rfl,j,bf,rl,rfl,hbf⟩
  refine⟨_,rfl,_,rfl,(by rcases hbf with rfl | ⟨i,_,rfl⟩ <;> rfl),_,rfl,?_⟩
  by_cases hb:V.int (dj ps j s:Nat)=bf
  ·refine ap4 hb ?_
   refine⟨_,rfl,?_⟩
   rcases hbf with rfl | ⟨i,rfl,rfl⟩
   ·cases hb
   ·have e1:dj ps (i+1) s=dj ps i s:=by injection hb with hb;omega
    have e2:pass ps (dj ps i s)=dj ps i s:=by rw[← wK];exact e1
    rw[e1,aqd e2]
    exact k
  ·have e1:(!decide (V.int (dj ps j s:Nat)=bf))=true:=by rw[decide_eq_false hb];rfl
   rw[e1]
   refine iteT ?_
   have hsub:∀ p∈ps,p.2 < 2 ^ 6:=fun p hp=>hps p hp
   have hkn:dj ps j s < 64:=ZL (k:=6) hsub j hs
   refine⟨_,rfl,_,rfl,l,rfl,⟨_,SqL.of hl⟩,f9 (K:=K) (a:=l) (xs:=ts.map V.ref) (fun i σ' H''=>H'' = H'∧∃ rl:Option V,σ' = [some (.ref l),some (.int (s:Nat)),some (.int (pass (ps.take i) (dj ps j s):Nat)),some (.int (dj ps j s:Nat)),rl])
    ⟨rfl,rl,rfl⟩ (fun i σ' H'' _ ⟨e,_⟩=>by subst e;exact SqL.of hl) ?_ ?_⟩
   ·rintro i x σ' H'' hx ⟨rfl,rl',rfl⟩
    obtain⟨t,p,rfl,hp,ht⟩:=htp.get hx
    refine⟨_,rfl,t,_,0,_,rfl,rfl,SqT.of ht,rfl,_,rfl,p.1,pass (ps.take i) (dj ps j s),rfl,_,rfl,?_⟩
    refine ite2 (fun e=>?_) (fun e=>?_)
    ·refine⟨_,rfl,_,rfl,t,_,1,_,rfl,rfl,SqT.of ht,rfl,_,_,rfl,rfl,?_⟩
     refine⟨rfl,some (.ref t),?_⟩
     rw[aem hp]
     unfold stp
     rw[if_pos (of_decide_eq_true e),← Ay]
     rfl
    ·refine⟨rfl,some (.ref t),?_⟩
     rw[aem hp]
     unfold stp
     rw[if_neg (fun z=>e (decide_eq_true z))]
     rfl
   ·rintro σ' H'' ⟨rfl,rl',rfl⟩
    rw[hln,List.take_length]
    refine⟨⟨rfl,j+1,.int (dj ps j s:Nat),rl',by rw[wK],.inr ⟨j,rfl,rfl⟩⟩,?_⟩
    have hsb:Sb (dj ps j s) (pass ps (dj ps j s)):=Rm ps _
    have hlt:pass ps (dj ps j s) < 64:=ae4 (k:=6) hkn hsub
    have hle:=hsb.le
    have hne:¬ bf=V.int (dj ps j s:Nat):=fun z=>hb z.symm
    show 2 * (64 - ((pass ps (dj ps j s):Nat):Int).toNat)+(if V.int (dj ps j s:Nat)=V.int (pass ps (dj ps j s):Nat) then 0 else 1) < 2 * (64 - ((dj ps j s:Nat):Int).toNat)+(if bf=V.int (dj ps j s:Nat) then 0 else 1)
    rw[if_neg hne,Int.toNat_natCast,Int.toNat_natCast]
    by_cases hq:pass ps (dj ps j s)=dj ps j s
    ·rw[hq,if_pos rfl];omega
    ·rw[if_neg (fun z=>hq (by injection z with z;omega))];omega
end
def anx:Sp:=fun vs H Q _=>∃ (l:Addr) (r:List Nat) (s:Nat),vs = [.ref l,.int (s:Nat)]∧H l=some (.lst (nums r))∧r.length≤6∧s < 64∧∀ (t:Addr) (H':Hp),H t=none→Same H H'→H' t=some (.tup (nums (aK r s)))→Q (.ref t) H'
section
variable {P:Program} {w:World} {K:W.Frag} {mg:Str→Option Value} {base:Heap} {A:Adr}
theorem RX (T:Txt K mg A):FnOk P w K mg base CX0 1 A.yc A.afj ["row", "some"] anx:=by
 refine T.tE.ok anm (fun vs H Q E h=>?_) (fun cdv A' outer s H vs Q E hr h=>?_)
 ·obtain⟨l,r,s,rfl,_⟩:=h;rfl
 ·obtain⟨l,r,s,rfl,hl,hr6,hs,k⟩:=h
  refine⟨_,(aB (aM (cC (aht K) rfl T.yp Rt (aj (cP ["row", "some"] (ak qI) ["column", "number", "some"] [none,none,some 1] ⟨rfl,by decide +kernel,by decide +kernel,by decide +kernel,by decide +kernel,by decide +kernel⟩ rfl (Zy K rfl T.lD vp (aj (pv 0) ao)) (fun _ _ _ _ _=>qH K (n:=2) rfl (cZ (aO (i:=0) (by show List.Nodup (["column", "number", "some"]:List Str);decide +kernel) rfl (Or.inl rfl) (Or.inr rfl)) (cZ (aO (i:=1) (by show List.Nodup (["column", "number", "some"]:List Str);decide +kernel) rfl (Or.inl rfl) (Or.inr rfl)) qG))) (fun _ _ _ _ _=>akO (Vw K (bw CZ (pv 2) (bw CV aA (pv 0))))) (fun _ _ _ _ _=>(pv 1))) ao)))),?_⟩
  refine⟨_,rfl,l,nums r,rfl,hl,fun D hD=>alM (xs:=nums r) (fun i ys H'=>Same H H'∧i≤r.length∧ys=nums (Az r s i)) ⟨Same.new hD,Nat.zero_le _,rfl⟩ (fun i ys H' _ ⟨e,_⟩=>e _ _ hl) ?_ ?_⟩
  ·rintro i x ys H' p hx ⟨se,hi,rfl⟩ hDl hp
   obtain⟨n,hn,rfl⟩:=tV hx
   have hi':i<r.length:=(List.getElem?_eq_some_iff.mp hn).1
   have hll:(nums (Az r s i)).length≤64:=by
    rw[aY]
    exact Nat.le_trans (ajW r s i) (by omega)
   have hDl2:(upd H' p (.tup [.int (i:Nat),.int (n:Nat)])) D=some (.lst (nums (Az r s i))):=by rw[aG (aL hDl hp)];exact hDl
   have hg:r.getD i 0=n:=by simp [List.getD,hn]
   refine⟨_,rfl,_,rfl,1,(i:Int),rfl,rfl,⟨Int.natCast_nonneg i,by omega,by decide⟩,_,_,rfl,rfl,_,rfl,?_⟩
   rw[afF hs (by omega)]
   refine ite2 (fun e=>?_) (fun e=>?_)
   ·refine⟨_,rfl,CE2.mk hDl2 (aP (by omega)) ⟨Same.up (Same.up se (se.free hp)) hD,hi',?_⟩⟩
    rw[Xc,if_pos e,gq,hg]
   ·refine CN2.mk hDl2 ⟨Same.up se (se.free hp),hi',?_⟩
    rw[Xc,if_neg e,List.append_nil]
  ·rintro ys H' ⟨se,_,rfl⟩ hDl
   rw[aY] at hDl
   refine⟨D,_,rfl,.inl ⟨SqL.of hDl,fun t ht=>?_⟩⟩
   exact k t _ (se.free ht) (Same.up se (se.free ht)) au
end
def keyN (ns:List Nat):List Key:=ns.map fun (n:Nat)=>(Sum.inl ((n:Nat):Int):Key)
theorem Io:∀ ns:List Nat,(keyN ns).map kV=nums ns
 | []=>rfl
 | n::ns=>by
  show kV (Sum.inl ((n:Nat):Int))::(keyN ns).map kV=V.int (n:Nat)::nums ns
  rw[Io ns];rfl
theorem ah2 {a b:List Nat} (h:keyN a=keyN b):a=b:=aaz (by rw[← Io,← Io,h])
def tupD (ns:List Nat):PyData:=.tuple (ns.map fun n=>PyData.int (n:Nat))
theorem tX {H:Hp} {t:Addr} {ns:List Nat} (h:H t=some (.tup (nums ns))):Dt H (.ref t) (tupD ns):=.tup h (RW ns)
theorem qZ (ns:List Nat):(tupD ns).canLay0=true:=Cq ns
theorem wV (ns:List Nat):(tupD ns).depth≤60:=by
 show PyData.depthAll _+1≤60
 have:=wU ns
 omega
theorem Ir (a b:List Nat):PyData.eqv (tupD a) (tupD b)=decide (a=b):=Lf a b
def anz:Sp:=fun vs H Q _=>∃ (l t:Addr) (rs:List (List Nat)) (p:Nat×Nat),vs = [.ref l,.ref t]∧iw H l rs∧rs.length≤64∧(∀ r∈rs,r.length≤6)∧H t=some (.tup [.int (p.1:Nat),.int (p.2:Nat)])∧p.1 < 64∧p.2 < 64∧∀ H',Same H H'→Q (.bl (decide (Keeps rs p))) H'
section
variable {P:Program} {w:World} {K:W.Frag} {mg:Str→Option Value} {base:Heap} {A:Adr}
theorem ah3 (T:Txt K mg A):FnOk P w K mg base CX0 3 A.yd A.afk ["table", "rule"] anz:=by
 have pO:=RX (P:=P) (w:=w) (base:=base) T
 refine T.afo.ok Rp (fun vs H Q E h=>?_) (fun cdv A' outer s H vs Q E hr h=>?_)
 ·obtain⟨l,t,rs,p,rfl,_⟩:=h;rfl
 ·obtain⟨l,t,rs,p,rfl,⟨ts,hl,htp⟩,hlen,hr6,ht,hp1,hp2,k⟩:=h
  refine⟨_,(aq (aQ (i:=2) Rp.nd rfl (Or.inl rfl) ahv)
   (aq (dR PassesOwn.never rfl (bI K (pv 0)) (aO (i:=3) Rp.nd rfl (Or.inl rfl))
   (aq (aQ (i:=4) Rp.nd rfl (Or.inl rfl) (aC pO (hr.mono (by decide)) rfl T.vy T.tE.kp T.vq .nil aH (aj (pv 3) (aj (bh (bQ K) (pv 1) aA (fun _ _=>rfl)) ao))))
   (aB (bN (bA (oR hr.units) (Zz (aoP hr) (pv 2) (aC pO (hr.mono (by decide)) rfl T.vy T.tE.kp T.vq .nil aH (aj (pv 3) (aj (bh (bQ K) (pv 1) aA (fun _ _=>rfl)) ao))) (pv 4) ⟨rfl,rfl,rfl,rfl⟩) (pv 4) (bF _)) (aB (aM cH)) aU))))
   (aB (aM cH)))),?_⟩
  refine fun D hD=>?_
  have hln:(ts.map V.ref).length=rs.length:=by rw[List.length_map];exact htp.len
  refine⟨_,rfl,l,rfl,⟨_,SqL.of (Same.new hD _ _ hl)⟩,f9 (K:=K) (a:=l) (xs:=ts.map V.ref) (fun i σ' H'=>Same H H'∧(∃ rv gv,σ' = [some (.ref l),some (.ref t),some (.ref D),rv,gv])∧∃ kvs,H' D=some (.dT kvs)∧kvs.length≤i ∧
    (∀ r∈rs.take i,∃ v,valV kvs (keyN (aK r p.1))=some (.ref v)∧H' v=some (.tup (nums (aK r p.2)))) ∧
    (∀ q v,valV kvs q=some v→∃ r∈rs.take i,q=keyN (aK r p.1)∧∃ tv,v = .ref tv∧H' tv=some (.tup (nums (aK r p.2)))))
   ⟨Same.new hD,⟨none,none,rfl⟩,[],au,Nat.le_refl _,fun r hr'=>by simp at hr',fun q v h=>by cases h⟩ (fun i σ' H' _ ⟨e,_⟩=>SqL.of (e _ _ hl)) ?_ ?_⟩
  ·rintro i x σ' H' hx ⟨se,⟨rv,gv,rfl⟩,kvs,hDd,hkl,i1,i2⟩
   obtain⟨tr,r,rfl,hri,hrow⟩:=(htp.same se).get hx
   have hrm:r∈rs:=List.mem_of_getElem? hri
   have hi':i<rs.length:=(List.getElem?_eq_some_iff.mp hri).1
   refine⟨_,rfl,_,rfl,t,_,1,_,rfl,rfl,SqT.of (se _ _ ht),rfl,tr,r,p.2,rfl,hrow,hr6 r hrm,hp2,fun t2 H2 f2 s2 c2=>?_⟩
   have hD2:=s2 _ _ hDd
   refine⟨_,rfl,D,rfl,.inr ⟨kvs,.inl hD2⟩,_,rfl,_,rfl,t,_,0,_,rfl,rfl,SqT.of (s2 _ _ (se _ _ ht)),rfl,tr,r,p.1,rfl,s2 _ _ hrow,hr6 r hrm,hp1,fun t1 H3 f3 s3 c3=>?_⟩
   have hD3:=s3 _ _ hD2
   have c2':=s3 _ _ c2
   have s13:Same H' H3:=s2.trans s3
   refine⟨_,rfl,kvs,keyN (aK r p.1),t1,hD3,rfl,by rw[Io];exact c3,aP (by omega),fun v hv=>?_,fun hv=>?_⟩
   ·obtain⟨r0,hr0,ek,tv,rfl,htv⟩:=i2 _ _ hv
    have htv3:=s13 _ _ htv
    refine⟨_,rfl,tupD (aK r0 p.2),tupD (aK r p.2),tX htv3,tX c2',qZ _,qZ _,wV _,_,rfl,?_⟩
    rw[if_pos rfl,Ir]
    refine ite2 (fun e=>?_) (fun e=>?_)
    ·have hne:¬ aK r0 p.2=aK r p.2:=by simpa using e
     have hk:decide (Keeps rs p)=false:=decide_eq_false fun z=>hne (z r0 (List.mem_of_mem_take hr0) r hrm (ah2 ek).symm)
     have z:=k H3 (se.trans s13)
     rw[hk] at z
     exact z
    ·have he:aK r0 p.2=aK r p.2:=by simpa using e
     refine⟨se.trans s13,⟨_,_,rfl⟩,kvs,hD3,by omega,fun a ha=>?_,fun q v hq=>?_⟩
     ·rcases (lJ hri).mp ha with ha | rfl
      ·obtain⟨v,h1,h2⟩:=i1 a ha
       exact⟨v,h1,s13 _ _ h2⟩
      ·exact⟨tv,hv,by rw[← he];exact htv3⟩
     ·obtain⟨a,ha,h1,tv',h2,h3⟩:=i2 q v hq
      exact⟨a,(lJ hri).mpr (.inl ha),h1,tv',h2,s13 _ _ h3⟩
   ·have nD:∀ v xs,H3 v=some (.tup xs)→v≠D:=fun v xs h=>iG h hD3 (by intro z;cases z)
    have c2u:(upd H3 D (.dT (putK kvs (keyN (aK r p.1)) (.ref t2)))) t2=some (.tup (nums (aK r p.2))):=by rw[aG (nD _ _ c2')];exact c2'
    refine⟨_,rfl,tupD (aK r p.2),tupD (aK r p.2),tX c2u,tX c2u,qZ _,qZ _,wV _,_,rfl,?_⟩
    rw[if_pos rfl,Ir,decide_eq_true rfl]
    refine iteF ?_
    refine⟨Same.up (se.trans s13) hD,⟨_,_,rfl⟩,_,au,by have:=Hj kvs (keyN (aK r p.1)) (.ref t2);omega,fun a ha=>?_,fun q v hq=>?_⟩
    ·rw[Hi]
     rcases (lJ hri).mp ha with ha | rfl
     ·obtain⟨v,h1,h2⟩:=i1 a ha
      have h2':=s13 _ _ h2
      refine⟨v,?_,by rw[aG (nD _ _ h2')];exact h2'⟩
      rw[if_neg fun z=>by rw[z,hv] at h1;cases h1]
      exact h1
     ·exact⟨t2,if_pos rfl,c2u⟩
    ·rw[Hi] at hq
     by_cases hqe:q=keyN (aK r p.1)
     ·rw[if_pos hqe] at hq
      exact⟨r,(lJ hri).mpr (.inr rfl),hqe,t2,(Option.some.inj hq).symm,c2u⟩
     ·rw[if_neg hqe] at hq
      obtain⟨a,ha,h1,tv',h2,h3⟩:=i2 q v hq
      have h3':=s13 _ _ h3
      exact⟨a,(lJ hri).mpr (.inl ha),h1,tv',h2,by rw[aG (nD _ _ h3')];exact h3'⟩
  ·rintro σ' H' ⟨se,⟨rv,gv,rfl⟩,kvs,hDd,hkl,i1,i2⟩
   rw[hln,List.take_length] at i1
   have hk:decide (Keeps rs p)=true:=decide_eq_true fun a ha b hb e=>by
    obtain⟨v,h1,h2⟩:=i1 a ha
    obtain⟨u,h3,h4⟩:=i1 b hb
    rw[e,h3] at h1
    cases h1
    rw[h2] at h4
    injection h4 with h4
    injection h4 with h4
    exact aaz h4
   have z:=k H' se
   rw[hk] at z
   exact z
end
def afH:Sp:=fun vs H Q _=>∃ (l m:Addr) (rs:List (List Nat)) (ps:List (Nat×Nat)),vs = [.ref l,.ref m]∧iw H l rs∧rs.length≤64∧(∀ r∈rs,r.length≤6)∧dg H m ps∧ps.length≤64∧(∀ p∈ps,p.1 < 64∧p.2 < 64)∧∀ H',Same H H'→Q (.bl (ps.all fun p=>decide (Keeps rs p))) H'
section
variable {P:Program} {w:World} {K:W.Frag} {mg:Str→Option Value} {base:Heap} {A:Adr}
theorem RZ (T:Txt K mg A):FnOk P w K mg base CX0 5 A.kZ A.Hu ["table", "pairs"] afH:=by
 have afI:=ah3 (P:=P) (w:=w) (base:=base) T
 refine T.HN.ok afe (fun vs H Q E h=>?_) (fun cdv A' outer s H vs Q E hr h=>?_)
 ·obtain⟨l,m,rs,ps,rfl,_⟩:=h;rfl
 ·obtain⟨l,m,rs,ps,rfl,hT,hlen,hr6,⟨ts,hm,htp⟩,hpl,hps,k⟩:=h
  refine⟨_,(aB (aM (aW (lK K rfl) rfl T.yo Ae (aj (cP ["table", "pairs"] (ak gY) ["rule", "table"] [none,some 0] ⟨rfl,by decide +kernel,by decide +kernel,by decide +kernel,by decide +kernel,by decide +kernel⟩ rfl (bI K (pv 1)) (fun _ _ _ _ _=>(aO (i:=0) (by show List.Nodup (["rule", "table"]:List Str);decide +kernel) rfl (Or.inl rfl) (Or.inr rfl))) (fun _ _ _ _ _=>cG) (fun _ _ _ _ _=>(aC afI (hr.mono (by decide)) rfl T.akX T.afo.kp T.akW .nil aH (aj (pv 1) (aj (pv 0) ao))))) ao)))),?_⟩
  have hln:(ts.map V.ref).length=ps.length:=by rw[List.length_map];exact htp.len
  refine⟨_,rfl,m,rfl,⟨_,SqL.of hm⟩,fun D hD=>cO (xs:=ts.map V.ref) (fun i ys H'=>Same H H'∧ys=bls ((ps.take i).map fun p=>decide (Keeps rs p))∧i≤ps.length) ⟨Same.new hD,rfl,Nat.zero_le _⟩ (fun i ys H' _ ⟨e,_⟩=>SqL.of (e _ _ hm)) ?_ ?_⟩
  ·rintro i x ys H' hx ⟨se,rfl,hi⟩ hDl
   obtain⟨t,p,rfl,hp,ht⟩:=(htp.same se).get hx
   have hi':i<ps.length:=(List.getElem?_eq_some_iff.mp hp).1
   have hb:=hps p (List.mem_of_getElem? hp)
   refine dF ?_
   refine⟨_,rfl,_,rfl,l,t,rs,p,rfl,hT.same se,hlen,hr6,ht,hb.1,hb.2,fun H2 s2=>?_⟩
   refine CE1.mk (s2 _ _ hDl) (aP (by rw[tW,List.length_map,List.length_take];omega)) ⟨Same.up (se.trans s2) hD,?_,hi'⟩
   rw[map_take _ hp,nO]
  ·rintro ys H' ⟨se,rfl,_⟩ hDl
   rw[hln,List.take_length] at hDl
   refine⟨D,_,rfl,SqL.of hDl,?_⟩
   rw[all_map]
   exact k H' se
end
def ame:Sp:=fun vs H Q _=>∃ (c s n:Nat),vs = [.int (c:Nat),.int (s:Nat),.int (n:Nat)]∧c≤6∧s < 64∧∀ (d:Addr) (H':Hp),H d=none→Same H H'→H' d=some (.lst (nums (rowOf c s n)))→Q (.ref d) H'
section
variable {P:Program} {w:World} {K:W.Frag} {mg:Str→Option Value} {base:Heap} {A:Adr}
theorem aen (T:Txt K mg A):FnOk P w K mg base CX0 1 A.uP A.Z9 ["columns", "some", "number"] ame:=by
 refine T.Rx.ok al0 (fun vs H Q E h=>?_) (fun cdv A' outer s H vs Q E hr h=>?_)
 ·obtain⟨c,s,n,rfl,_⟩:=h;rfl
 ·obtain⟨c,s,n,rfl,hc,hs,k⟩:=h
  refine⟨_,(aB (aM (cP ["columns", "some", "number"] (ak mV) ["column", "some", "number"] [none,some 1,some 2] ⟨rfl,by decide +kernel,by decide +kernel,by decide +kernel,by decide +kernel,by decide +kernel⟩ rfl (cN rfl T.dO (aj (pv 0) ao)) (fun _ _ _ _ _=>(aO (i:=0) (by show List.Nodup (["column", "some", "number"]:List Str);decide +kernel) rfl (Or.inl rfl) (Or.inr rfl))) (fun _ _ _ _ _=>cG) (fun _ _ _ _ _=>(G8 (Vw K (bw CZ (pv 1) (bw CV aA (pv 0)))) aA (pv 2)))))),?_⟩
  refine⟨_,rfl,(c:Int),rfl,by omega,by omega,fun D hD=>?_⟩
  rw[Int.toNat_natCast]
  refine jm (lo:=0) (n:=c) (fun i ys H'=>Same H H'∧ys=nums ((List.range i).map fun j=>if s.testBit j=true then 0 else n)) ⟨Same.new hD,rfl⟩ ?_ ?_
  ·rintro i ys H' hi ⟨se,rfl⟩ hDl
   rw[Int.zero_add]
   have hll:(nums ((List.range i).map fun j=>if s.testBit j=true then 0 else n)).length≤64:=by
    rw[aY,List.length_map,List.length_range];omega
   have es:(List.range (i+1)).map (fun j=>if s.testBit j=true then 0 else n)=(List.range i).map (fun j=>if s.testBit j=true then 0 else n)++[if s.testBit i=true then 0 else n]:=by
    rw[List.range_succ,List.map_append];rfl
   refine dF ?_
   refine⟨_,rfl,_,rfl,1,(i:Int),rfl,rfl,⟨Int.natCast_nonneg i,by omega,by decide⟩,_,_,rfl,rfl,_,rfl,?_⟩
   rw[afF hs (by omega)]
   refine ite2 (fun e=>?_) (fun e=>?_)
   ·refine CE1.mk hDl (aP (by omega)) ⟨Same.up se hD,?_⟩
    rw[es,if_pos e,gq];rfl
   ·refine⟨_,rfl,CE1.mk hDl (aP (by omega)) ⟨Same.up se hD,?_⟩⟩
    rw[es,if_neg e,gq]
  ·rintro ys H' ⟨se,rfl⟩ hDl
   exact k D H' hD se hDl
end
theorem Rws.upd {H:Hp} {a:Addr} {o:HO}:∀ {ts:List Addr} {rs:List (List Nat)},Rws H ts rs→a∉ts→Rws (upd H a o) ts rs
 | [],[],_,_=>trivial
 | _::_,_::_,⟨h,t⟩,n=>⟨by rw[aG (fun z=>n (by rw[z];exact List.mem_cons_self))];exact h,Rws.upd t fun z=>n (List.mem_cons_of_mem _ z)⟩
 | [],_::_,h,_=>h.elim
 | _::_,[],h,_=>h.elim
def afJ (H0 H:Hp) (l:Addr) (rs:List (List Nat)):Prop:=∃ ts:List Addr,H l=some (.lst (ts.map V.ref))∧Rws H ts rs∧(∀ t∈ts,H0 t=none∧t≠l)∧ts.Nodup
def afK:Sp:=fun vs H Q _=>∃ (l:Addr) (c:Nat) (ps:List Nat),vs = [.ref l,.int (c:Nat)]∧c≤6∧H l=some (.lst (nums ps))∧1≤ps.length∧ps.length≤64∧(∀ p∈ps,1≤p∧p < 2 ^ c)∧ps.foldl (· ||| ·) 0=2 ^ c - 1∧Q (.bl true) H
section
variable {P:Program} {w:World} {K:W.Frag} {mg:Str→Option Value} {base:Heap} {A:Adr}
theorem afL (T:Txt K mg A):FnOk P w K mg base CX0 3 A.kW A.Hs ["value", "columns"] afK:=by
 have rZ:=DQ (P:=P) (w:=w) (base:=base) T
 have iu:=nZ (P:=P) (w:=w) (base:=base) T
 have tU:=Il (P:=P) (w:=w) (base:=base) T
 refine T.WR.ok vm (fun vs H Q E h=>?_) (fun cdv A' outer s H vs Q E hr h=>?_)
 ·obtain⟨l,c,ps,rfl,_⟩:=h;rfl
 ·obtain⟨l,c,ps,rfl,hc,hl,hl1,hl64,hps,hall,k⟩:=h
  refine⟨_,(aq (bN (bY (bG (aC rZ (hr.mono (by decide)) rfl T.La T.BX.kp T.K9 .nil aH (aj (pv 0) (aj aA (aj (sW (v:=.int 64) rfl T.qW.choose_spec ⟨_,rfl⟩) ao)))))) (aB (aM cH)) aU)
   (aq (aQ (i:=2) vm.nd rfl (Or.inl rfl) aA)
   (aq (dR PassesOwn.never rfl (bI K (pv 0)) (aO (i:=3) vm.nd rfl (Or.inl rfl))
   (aq (bN (bY (bG (aC iu (hr.mono (by decide)) rfl T.qz T.nG.kp T.qy .nil aH (aj (pv 3) (aj aA (aj (aC tU (hr.mono (by decide)) rfl T.Av T.tD.kp T.Aq .nil aH (aj (pv 1) ao)) ao)))))) (aB (aM cH)) aU)
   (aB (aQ (i:=2) vm.nd rfl (Or.inl rfl) (bw Rh (pv 2) (pv 3))))))
   (aB (aM (mj mO (pv 2) (aC tU (hr.mono (by decide)) rfl T.Av T.tD.kp T.Aq .nil aH (aj (pv 1) ao)) (bF _))))))),?_⟩
  refine⟨_,rfl,l,nums ps,1,64,rfl,hl,_,rfl,?_⟩
  have e:(decide ((1:Int)≤((nums ps).length:Int)) && decide (((nums ps).length:Int)≤64))=true:=by
   rw[aY];simp;omega
  rw[e]
  refine iteF ?_
  refine⟨_,rfl,l,rfl,⟨_,SqL.of hl⟩,f9 (K:=K) (a:=l) (xs:=nums ps) (fun i σ' H'=>H' = H∧∃ pv,σ' = [some (.ref l),some (.int (c:Nat)),some (.int ((ps.take i).foldl (· ||| ·) 0:Nat)),pv])
   ⟨rfl,none,rfl⟩ (fun i σ' H' _ ⟨e,_⟩=>by subst e;exact SqL.of hl) ?_ ?_⟩
  ·rintro i x σ' H' hx ⟨rfl,pv,rfl⟩
   obtain⟨n,hn,rfl⟩:=tV hx
   obtain⟨b1,b2⟩:=hps n (List.mem_of_getElem? hn)
   refine⟨_,rfl,_,rfl,c,rfl,hc,(n:Int),1,_,rfl,_,rfl,?_⟩
   have e2:(decide ((1:Int)≤(n:Int)) && decide ((n:Int)≤((2 ^ c:Nat):Int) - 1))=true:=by
    generalize 2 ^ c=N at b2 ⊢
    simp;omega
   rw[e2]
   refine iteF ⟨_,rfl,_,rfl,_,_,rfl,rfl,rfl,some (.int (n:Nat)),?_⟩
   have et:(ps.take (i+1)).foldl (· ||| ·) 0=(ps.take i).foldl (· ||| ·) 0 ||| n:=by rw[List.take_succ,hn,List.foldl_append];rfl
   rw[et,← Ay];rfl
  ·rintro σ' H' ⟨rfl,pv,rfl⟩
   rw[aY,List.take_length,hall]
   refine⟨_,rfl,_,rfl,c,rfl,hc,rfl,?_⟩
   have e3:((2 ^ c - 1:Nat):Int)=((2 ^ c:Nat):Int) - 1:=by
    have:0 < 2 ^ c:=Nat.two_pow_pos c
    generalize 2 ^ c=N at this ⊢
    omega
   rw[e3,decide_eq_true rfl]
   exact k
end
def ac0:Sp:=fun vs H Q _=>∃ (l:Addr) (c:Nat) (ps:List Nat),vs = [.int (c:Nat),.ref l]∧c≤6∧H l=some (.lst (nums ps))∧1≤ps.length∧ps.length≤64∧(∀ p∈ps,1≤p∧p < 2 ^ c)∧ps.foldl (· ||| ·) 0=2 ^ c - 1∧Q .non H
section
variable {P:Program} {w:World} {K:W.Frag} {mg:Str→Option Value} {base:Heap} {A:Adr}
theorem ac1 (T:Txt K mg A):FnOk P w K mg base CX0 5 A.jF A.Dj ["columns", "parts"] ac0:=by
 have ah4:=afL (P:=P) (w:=w) (base:=base) T
 refine T.Rw.ok acL (fun vs H Q E h=>?_) (fun cdv A' outer s H vs Q E hr h=>?_)
 ·obtain⟨l,c,ps,rfl,_⟩:=h;rfl
 ·obtain⟨l,c,ps,rfl,hc,hl,h1,h64,hps,hall,k⟩:=h
  refine⟨_,(aB (bN (bY (bG (aC ah4 (hr.mono (by decide)) rfl T.ahP T.WR.kp T.ahO .nil aH (aj (pv 1) (aj (pv 0) ao))))) (aB Rg) aU)),?_⟩
  exact⟨_,rfl,_,rfl,l,c,ps,rfl,hc,hl,h1,h64,hps,hall,_,rfl,iteF k⟩
end
def ah5:Sp:=fun vs H Q _=>∃ (l:Addr) (c:Nat) (pts:List Nat),vs = [.int (c:Nat),.ref l]∧H l=some (.lst (nums pts))∧c≤6∧pts.length≤64∧(∀ p∈pts,p < 64)∧∀ (d:Addr) (H':Hp),H d=none→Same H H'→afJ H H' d (fO c pts)→Q (.ref d) H'
theorem Rws.there {H:Hp} {t:Addr}:∀ {ts:List Addr} {rs:List (List Nat)},Rws H ts rs→t∈ts→∃ xs,H t=some (.lst xs)
 | [],[],_,h=>nomatch h
 | u::ts,r::rs,⟨h,q⟩,m=>by
  rcases List.mem_cons.mp m with rfl | m
  ·exact⟨_,h⟩
  ·exact Rws.there q m
 | [],_::_,h,_=>h.elim
 | _::_,[],h,_=>h.elim
section
variable {P:Program} {w:World} {K:W.Frag} {mg:Str→Option Value} {base:Heap} {A:Adr}
theorem Xe (T:Txt K mg A):FnOk P w K mg base CX0 3 A.mZ A.PK ["columns", "parts"] ah5:=by
 have R0:=aen (P:=P) (w:=w) (base:=base) T
 refine T.Qi.ok ahF (fun vs H Q E h=>?_) (fun cdv A' outer s H vs Q E hr h=>?_)
 ·obtain⟨l,c,pts,rfl,_⟩:=h;rfl
 ·obtain⟨l,c,pts,rfl,hl,hc6,hlen,hps,k⟩:=h
  refine⟨_,(aB (aM (cP ["columns", "parts"] (ak jo) ["place", "part", "columns"] [none,none,some 0] ⟨rfl,by decide +kernel,by decide +kernel,by decide +kernel,by decide +kernel,by decide +kernel⟩ rfl (alS K rfl T.lD vp (aj (pv 1) ao) aA) (fun _ _ _ _ _=>qH K (n:=2) rfl (cZ (aO (i:=0) (by show List.Nodup (["place", "part", "columns"]:List Str);decide +kernel) rfl (Or.inl rfl) (Or.inr rfl)) (cZ (aO (i:=1) (by show List.Nodup (["place", "part", "columns"]:List Str);decide +kernel) rfl (Or.inl rfl) (Or.inr rfl)) qG))) (fun _ _ _ _ _=>cG) (fun _ _ _ _ _=>(aC R0 (hr.mono (by decide)) rfl T.aaj T.Rx.kp T.aai .nil aH (aj (pv 2) (aj (pv 1) (aj (pv 0) ao)))))))),?_⟩
  refine⟨_,rfl,l,nums pts,rfl,hl,fun D hD=>ajt (xs:=nums pts) (fun i ys H'=>Same H H'∧i≤pts.length∧∃ ts:List Addr,ys=ts.map V.ref∧Rws H' ts ((List.range i).map fun j=>rowOf c (pts.getD j 0) (j+1))∧(∀ t∈ts,H t=none∧t≠D)∧ts.Nodup) ⟨Same.new hD,Nat.zero_le _,[],rfl,trivial,(fun _ h=>nomatch h),List.nodup_nil⟩ (fun i ys H' _ ⟨e,_⟩=>e _ _ hl) ?_ ?_⟩
  ·rintro i x ys H' q hx ⟨se,hi,ts,rfl,hR,hn,hnd⟩ hDl hq
   obtain⟨n,hn',rfl⟩:=tV hx
   have hi':i<pts.length:=(List.getElem?_eq_some_iff.mp hn').1
   have hg:pts.getD i 0=n:=by simp [List.getD,hn']
   have sq:Same H' (upd H' q (.tup [.int ((i+1:Nat):Int),.int (n:Nat)])):=Same.new hq
   have hD3:=sq _ _ hDl
   generalize upd H' q (.tup [.int ((i+1:Nat):Int),.int (n:Nat)])=H3 at sq hD3 ⊢
   have hln:ts.length=i:=by rw[hR.len,List.length_map,List.length_range]
   refine dF ?_
   refine⟨_,rfl,_,rfl,_,rfl,c,n,i+1,rfl,hc6,hps n (List.mem_of_getElem? hn'),fun d H4 hd s4 hrow=>?_⟩
   have hD4:=s4 _ _ hD3
   have ndD:d≠D:=fun z=>by rw[z,hD3] at hd;cases hd
   have hR4:=(hR.same sq).same s4
   have nDts:D∉ts:=fun z=>(hn D z).2 rfl
   have ndts:d∉ts:=fun z=>by
    obtain⟨xs,hxs⟩:=(hR.same sq).there z
    rw[hxs] at hd
    cases hd
   refine CE2.mk hD4 (aP (by rw[List.length_map];omega)) ⟨Same.up (se.trans (sq.trans s4)) hD,hi',ts++[d],by rw[List.map_append];rfl,?_,fun t ht=>?_,?_⟩
   ·rw[List.range_succ,List.map_append,List.map_singleton,hg]
    exact Rws.snoc (by rw[L2.aG ndD];exact hrow) (hR4.upd nDts)
   ·rcases List.mem_append.mp ht with ht | ht
    ·exact hn t ht
    ·have e:t=d:=by simpa using ht
     subst e
     exact⟨(se.trans sq).free hd,ndD⟩
   ·exact List.nodup_append.mpr ⟨hnd,by simp,fun a ha b hb z=>by
     have e:b=d:=by simpa using hb
     exact ndts (by rw[← e,← z];exact ha)⟩
  ·rintro ys H' ⟨se,_,ts,rfl,hR,hn,hnd⟩ hDl
   rw[aY] at hR
   exact k D H' hD se ⟨ts,hDl,hR,hn,hnd⟩
end
def ah6:Sp:=fun vs H Q _=>∃ (v:Nat) (l:Addr) (xs:List V),vs = [.int (v:Nat),.ref l]∧H l=some (.lst xs)∧Q (.bl (decide (v<xs.length))) H
def aot (C:Addr):Sp:=fun vs H Q _=>∃ (l p m:Addr) (c a b:Nat) (ps:List (Nat×Nat)) (pl:List Nat),vs = [.ref l,.ref p,.int (a:Nat),.int (b:Nat)]∧H l=some (.lst (nums pl))∧bV C H p m c ps∧∀ H',Same H H'→Q (.bl (rK ps pl a b)) H'
section
variable {P:Program} {w:World} {K:W.Frag} {mg:Str→Option Value} {base:Heap} {A:Adr}
theorem Iu (T:Txt K mg A):FnOk P w K mg base CX0 3 A.m5 A.PL ["value", "things"] ah6:=by
 have iu:=nZ (P:=P) (w:=w) (base:=base) T
 refine T.rT.ok ahG (fun vs H Q E h=>?_) (fun cdv A' outer s H vs Q E hr h=>?_)
 ·obtain⟨v,l,xs,rfl,_⟩:=h;rfl
 ·obtain⟨v,l,xs,rfl,hl,k⟩:=h
  refine⟨_,(aB (aM (aC iu (hr.mono (by decide)) rfl T.qz T.nG.kp T.qy .nil aH (aj (pv 0) (aj aA (aj (bw aeT (aW (bM K) rfl T.gh dH (aj (pv 1) ao)) aA) ao)))))),?_⟩
  refine⟨_,rfl,_,rfl,l,xs,rfl,.inl (SqL.of hl),(xs.length:Int),1,rfl,rfl,(v:Int),0,_,rfl,?_⟩
  have e:(decide ((0:Int)≤(v:Int)) && decide ((v:Int)≤(xs.length:Int) - 1))=decide (v<xs.length):=by
   rw[decide_eq_true (Int.natCast_nonneg v),Bool.true_and]
   exact decide_eq_decide.mpr (by omega)
  rw[e]
  exact k
theorem ak2 (T:Txt K mg A):FnOk P w K mg base CX0 5 A.Hx A.ajE ["places", "rules", "left", "right"] (aot A.bB):=by
 have pZ:=Iu (P:=P) (w:=w) (base:=base) T
 have iy:=qY (P:=P) (w:=w) (base:=base) T
 have aV:=cB (P:=P) (w:=w) (base:=base) T
 refine T.ajH.ok Rr (fun vs H Q E h=>?_) (fun cdv A' outer s H vs Q E hr h=>?_)
 ·obtain⟨l,p,m,c,a,b,ps,pl,rfl,_⟩:=h;rfl
 ·obtain⟨l,p,m,c,a,b,ps,pl,rfl,hl,hR,k⟩:=h
  obtain⟨⟨dx,hp⟩,_⟩:=id hR
  refine⟨_,(aq (aQ (i:=4) Rr.nd rfl (Or.inl rfl) (eG (pv 1) T.bL T.bH aV (hr.mono (by decide)) T.bO .nil aH))
   (aq (aQ (i:=5) Rr.nd rfl (Or.inl rfl) (pv 2))
   (aq (dR PassesOwn.never rfl (bI K (pv 0)) (aO (i:=6) Rr.nd rfl (Or.inl rfl))
   (aq (bN (PW.pt (kI (bY (bG (aC pZ (hr.mono (by decide)) rfl T.wQ T.rT.kp T.wO .nil aH (aj (pv 6) (aj (pv 4) ao))))) (lF (bY (bG (aC iy (hr.mono (by decide)) rfl T.nJ T.lC.kp T.nH .nil aH (aj (bh (bQ K) (bh (aN K) (pv 4) (pv 6) (fun _ _=>rfl)) aA (fun _ _=>rfl)) (aj (pv 5) ao)))))))) (aB (aM cH)) aU)
   (aB (aQ (i:=5) Rr.nd rfl (Or.inl rfl) (bw Rh (pv 5) (bh (bQ K) (bh (aN K) (pv 4) (pv 6) (fun _ _=>rfl)) aA (fun _ _=>rfl)))))))
   (aB (aM (aC iy (hr.mono (by decide)) rfl T.nJ T.lC.kp T.nH .nil aH (aj (pv 3) (aj (pv 5) ao)))))))),?_⟩
  refine⟨_,rfl,p,dx,_,rfl,hp,iB _ _ (by decide +kernel) (by decide +kernel),p,m,c,ps,rfl,hR,fun d ts hd htp=>?_⟩
  have s1:Same H (upd H d (.lst (ts.map V.ref))):=Same.new hd
  have hd1:(upd H d (.lst (ts.map V.ref))) d=some (.lst (ts.map V.ref)):=au
  have htp1:=htp.same s1
  have hln:(ts.map V.ref).length=ps.length:=by rw[List.length_map];exact htp.len
  generalize upd H d (.lst (ts.map V.ref))=H1 at s1 hd1 htp1 ⊢
  have hl1:=s1 _ _ hl
  refine⟨_,rfl,_,rfl,l,rfl,⟨_,SqL.of hl1⟩,f9 (K:=K) (a:=l) (xs:=nums pl) (fun i σ' H'=>H' = H1∧i≤pl.length∧∃ (kn:Nat) (pv:Option V),j8 ps (pl.take i) a=some kn ∧ σ' = [some (.ref l),some (.ref p),some (.int (a:Nat)),some (.int (b:Nat)),some (.ref d),some (.int (kn:Nat)),pv])
   ⟨rfl,Nat.zero_le _,a,none,rfl,rfl⟩ (fun i σ' H' _ ⟨e,_⟩=>by subst e;exact SqL.of hl1) ?_ ?_⟩
  ·rintro i x σ' H' hx ⟨rfl,hi,kn,pv,hk,rfl⟩
   obtain⟨n,hn,rfl⟩:=tV hx
   have hi':i<pl.length:=(List.getElem?_eq_some_iff.mp hn).1
   have hT:=ZQ (ps:=ps) (k:=a) hn
   rw[hk] at hT
   refine⟨_,rfl,_,rfl,n,d,_,rfl,hd1,_,rfl,?_⟩
   by_cases hlt:n<ps.length
   ·rw[decide_eq_true (show n<(ts.map V.ref).length by rw[hln];exact hlt)]
    refine iteF ?_
    have hgt:(ts.map V.ref)[n]? = some (.ref (ts[n]'(by rw[← hln,List.length_map] at hlt;exact hlt))):=by rw[List.getElem?_map,List.getElem?_eq_getElem (by rw[← hln,List.length_map] at hlt;exact hlt)];rfl
    obtain⟨t,q,et,hq,ht⟩:=htp1.get hgt
    rw[et] at hgt
    refine⟨_,rfl,_,rfl,d,_,(n:Int),_,rfl,rfl,SqL.of hd1,bJ hgt,t,_,0,_,rfl,rfl,SqT.of ht,rfl,_,rfl,q.1,kn,rfl,_,rfl,?_⟩
    by_cases hs:Sb q.1 kn
    ·rw[decide_eq_true hs]
     refine iteF ?_
     refine⟨_,rfl,_,rfl,_,rfl,d,_,(n:Int),_,rfl,rfl,SqL.of hd1,bJ hgt,t,_,1,_,rfl,rfl,SqT.of ht,rfl,_,_,rfl,rfl,?_⟩
     refine⟨rfl,hi',kn ||| q.2,some (.int (n:Nat)),?_,?_⟩
     ·rw[hT];exact Vy hq hs
     ·rw[← Ay];rfl
    ·rw[decide_eq_false hs]
     refine iteT ?_
     have e:rK ps pl a b=false:=Dc (Pn (i:=i+1) (by rw[hT];exact Rn hq hs))
     have z:=k _ s1
     rw[e] at z
     exact z
   ·rw[decide_eq_false (show ¬ n<(ts.map V.ref).length by rw[hln];exact hlt)]
    refine iteT ?_
    have e:rK ps pl a b=false:=Dc (Pn (i:=i+1) (by rw[hT];exact ZR (List.getElem?_eq_none (by omega))))
    have z:=k _ s1
    rw[e] at z
    exact z
  ·rintro σ' H' ⟨rfl,_,kn,pv,hk,rfl⟩
   rw[aY,List.take_length] at hk
   refine⟨_,rfl,_,rfl,b,kn,rfl,?_⟩
   have z:=k _ s1
   rw[Pq hk] at z
   exact z
end
def brkB (c:Nat) (rs:List (List Nat)) (ps:List (Nat×Nat)) (p:Nat×Nat):Bool:=tabB c rs && ((ps.all fun p=>decide (Keeps rs p)) && !decide (Keeps rs p))
def aaB (C:Addr):Sp:=fun vs H Q _=>∃ (l x m t:Addr) (c:Nat) (rs:List (List Nat)) (ps:List (Nat×Nat)) (p:Nat×Nat),vs = [.ref l,.ref x,.ref t]∧iw H l rs∧bV C H x m c ps∧Good c ps∧H t=some (.tup [.int (p.1:Nat),.int (p.2:Nat)])∧p.1 < 64∧p.2 < 64 ∧
 ∀ H',Same H H'→Q (.bl (brkB c rs ps p)) H'
section
variable {P:Program} {w:World} {K:W.Frag} {mg:Str→Option Value} {base:Heap} {A:Adr}
theorem Iv (T:Txt K mg A):FnOk P w K mg base CX0 7 A.jf A.Aj ["rows", "rules", "rule"] (aaB A.bB):=by
 have Qn:=Xd (P:=P) (w:=w) (base:=base) T
 have afI:=ah3 (P:=P) (w:=w) (base:=base) T
 have Iw:=RZ (P:=P) (w:=w) (base:=base) T
 have aV:=cB (P:=P) (w:=w) (base:=base) T
 refine T.Ax.ok Z1 (fun vs H Q E h=>?_) (fun cdv A' outer s H vs Q E hr h=>?_)
 ·obtain⟨l,x,m,t,c,rs,ps,p,rfl,_⟩:=h;rfl
 ·obtain⟨l,x,m,t,c,rs,ps,p,rfl,hT,hR,⟨hc1,hc6,hlen,hps⟩,ht,hp1,hp2,k⟩:=h
  obtain⟨⟨dx,hx⟩,_⟩:=id hR
  have h64:2 ^ c≤64:=Nat.pow_le_pow_right (by decide) hc6
  refine⟨_,(aq (bN (bY (bG (aC Qn (hr.mono (by decide)) rfl T.aah T.Qh.kp T.aag .nil aH (aj (pv 0) (aj (aR K (pv 1)) ao))))) (aB (aM cH)) aU)
   (aB (aM (pX (aC Iw (hr.mono (by decide)) rfl T.WW T.HN.kp T.WT .nil aH (aj (pv 0) (aj (eG (pv 1) T.bL T.bH aV (hr.mono (by decide)) T.bO .nil aH) ao))) (qF (aeR (aC afI (hr.mono (by decide)) rfl T.akX T.afo.kp T.akW .nil aH (aj (pv 0) (aj (pv 2) ao))))))))),?_⟩
  refine⟨_,rfl,_,rfl,x,A.bB,dx,_,_,rfl,hx,T.bL,T.bx,cJ _ _,l,c,rs,rfl,hc6,hT,fun H1 s1=>⟨_,rfl,?_⟩⟩
  cases hg:tabB c rs with
  | false =>
   refine iteT ?_
   have z:=k H1 s1
   unfold brkB at z
   rw[hg,Bool.false_and] at z
   exact z
  | true =>
   refine iteF ?_
   have gd:=Lg hg
   refine⟨_,rfl,_,rfl,x,dx,_,rfl,s1 _ _ hx,iB _ _ (by decide +kernel) (by decide +kernel),x,m,c,ps,rfl,hR.same s1,fun d ts hd htp=>?_⟩
   have s2:Same H1 (upd H1 d (.lst (ts.map V.ref))):=Same.new hd
   refine⟨l,d,rs,ps,rfl,hT.same (s1.trans s2),gd.1,fun r hr=>by rw[(gd.2 r hr).1];exact hc6,⟨ts,au,htp.same s2⟩,hlen,fun q hq=>⟨by have:=(hps q hq).1;omega,by have:=(hps q hq).2;omega⟩,fun H3 s3=>⟨_,rfl,?_⟩⟩
   have s13:Same H H3:=s1.trans (s2.trans s3)
   refine ite2 (fun e=>?_) (fun e=>?_)
   ·refine⟨_,rfl,_,rfl,l,t,rs,p,rfl,hT.same s13,gd.1,fun r hr=>by rw[(gd.2 r hr).1];exact hc6,s13 _ _ ht,hp1,hp2,fun H4 s4=>⟨_,rfl,?_⟩⟩
    have z:=k H4 (s13.trans s4)
    unfold brkB at z
    rw[hg,Bool.true_and,e,Bool.true_and] at z
    exact z
   ·have z:=k H3 s13
    unfold brkB at z
    have e':(ps.all fun p=>decide (Keeps rs p))=false:=by simpa using e
    rw[hg,Bool.true_and,e',Bool.false_and] at z
    exact z
end
end K12
namespace K12
open PySem L2 TC
def fldS (d:Addr):List (Str×V):=putF "places" (.ref d) []
def fldR (a b:Addr):List (Str×V):=putF "other" (.ref b) (putF "one" (.ref a) [])
theorem yq (d:Addr):(fldS d).lookup ("places" : Str)=some (.ref d):=by unfold fldS;rw[aZ,if_pos rfl]
theorem aou (d:Addr) {m:Str} (h1:¬ m = "places"):(fldS d).lookup m=none:=by unfold fldS;rw[aZ,if_neg h1];rfl
theorem koo:¬ (("one" : Str) = "other"):=by decide +kernel
theorem Iz (a b:Addr):(fldR a b).lookup ("one" : Str)=some (.ref a):=by unfold fldR;rw[aZ,if_neg koo,aZ,if_pos rfl]
theorem nP (a b:Addr):(fldR a b).lookup ("other" : Str)=some (.ref b):=by unfold fldR;rw[aZ,if_pos rfl]
theorem ak3 (a b:Addr) {m:Str} (h1:¬ m = "other") (h2:¬ m = "one"):(fldR a b).lookup m=none:=by unfold fldR;rw[aZ,if_neg h1,aZ,if_neg h2];rfl
def vD (C:Addr) (H:Hp) (x d:Addr) (pl:List Nat):Prop:=(∃ dx,H x=some (.ins C dx (fldS d)))∧H d=some (.lst (nums pl))
def Ba (C:Addr) (H:Hp) (x a b:Addr) (r1 r2:List Nat):Prop:=(∃ dx,H x=some (.ins C dx (fldR a b)))∧H a=some (.lst (nums r1))∧H b=some (.lst (nums r2))
theorem vD.same {C:Addr} {H H':Hp} {x d:Addr} {pl:List Nat} (e:Same H H'):vD C H x d pl→vD C H' x d pl:=fun ⟨⟨dx,h⟩,t⟩=>⟨⟨dx,e _ _ h⟩,e _ _ t⟩
theorem Ba.same {C:Addr} {H H':Hp} {x a b:Addr} {r1 r2:List Nat} (e:Same H H'):Ba C H x a b r1 r2→Ba C H' x a b r1 r2:=fun ⟨⟨dx,h⟩,t,u⟩=>⟨⟨dx,e _ _ h⟩,e _ _ t,e _ _ u⟩
def ac2 (C:Addr):Sp:=fun vs H Q _=>∃ (p dx l:Addr) (pl:List Nat),vs = [.ref p,.ref l]∧H p=some (.ins C dx [])∧H l=some (.lst (nums pl)) ∧
 ∀ (d:Addr) (H':Hp),H d=none→vD C H' p d pl→(∀ b o,H b=some o→b≠p→H' b=some o)→Q .non H'
def afM (C:Addr):Sp:=fun vs H Q _=>∃ (p dx l m:Addr) (r1 r2:List Nat),vs = [.ref p,.ref l,.ref m]∧H p=some (.ins C dx [])∧H l=some (.lst (nums r1))∧H m=some (.lst (nums r2)) ∧
 ∀ (a b:Addr) (H':Hp),H a=none→H b=none→a≠b→Ba C H' p a b r1 r2→(∀ b o,H b=some o→b≠p→H' b=some o)→Q .non H'
def aaC (C CR:Addr):Sp:=fun vs H Q _=>∃ (x d p m:Addr) (c a b:Nat) (ps:List (Nat×Nat)) (pl:List Nat),vs = [.ref x,.ref p,.int (a:Nat),.int (b:Nat)]∧vD C H x d pl∧bV CR H p m c ps∧∀ H',Same H H'→Q (.bl (rK ps pl a b)) H'
def ac3 (C CR:Addr):Sp:=fun vs H Q _=>∃ (x d1 d2 p m:Addr) (c a b:Nat) (ps:List (Nat×Nat)) (r1 r2:List Nat),vs = [.ref x,.ref p,.int (a:Nat),.int (b:Nat)]∧Ba C H x d1 d2 r1 r2∧bV CR H p m c ps∧Good c ps∧a < 64∧b < 64 ∧
 ∀ H',Same H H'→Q (.bl (brkB c [r1,r2] ps (a,b))) H'
section
variable {P:Program} {w:World} {K:W.Frag} {mg:Str→Option Value} {base:Heap} {A:Adr}
theorem M5 (T:Txt K mg A):FnOk P w K mg base CX0 1 A.iH A.Dl ["self", "places"] (ac2 A.c7):=by
 refine T.afp.ok acM (fun vs H Q E h=>?_) (fun cdv A' outer s H vs Q E hr h=>?_)
 ·obtain⟨p,dx,l,pl,rfl,_⟩:=h;rfl
 ·obtain⟨p,dx,l,pl,rfl,hp,hl,k⟩:=h
  refine⟨_,(aB (jY K (pv 0) (cC (cg K) rfl T.dZ dh (aj (pv 1) ao)))),?_⟩
  refine⟨_,rfl,l,nums pl,rfl,.inl (SqL.of hl),fun d hd=>⟨_,rfl,p,A.c7,dx,[],rfl,Same.new hd _ _ hp,T.pC,T.eE,by show 0 < 1000;decide,?_⟩⟩
  have npd:d≠p:=fun z=>by rw[z,hp] at hd;cases hd
  refine k d _ hd ⟨⟨dx,au⟩,by rw[aG npd,au]⟩ fun b o hb hbp=>?_
  rw[aG hbp]
  exact Same.new hd _ _ hb
theorem R3 (T:Txt K mg A):FnOk P w K mg base CX0 1 A.jH A.Hv ["self", "one", "other"] (afM A.cI):=by
 refine T.ahQ.ok afg (fun vs H Q E h=>?_) (fun cdv A' outer s H vs Q E hr h=>?_)
 ·obtain⟨p,dx,l,m,r1,r2,rfl,_⟩:=h;rfl
 ·obtain⟨p,dx,l,m,r1,r2,rfl,hp,hl,hm,k⟩:=h
  refine⟨_,(aq (jY K (pv 0) (cC (cg K) rfl T.dZ dh (aj (pv 1) ao)))
   (aB (jY K (pv 0) (cC (cg K) rfl T.dZ dh (aj (pv 2) ao))))),?_⟩
  refine⟨_,rfl,l,nums r1,rfl,.inl (SqL.of hl),fun a ha=>⟨_,rfl,p,A.cI,dx,[],rfl,Same.new ha _ _ hp,T.gP,T.jj,by show 0 < 1000;decide,?_⟩⟩
  have npa:a≠p:=fun z=>by rw[z,hp] at ha;cases ha
  have nmp:m≠p:=iG hm hp (by intro z;cases z)
  have hm2:(upd (upd H a (.lst (nums r1))) p (.ins A.cI dx (putF "one" (.ref a) []))) m=some (.lst (nums r2)):=by rw[aG nmp];exact Same.new ha _ _ hm
  have ha2:(upd (upd H a (.lst (nums r1))) p (.ins A.cI dx (putF "one" (.ref a) []))) a=some (.lst (nums r1)):=by rw[aG npa,au]
  refine⟨_,rfl,m,nums r2,rfl,.inl (SqL.of hm2),fun b hb=>⟨_,rfl,p,A.cI,dx,_,rfl,Same.new hb _ _ au,T.gP,T.cX,by show 1 < 1000;decide,?_⟩⟩
  have nbp:b≠p:=fun z=>by rw[z,au] at hb;cases hb
  have nab:a≠b:=aL ha2 hb
  have hbH:H b=none:=by
   rw[aG nbp,aG nab.symm] at hb
   exact hb
  refine k a b _ ha hbH nab ⟨⟨dx,au⟩,by rw[aG npa,aG nab];exact ha2,by rw[aG nbp,au]⟩ fun q o hq hqp=>?_
  rw[aG hqp,aG (aL hq hbH),aG hqp,aG (aL hq ha)]
  exact hq
theorem aaD (T:Txt K mg A):FnOk P w K mg base CX0 7 A.gJ A.Ag ["self", "rules", "left", "right"] (aaC A.c7 A.bB):=by
 have ajX:=ak2 (P:=P) (w:=w) (base:=base) T
 refine T.acS.ok ZX (fun vs H Q E h=>?_) (fun cdv A' outer s H vs Q E hr h=>?_)
 ·obtain⟨x,d,p,m,c,a,b,ps,pl,rfl,_⟩:=h;rfl
 ·obtain⟨x,d,p,m,c,a,b,ps,pl,rfl,⟨⟨dx,hx⟩,hd⟩,hR,k⟩:=h
  refine⟨_,(aB (aM (aC ajX (hr.mono (by decide)) rfl T.anu T.ajH.kp T.ant .nil aH (aj (aR K (pv 0)) (aj (pv 1) (aj (pv 2) (aj (pv 3) ao))))))),?_⟩
  exact⟨_,rfl,x,A.c7,dx,_,_,rfl,hx,T.pC,T.eE,yq _,_,rfl,_,rfl,_,rfl,d,p,m,c,a,b,ps,pl,rfl,hd,hR,k⟩
theorem M6 (T:Txt K mg A):FnOk P w K mg base CX0 9 A.iI A.Dm ["self", "rules", "left", "right"] (ac3 A.cI A.bB):=by
 have Bb:=Iv (P:=P) (w:=w) (base:=base) T
 refine T.afq.ok acN (fun vs H Q E h=>?_) (fun cdv A' outer s H vs Q E hr h=>?_)
 ·obtain⟨x,d1,d2,p,m,c,a,b,ps,r1,r2,rfl,_⟩:=h;rfl
 ·obtain⟨x,d1,d2,p,m,c,a,b,ps,r1,r2,rfl,⟨⟨dx,hx⟩,hd1,hd2⟩,hR,hG,ha,hb,k⟩:=h
  refine⟨_,(aB (aM (aC Bb (hr.mono (by decide)) rfl T.MT T.Ax.kp T.MP .nil aH (aj (cD (aj (aR K (pv 0)) (aj (aR K (pv 0)) ao))) (aj (pv 1) (aj (Ab (aj (pv 2) (aj (pv 3) ao))) ao)))))),?_⟩
  refine⟨_,rfl,x,A.cI,dx,_,_,rfl,hx,T.gP,T.jj,Iz _ _,_,rfl,x,A.cI,dx,_,_,rfl,hx,T.gP,T.cX,nP _ _,by show 2≤sizeLine;decide,fun l hl=>?_⟩
  have s1:Same H (upd H l (.lst [.ref d1,.ref d2])):=Same.new hl
  refine⟨_,rfl,_,rfl,_,rfl,by show 2≤sizeLine;decide,fun t ht=>?_⟩
  have s2:Same (upd H l (.lst [.ref d1,.ref d2])) (upd (upd H l (.lst [.ref d1,.ref d2])) t (.tup [.int (a:Nat),.int (b:Nat)])):=Same.new ht
  have s02:=s1.trans s2
  exact⟨l,p,m,t,c,[r1,r2],ps,(a,b),rfl,⟨[d1,d2],s2 _ _ au,s02 _ _ hd1,s02 _ _ hd2,trivial⟩,hR.same s02,hG,au,ha,hb,fun H' s'=>k H' (s02.trans s')⟩
end
def YW:Sp:=fun vs H Q _=>∃ (l:Addr) (kn:Nat) (ps:List (Nat×Nat)),vs = [.ref l,.int (kn:Nat)]∧dg H l ps∧ps.length≤64∧true∈ps.map (useful kn)∧∀ (j:Nat) (p:Nat×Nat) (H':Hp),Same H H'→ps[j]? = some p→useful kn p=true→Q (.int (j:Nat)) H'
def ah7:Sp:=fun vs H Q _=>∃ (l:Addr) (a b:Nat) (ps:List (Nat×Nat)),vs = [.ref l,.int (a:Nat),.int (b:Nat)]∧dg H l ps∧ps.length≤64∧(∀ p∈ps,p.2 < 64)∧a < 64∧Sb b (cl ps a) ∧
 ∀ (d:Addr) (pl:List Nat) (H':Hp),H d=none→Same H H'→H' d=some (.lst (nums pl))→rK ps pl a b=true→(∀ i∈pl,i<ps.length)→pl.length≤64→Q (.ref d) H'
def ajY (CR CS CW:Addr):Sp:=fun vs H Q _=>∃ (p m:Addr) (c a b:Nat) (ps:List (Nat×Nat)),vs = [.ref p,.int (a:Nat),.int (b:Nat)]∧bV CR H p m c ps∧Good c ps∧a < 2 ^ c∧b < 2 ^ c ∧
 (Sb b (cl ps a)→∀ (x d:Addr) (pl:List Nat) (H':Hp),H x=none→H d=none→Same H H'→vD CS H' x d pl→rK ps pl a b=true→(∀ i∈pl,i<ps.length)→pl.length≤64→Q (.ref x) H') ∧
 (¬ Sb b (cl ps a)→∀ (x d1 d2:Addr) (H':Hp),H x=none→H d1=none→H d2=none→d1≠d2→Same H H'→Ba CW H' x d1 d2 (rowOf c (cl ps a) 0) (rowOf c (cl ps a) 1)→Q (.ref x) H')
section
variable {P:Program} {w:World} {K:W.Frag} {mg:Str→Option Value} {base:Heap} {A:Adr}
theorem YX (T:Txt K mg A):FnOk P w K mg base CX0 3 A.g8 A.wN ["pairs", "known"] YW:=by
 have iy:=qY (P:=P) (w:=w) (base:=base) T
 refine T.Ih.ok GQ (fun vs H Q E h=>?_) (fun cdv A' outer s H vs Q E hr h=>?_)
 ·obtain⟨l,kn,ps,rfl,_⟩:=h;rfl
 ·obtain⟨l,kn,ps,rfl,⟨ts,hl,htp⟩,hlen,hu,k⟩:=h
  refine⟨_,(aq (Ri (i:=2) ["pairs", "known", "useful"] (ak dw) ["rule", "known"] [none,some 1] ⟨rfl,by decide +kernel,by decide +kernel,by decide +kernel,by decide +kernel,by decide +kernel⟩ rfl GQ.nd rfl rfl (bI K (pv 0)) (fun _ _ _ _ _=>(aO (i:=0) (by show List.Nodup (["rule", "known"]:List Str);decide +kernel) rfl (Or.inl rfl) (Or.inr rfl))) (fun _ _ _ _ _=>cG) (fun _ _ _ _ _=>(pX (aC iy (hr.mono (by decide)) rfl T.nJ T.lC.kp T.nH .nil aH (aj (bh (bQ K) (pv 0) aA (fun _ _=>rfl)) (aj (pv 1) ao))) (qF (aeR (aC iy (hr.mono (by decide)) rfl T.nJ T.lC.kp T.nH .nil aH (aj (bh (bQ K) (pv 0) aA (fun _ _=>rfl)) (aj (pv 1) ao))))))))
   (aB (aM (alO K (pv 2) (aj cH ao))))),?_⟩
  have hln:(ts.map V.ref).length=ps.length:=by rw[List.length_map];exact htp.len
  refine⟨_,rfl,l,rfl,⟨_,SqL.of hl⟩,fun D hD=>cO (xs:=ts.map V.ref) (fun i ys H'=>Same H H'∧ys=bls ((ps.take i).map (useful kn))∧i≤ps.length) ⟨Same.new hD,rfl,Nat.zero_le _⟩ (fun i ys H' _ ⟨e,_⟩=>SqL.of (e _ _ hl)) ?_ ?_⟩
  ·rintro i x ys H' hx ⟨se,rfl,hi⟩ hDl
   obtain⟨t,p,rfl,hp,ht⟩:=(htp.same se).get hx
   have hi':i<ps.length:=(List.getElem?_eq_some_iff.mp hp).1
   have fin:∀ b:Bool,b=useful kn p→(fun i ys H'=>Same H H'∧ys=bls ((ps.take i).map (useful kn))∧i≤ps.length) (i+1) (bls ((ps.take i).map (useful kn))++[V.bl b]) (upd H' D (.lst (bls ((ps.take i).map (useful kn))++[V.bl b]))):=fun b hb=>by
    refine⟨Same.up se hD,?_,hi'⟩
    rw[map_take _ hp,nO,hb]
   have sm:(bls ((ps.take i).map (useful kn))).length<sizeLine:=aP (by rw[tW,List.length_map,List.length_take];omega)
   refine dF ?_
   refine⟨_,rfl,t,_,0,_,rfl,rfl,SqT.of ht,rfl,_,rfl,p.1,kn,rfl,_,rfl,?_⟩
   refine ite2 (fun e=>?_) (fun e=>?_)
   ·refine⟨_,rfl,t,_,1,_,rfl,rfl,SqT.of ht,rfl,_,rfl,p.2,kn,rfl,_,rfl,?_⟩
    exact CE1.mk hDl sm (fin _ (by unfold useful;rw[e];rfl))
   ·have e':decide (Sb p.1 kn)=false:=by simpa using e
    exact CE1.mk hDl sm (fin _ (by unfold useful;rw[e'];rfl))
  ·rintro ys H' ⟨se,rfl,_⟩ hDl
   rw[hln,List.take_length] at hDl
   obtain⟨j,h1,h2⟩:=ZS _ hu
   obtain⟨p,hp,hpu⟩ : ∃ p,ps[j]? = some p∧useful kn p=true:=by
    rw[List.getElem?_map] at h1
    cases e:ps[j]? with
    | none=>rw[e] at h1;cases h1
    | some p=>rw[e] at h1;exact⟨p,rfl,Option.some.inj h1⟩
   exact⟨_,rfl,.inl ⟨rfl,_,SqL.of hDl⟩,D,_,j,rfl,rfl,hDl,h1,h2,k j p H' se hp hpu⟩
def mu3:St→Hp→Nat:=fun σ _=>match σ with
 | [_,_,_,some (.int kn),_,_]=>64 - kn.toNat
 | _=>0
theorem ah8 (T:Txt K mg A):FnOk P w K mg base CX0 5 A.m8 A.P0 ["pairs", "left", "right"] ah7:=by
 have iy:=qY (P:=P) (w:=w) (base:=base) T
 have aaE:=YX (P:=P) (w:=w) (base:=base) T
 refine T.aap.ok uM (fun vs H Q E h=>?_) (fun cdv A' outer s H vs Q E hr h=>?_)
 ·obtain⟨l,a,b,ps,rfl,_⟩:=h;rfl
 ·obtain⟨l,a,b,ps,rfl,hP,hlen,hps,ha,hb,k⟩:=h
  refine⟨_,(aq (aQ (i:=3) uM.nd rfl (Or.inl rfl) (pv 1))
   (aq (aQ (i:=4) uM.nd rfl (Or.inl rfl) (cD ao))
   (aq (Zk PassesOwn.never (bY (bG (aC iy (hr.mono (by decide)) rfl T.nJ T.lC.kp T.nH .nil aH (aj (pv 2) (aj (pv 3) ao))))) (aq (aQ (i:=5) uM.nd rfl (Or.inl rfl) (aC aaE (hr.mono (by decide)) rfl T.aar T.Ih.kp T.aaq .nil aH (aj (pv 0) (aj (pv 3) ao))))
   (aq (cQ (cF K (pv 4) (aj (pv 5) ao)))
   (aB (aQ (i:=3) uM.nd rfl (Or.inl rfl) (bw Rh (pv 3) (bh (bQ K) (bh (aN K) (pv 0) (pv 5) (fun _ _=>rfl)) aA (fun _ _=>rfl))))))))
   (aB (aM (pv 4)))))),?_⟩
  refine⟨_,rfl,Nat.zero_le _,fun D hD=>?_⟩
  refine ahk (fun σ H'=>Same H H'∧∃ (kn:Nat) (pl:List Nat) (sv:Option V),σ = [some (.ref l),some (.int (a:Nat)),some (.int (b:Nat)),some (.int (kn:Nat)),some (.ref D),sv]∧H' D=some (.lst (nums pl))∧j8 ps pl a=some kn∧pl.length≤kn∧kn < 64∧Sb b (cl ps kn)) mu3
   ⟨Same.new hD,a,[],none,rfl,au,rfl,Nat.zero_le _,ha,hb⟩ ?_ (fun σ H Q Q' hq ⟨v,e,v',e',x,y,ee,k,ek,q⟩=>⟨v,e,v',e',x,y,ee,k,ek,hq _ _ q⟩)
  rintro σ H' ⟨s1,kn,pl,sv,rfl,hDl,hk,hpl,hkn,hbk⟩
  refine⟨_,rfl,_,rfl,b,kn,rfl,_,rfl,?_⟩
  by_cases hs:Sb b kn
  ·rw[decide_eq_true hs]
   refine iteF ?_
   exact⟨_,rfl,k D pl H' hD s1 hDl (by rw[Pq hk,decide_eq_true hs]) (Dd hk) (by omega)⟩
  ·rw[decide_eq_false hs]
   refine iteT ?_
   refine⟨_,rfl,_,rfl,l,kn,ps,rfl,hP.same s1,hlen,alU hbk hs,fun j p H2 s2 hp hu=>?_⟩
   have hD2:=s2 _ _ hDl
   have hu':=aju hu
   refine⟨_,rfl,.inl ⟨rfl,_,SqL.of hD2⟩,_,rfl,D,_,_,rfl,rfl,hD2,aP (by rw[aY];omega),?_⟩
   obtain⟨ts,hl,htp⟩:=(hP.same s1).same s2
   have nDl:l≠D:=fun z=>by
    rw[z,hD2] at hl
    obtain⟨_,hl0,_⟩:=hP
    rw[z,hD] at hl0
    cases hl0
   have hl3:(upd H2 D (.lst (nums pl++[.int (j:Nat)]))) l=some (.lst (ts.map V.ref)):=by rw[aG nDl];exact hl
   have htp3:=htp.upd (o:=.lst (nums pl++[.int (j:Nat)])) hD2
   have hjt:j<ts.length:=by rw[htp.len];exact(List.getElem?_eq_some_iff.mp hp).1
   have hgt:(ts.map V.ref)[j]? = some (.ref ts[j]):=by rw[List.getElem?_map,List.getElem?_eq_getElem hjt];rfl
   obtain⟨t,q,et,hq,ht⟩:=htp3.get hgt
   rw[et] at hgt
   rw[hp] at hq
   cases hq
   refine⟨_,rfl,_,rfl,_,rfl,l,_,(j:Int),_,rfl,rfl,SqL.of hl3,bJ hgt,t,_,1,_,rfl,rfl,SqT.of ht,rfl,_,_,rfl,rfl,?_⟩
   have hgr:kn<kn ||| p.2:=grows hu'.2
   have hlt:kn ||| p.2 < 64:=Nat.or_lt_two_pow (n:=6) hkn (hps p (List.mem_of_getElem? hp))
   refine⟨⟨Same.up (s1.trans s2) hD,kn ||| p.2,pl++[j],some (.int (j:Nat)),by rw[← Ay];rfl,by rw[au,gq],?_,by rw[List.length_append];show pl.length+1≤_;omega,hlt,hbk.trans (aon ps (Sb.left _ _))⟩,?_⟩
   ·rw[vh,hk]
    exact Vy hp hu'.1
   ·show 64 - (Builtin.bitOr ((kn:Nat):Int) ((p.2:Nat):Int)).toNat < 64 - ((kn:Nat):Int).toNat
    rw[Ay,Int.toNat_natCast,Int.toNat_natCast]
    omega
theorem aaF (T:Txt K mg A):FnOk P w K mg base CX0 7 A.qt A.VH ["rules", "left", "right"] (ajY A.bB A.c7 A.cI):=by
 have Im:=aek (P:=P) (w:=w) (base:=base) T
 have iy:=qY (P:=P) (w:=w) (base:=base) T
 have anA:=amd (P:=P) (w:=w) (base:=base) T
 have aV:=cB (P:=P) (w:=w) (base:=base) T
 have ajZ:=ah8 (P:=P) (w:=w) (base:=base) T
 have R0:=aen (P:=P) (w:=w) (base:=base) T
 have DR:=M5 (P:=P) (w:=w) (base:=base) T
 have IK:=R3 (P:=P) (w:=w) (base:=base) T
 refine T.VP.ok Py (fun vs H Q E h=>?_) (fun cdv A' outer s H vs Q E hr h=>?_)
 ·obtain⟨p,m,c,a,b,ps,rfl,_⟩:=h;rfl
 ·obtain⟨p,m,c,a,b,ps,rfl,hR,hG,ha,hb,k1,k2⟩:=h
  obtain⟨⟨dx,hp⟩,_⟩:=id hR
  obtain⟨hc1,hc6,hlen,hps⟩:=id hG
  have h64:2 ^ c≤64:=Nat.pow_le_pow_right (by decide) hc6
  refine⟨_,(aq (bN (PW.pt (kI (bY (bG (aC Im (hr.mono (by decide)) rfl T.Rv T.HJ.kp T.Ru .nil aH (aj (pv 1) (aj (aR K (pv 0)) ao))))) (lF (bY (bG (aC Im (hr.mono (by decide)) rfl T.Rv T.HJ.kp T.Ru .nil aH (aj (pv 2) (aj (aR K (pv 0)) ao)))))))) (aB Rg) aU)
   (aq (aQ (i:=3) Py.nd rfl (Or.inl rfl) (eG (pv 0) T.bL T.bH aV (hr.mono (by decide)) T.bO .nil aH))
   (aq (aQ (i:=4) Py.nd rfl (Or.inl rfl) (aC anA (hr.mono (by decide)) rfl T.anw T.ahS.kp T.anv .nil aH (aj (pv 3) (aj (pv 1) ao))))
   (aq (bN (bG (aC iy (hr.mono (by decide)) rfl T.nJ T.lC.kp T.nH .nil aH (aj (pv 2) (aj (pv 4) ao)))) (aB (aM (pN T.BZ DR (hr.mono (by decide)) rfl T.Y8 T.RB .nil aH (aj (aC ajZ (hr.mono (by decide)) rfl T.ajL T.aap.kp T.ajK .nil aH (aj (pv 3) (aj (pv 1) (aj (pv 2) ao)))) ao)))) aU)
   (aB (aM (pN T.Lb IK (hr.mono (by decide)) rfl T.ajM T.WX .nil aH (aj (aC R0 (hr.mono (by decide)) rfl T.aaj T.Rx.kp T.aai .nil aH (aj (aR K (pv 0)) (aj (pv 4) (aj aA ao)))) (aj (aC R0 (hr.mono (by decide)) rfl T.aaj T.Rx.kp T.aai .nil aH (aj (aR K (pv 0)) (aj (pv 4) (aj aA ao)))) ao))))))))),?_⟩
  refine⟨_,rfl,_,rfl,p,A.bB,dx,_,_,rfl,hp,T.bL,T.bx,cJ _ _,a,c,rfl,hc6,_,rfl,?_⟩
  have ea:=afB ha
  have eb:=afB hb
  rw[ea]
  refine iteF ?_
  refine⟨_,rfl,_,rfl,p,A.bB,dx,_,_,rfl,hp,T.bL,T.bx,cJ _ _,b,c,rfl,hc6,_,rfl,?_⟩
  rw[eb]
  refine iteF ?_
  refine⟨_,rfl,p,dx,_,rfl,hp,iB _ _ (by decide +kernel) (by decide +kernel),p,m,c,ps,rfl,hR,fun l ts hl htp=>?_⟩
  have s1:Same H (upd H l (.lst (ts.map V.ref))):=Same.new hl
  have hP1:dg (upd H l (.lst (ts.map V.ref))) l ps:=⟨ts,au,htp.same s1⟩
  generalize upd H l (.lst (ts.map V.ref))=H1 at s1 hP1 ⊢
  have hp2:∀ q∈ps,q.2 < 64:=fun q hq=>by have:=(hps q hq).2;omega
  refine⟨_,rfl,_,rfl,l,a,ps,rfl,hP1,by omega,hp2,?_⟩
  have hcl:cl ps a < 2 ^ c:=aqe (fun q hq=>(hps q hq).2) ha
  refine⟨_,rfl,_,rfl,b,cl ps a,rfl,_,rfl,?_⟩
  by_cases hs:Sb b (cl ps a)
  ·rw[decide_eq_true hs]
   refine iteT ?_
   refine⟨_,rfl,_,rfl,_,rfl,l,a,b,ps,rfl,hP1,hlen,hp2,by omega,hs,fun d pl H2 hd s2 hd2 hld hpl hpn=>?_⟩
   refine fun x dx2 nx ndx nex=>?_
   have s3:Same H2 (upd (upd H2 dx2 (.own x)) x (.ins A.c7 dx2 [])):=Same.up (Same.new ndx) nx
   refine⟨x,dx2,d,pl,rfl,au,s3 _ _ hd2,fun e H4 he hS kp=>⟨rfl,?_⟩⟩
   have s4:Same H2 H4:=fun q o hq=>kp q o (s3 q o hq) (aL hq nx)
   have s04:Same H H4:=s1.trans (s2.trans s4)
   exact k1 hs x e pl H4 (s1.free (s2.free nx)) (s1.free (s2.free (s3.free he))) s04 hS hld hpl hpn
  ·rw[decide_eq_false hs]
   refine iteF ?_
   refine⟨_,rfl,p,A.bB,dx,_,_,rfl,s1 _ _ hp,T.bL,T.bx,cJ _ _,_,rfl,c,cl ps a,0,rfl,hc6,by omega,fun d1 H2 hd1 s2 hd12=>?_⟩
   refine⟨_,rfl,p,A.bB,dx,_,_,rfl,s2 _ _ (s1 _ _ hp),T.bL,T.bx,cJ _ _,_,rfl,c,cl ps a,1,rfl,hc6,by omega,fun d2 H3 hd2 s3 hd23=>?_⟩
   refine fun x dx2 nx ndx nex=>?_
   have s4:Same H3 (upd (upd H3 dx2 (.own x)) x (.ins A.cI dx2 [])):=Same.up (Same.new ndx) nx
   refine⟨x,dx2,d1,d2,_,_,rfl,au,s4 _ _ (s3 _ _ hd12),s4 _ _ hd23,fun e1 e2 H5 he1 he2 nee hW kp=>⟨rfl,?_⟩⟩
   have s5:Same H3 H5:=fun q o hq=>kp q o (s4 q o hq) (aL hq nx)
   have s03:Same H H3:=s1.trans (s2.trans s3)
   exact k2 hs x e1 e2 H5 (s03.free nx) (s03.free (s4.free he1)) (s03.free (s4.free he2)) nee (s03.trans s5) hW
end
end K12
namespace K12
open PySem L2 TC
def allB (ps:List (Nat×Nat)) (qs:List (Nat×Nat)) (ls:List (List Nat)):Bool:=decide (ls.length=qs.length) && (List.range qs.length).all fun i=>rK ps (ls.getD i []) (qs.getD i (0,0)).1 (qs.getD i (0,0)).2
theorem getL {S:List (List Nat)} {i:Nat} {x:List Nat} (h:S[i]? = some x):S.getD i [] = x:=by simp [List.getD,h]
theorem getP {S:List (Nat×Nat)} {i:Nat} {x:Nat×Nat} (h:S[i]? = some x):S.getD i (0,0)=x:=by simp [List.getD,h]
theorem aaG {α : Type} (f:Nat → α) (i:Nat):(List.range (i+1)).map f=(List.range i).map f++[f i]:=by rw[List.range_succ,List.map_append];rfl
theorem all_range (f:Nat→Bool) (n:Nat):(((List.range n).map f).all id)=(List.range n).all f:=by rw[List.all_map];rfl
def ah9 (C:Addr):Sp:=fun vs H Q _=>∃ (l p m p' m':Addr) (c c':Nat) (qs ps:List (Nat×Nat)) (ls:List (List Nat)),vs = [.ref l,.ref p,.ref p']∧iw H l ls∧bV C H p m c qs∧qs.length≤64∧bV C H p' m' c' ps∧∀ H',Same H H'→Q (.bl (allB ps qs ls)) H'
section
variable {P:Program} {w:World} {K:W.Frag} {mg:Str→Option Value} {base:Heap} {A:Adr}
theorem aia (T:Txt K mg A):FnOk P w K mg base CX0 7 A.m6 A.PN ["lists", "rules", "others"] (ah9 A.bB):=by
 have ajX:=ak2 (P:=P) (w:=w) (base:=base) T
 have aV:=cB (P:=P) (w:=w) (base:=base) T
 refine T.Qj.ok WL (fun vs H Q E h=>?_) (fun cdv A' outer s H vs Q E hr h=>?_)
 ·obtain⟨l,p,m,p',m',c,c',qs,ps,ls,rfl,_⟩:=h;rfl
 ·obtain⟨l,p,m,p',m',c,c',qs,ps,ls,rfl,⟨ts,hl,hR⟩,hRu,hq64,hRu',k⟩:=h
  obtain⟨⟨dx,hp⟩,_⟩:=id hRu
  have hln:(ts.map V.ref).length=ls.length:=by rw[List.length_map];exact hR.len
  refine⟨_,(aq (aQ (i:=3) WL.nd rfl (Or.inl rfl) (eG (pv 1) T.bL T.bH aV (hr.mono (by decide)) T.bO .nil aH))
   (aq (bN (bA GP (aW (bM K) rfl T.gh dH (aj (pv 0) ao)) (aW (bM K) rfl T.gh dH (aj (pv 3) ao)) (bF _)) (aB (aM cH)) aU)
   (aB (aM (aW (lK K rfl) rfl T.yo Ae (aj (cP ["lists", "rules", "others", "pairs"] (ak jq) ["places", "rule", "others"] [none,none,some 2] ⟨rfl,by decide +kernel,by decide +kernel,by decide +kernel,by decide +kernel,by decide +kernel⟩ rfl (akP K rfl T.aej anq (aj (pv 0) (aj (pv 3) ao))) (fun _ _ _ _ _=>qH K (n:=2) rfl (cZ (aO (i:=0) (by show List.Nodup (["places", "rule", "others"]:List Str);decide +kernel) rfl (Or.inl rfl) (Or.inr rfl)) (cZ (aO (i:=1) (by show List.Nodup (["places", "rule", "others"]:List Str);decide +kernel) rfl (Or.inl rfl) (Or.inr rfl)) qG))) (fun _ _ _ _ _=>cG) (fun _ _ _ _ _=>(aC ajX (hr.mono (by decide)) rfl T.anu T.ajH.kp T.ant .nil aH (aj (pv 0) (aj (pv 2) (aj (bh (bQ K) (pv 1) aA (fun _ _=>rfl)) (aj (bh (bQ K) (pv 1) aA (fun _ _=>rfl)) ao))))))) ao)))))),?_⟩
  refine⟨_,rfl,p,dx,_,rfl,hp,iB _ _ (by decide +kernel) (by decide +kernel),p,m,c,qs,rfl,hRu,fun d us hd htp=>?_⟩
  have s1:Same H (upd H d (.lst (us.map V.ref))):=Same.new hd
  have hd1:(upd H d (.lst (us.map V.ref))) d=some (.lst (us.map V.ref)):=au
  have htp1:=htp.same s1
  have hlu:(us.map V.ref).length=qs.length:=by rw[List.length_map];exact htp.len
  generalize upd H d (.lst (us.map V.ref))=H1 at s1 hd1 htp1 ⊢
  have hl1:=s1 _ _ hl
  refine⟨_,rfl,l,_,rfl,.inl (SqL.of hl1),_,rfl,d,_,rfl,.inl (SqL.of hd1),rfl,_,rfl,?_⟩
  rw[hln,hlu]
  by_cases hlen:ls.length=qs.length
  ·refine ite2 (fun e=>absurd e (by rw[hlen];simp)) (fun _=>?_)
   refine⟨_,rfl,_,rfl,l,d,rfl,⟨_,SqL.of hl1⟩,⟨_,SqL.of hd1⟩,fun D hD=>am8 (xs:=ts.map V.ref) (zs:=us.map V.ref) (fun i ys H'=>Same H1 H'∧i≤qs.length∧ys=bls ((List.range i).map fun i=>rK ps (ls.getD i []) (qs.getD i (0,0)).1 (qs.getD i (0,0)).2)) (by rw[hln,hlu];exact hlen) ⟨Same.new hD,Nat.zero_le _,rfl⟩ (fun i ys H' _ ⟨e,_⟩=>⟨e _ _ hl1,e _ _ hd1⟩) ?_ ?_⟩
   ·rintro i v z ys H2 q hv hz ⟨s2,hi,rfl⟩ hDl hq
    have s12:=s1.trans s2
    obtain⟨t,pl,rfl,hpl,ht⟩:=(hR.same s12).get hv
    obtain⟨u,r,rfl,hr',hu⟩:=(htp1.same s2).get hz
    have hi':i<qs.length:=(List.getElem?_eq_some_iff.mp hr').1
    have sq:Same H2 (upd H2 q (.tup [.ref t,.ref u])):=Same.new hq
    refine dF ?_
    refine⟨_,rfl,_,rfl,_,rfl,u,_,0,_,rfl,rfl,SqT.of (sq _ _ hu),rfl,_,rfl,u,_,1,_,rfl,rfl,SqT.of (sq _ _ hu),rfl,t,p',m',c',r.1,r.2,ps,pl,rfl,sq _ _ ht,(hRu'.same s12).same sq,fun H3 s3=>?_⟩
    have hD3:=s3 _ _ (sq _ _ hDl)
    refine CE2.mk hD3 (aP (by rw[tW,List.length_map,List.length_range];omega)) ⟨Same.up (s2.trans (sq.trans s3)) hD,hi',?_⟩
    rw[aaG,nO,getL hpl,getP hr']
   ·rintro ys H2 ⟨s2,_,rfl⟩ hDl
    rw[hln,hlen] at hDl
    refine⟨D,_,rfl,SqL.of hDl,?_⟩
    rw[all_range]
    have z:=k H2 (s1.trans s2)
    unfold allB at z
    rw[decide_eq_true hlen,Bool.true_and] at z
    exact z
  ·refine ite2 (fun _=>?_) (fun e=>absurd (show V.int ((ls.length:Nat):Int)=V.int ((qs.length:Nat):Int) by simpa using e) fun z=>hlen (by injection z with z;omega))
   have z:=k H1 s1
   unfold allB at z
   rw[decide_eq_false hlen,Bool.false_and] at z
   exact z
end
def fldK (a b:Addr):List (Str×V):=putF "back" (.ref b) (putF "there" (.ref a) [])
def fldP (sd pl:V) (a b:Addr):List (Str×V):=putF "other" (.ref b) (putF "one" (.ref a) (putF "place" pl (putF "side" sd [])))
theorem ktb:¬ (("there" : Str) = "back"):=by decide +kernel
theorem kpo:¬ (("place" : Str) = "other"):=by decide +kernel
theorem kpn:¬ (("place" : Str) = "one"):=by decide +kernel
theorem kso:¬ (("side" : Str) = "other"):=by decide +kernel
theorem ksn:¬ (("side" : Str) = "one"):=by decide +kernel
theorem ksp:¬ (("side" : Str) = "place"):=by decide +kernel
theorem wW (a b:Addr):(fldK a b).lookup ("there" : Str)=some (.ref a):=by unfold fldK;rw[aZ,if_neg ktb,aZ,if_pos rfl]
theorem V7 (a b:Addr):(fldK a b).lookup ("back" : Str)=some (.ref b):=by unfold fldK;rw[aZ,if_pos rfl]
theorem ak4 (a b:Addr) {m:Str} (h1:¬ m = "back") (h2:¬ m = "there"):(fldK a b).lookup m=none:=by unfold fldK;rw[aZ,if_neg h1,aZ,if_neg h2];rfl
theorem aaH (s p:V) (a b:Addr):(fldP s p a b).lookup ("other" : Str)=some (.ref b):=by unfold fldP;rw[aZ,if_pos rfl]
theorem aaI (s p:V) (a b:Addr):(fldP s p a b).lookup ("one" : Str)=some (.ref a):=by unfold fldP;rw[aZ,if_neg koo,aZ,if_pos rfl]
theorem Qo (s p:V) (a b:Addr):(fldP s p a b).lookup ("place" : Str)=some p:=by unfold fldP;rw[aZ,if_neg kpo,aZ,if_neg kpn,aZ,if_pos rfl]
theorem Lh (s p:V) (a b:Addr):(fldP s p a b).lookup ("side" : Str)=some s:=by unfold fldP;rw[aZ,if_neg kso,aZ,if_neg ksn,aZ,if_neg ksp,aZ,if_pos rfl]
theorem ak5 (s p:V) (a b:Addr) {m:Str} (h1:¬ m = "other") (h2:¬ m = "one") (h3:¬ m = "place") (h4:¬ m = "side"):(fldP s p a b).lookup m=none:=by unfold fldP;rw[aZ,if_neg h1,aZ,if_neg h2,aZ,if_neg h3,aZ,if_neg h4];rfl
def Za (C:Addr) (H:Hp) (x a b:Addr) (S S':List (List Nat)):Prop:=(∃ dx,H x=some (.ins C dx (fldK a b)))∧iw H a S∧iw H b S'
def DW (C:Addr) (H:Hp) (x a b:Addr) (sd pl:Nat) (r1 r2:List Nat):Prop:=(∃ dx,H x=some (.ins C dx (fldP (.int (sd:Nat)) (.int (pl:Nat)) a b)))∧H a=some (.lst (nums r1))∧H b=some (.lst (nums r2))
theorem Za.same {C:Addr} {H H':Hp} {x a b:Addr} {S S':List (List Nat)} (e:Same H H'):Za C H x a b S S'→Za C H' x a b S S':=fun ⟨⟨dx,h⟩,t,u⟩=>⟨⟨dx,e _ _ h⟩,t.same e,u.same e⟩
theorem DW.same {C:Addr} {H H':Hp} {x a b:Addr} {sd pl:Nat} {r1 r2:List Nat} (e:Same H H'):DW C H x a b sd pl r1 r2→DW C H' x a b sd pl r1 r2:=fun ⟨⟨dx,h⟩,t,u⟩=>⟨⟨dx,e _ _ h⟩,e _ _ t,e _ _ u⟩
def ac4 (C:Addr):Sp:=fun vs H Q _=>∃ (p dx l m:Addr) (sd pl:Nat) (r1 r2:List Nat),vs = [.ref p,.int (sd:Nat),.int (pl:Nat),.ref l,.ref m]∧H p=some (.ins C dx [])∧H l=some (.lst (nums r1))∧H m=some (.lst (nums r2)) ∧
 ∀ (a b:Addr) (H':Hp),H a=none→H b=none→a≠b→DW C H' p a b sd pl r1 r2→(∀ b o,H b=some o→b≠p→H' b=some o)→Q .non H'
def Qp (ps qs:List (Nat×Nat)) (S S':List (List Nat)):Bool:=allB qs ps S && allB ps qs S'
def p6 (c:Nat) (ps qs:List (Nat×Nat)) (sd pl:Nat) (r1 r2:List Nat):Bool:=decide (sd≤1) && (decide (pl<(if sd=0 then ps else qs).length) && brkB c [r1,r2] (if sd=0 then qs else ps) ((if sd=0 then ps else qs).getD pl (0,0)))
def aaJ (C CR:Addr):Sp:=fun vs H Q _=>∃ (x a b p m p' m':Addr) (c:Nat) (ps qs:List (Nat×Nat)) (S S':List (List Nat)),vs = [.ref x,.ref p,.ref p']∧Za C H x a b S S'∧bV CR H p m c ps∧Good c ps∧bV CR H p' m' c qs∧Good c qs ∧
 ∀ H',Same H H'→Q (.bl (Qp ps qs S S')) H'
def aaK (C CR:Addr):Sp:=fun vs H Q _=>∃ (x a b p m p' m':Addr) (c sd pl:Nat) (ps qs:List (Nat×Nat)) (r1 r2:List Nat),vs = [.ref x,.ref p,.ref p']∧DW C H x a b sd pl r1 r2∧bV CR H p m c ps∧Good c ps∧bV CR H p' m' c qs∧Good c qs ∧
 ∀ H',Same H H'→Q (.bl (p6 c ps qs sd pl r1 r2)) H'
section
variable {P:Program} {w:World} {K:W.Frag} {mg:Str→Option Value} {base:Heap} {A:Adr}
theorem ac5 (T:Txt K mg A):FnOk P w K mg base CX0 1 A.iK A.Dq ["self", "side", "place", "one", "other"] (ac4 A.cA):=by
 refine T.aft.ok acP (fun vs H Q E h=>?_) (fun cdv A' outer s H vs Q E hr h=>?_)
 ·obtain⟨p,dx,l,m,sd,pl,r1,r2,rfl,_⟩:=h;rfl
 ·obtain⟨p,dx,l,m,sd,pl,r1,r2,rfl,hp,hl,hm,k⟩:=h
  refine⟨_,(aq (jY K (pv 0) (pv 1))
   (aq (jY K (pv 0) (pv 2))
   (aq (jY K (pv 0) (cC (cg K) rfl T.dZ dh (aj (pv 3) ao)))
   (aB (jY K (pv 0) (cC (cg K) rfl T.dZ dh (aj (pv 4) ao))))))),?_⟩
  have nlp:l≠p:=iG hl hp (by intro z;cases z)
  have nmp:m≠p:=iG hm hp (by intro z;cases z)
  refine⟨_,rfl,_,rfl,p,A.cA,dx,[],rfl,hp,T.gb,T.gQ,by show 0 < 1000;decide,?_⟩
  refine⟨_,rfl,_,rfl,p,A.cA,dx,_,rfl,au,T.gb,T.ig,by show 1 < 1000;decide,?_⟩
  have kp2:∀ b,b≠p→(upd (upd H p (.ins A.cA dx (putF "side" (.int (sd:Nat)) []))) p (.ins A.cA dx (putF "place" (.int (pl:Nat)) (putF "side" (.int (sd:Nat)) [])))) b=H b:=fun b n=>by rw[aG n,aG n]
  have hp2:(upd (upd H p (.ins A.cA dx (putF "side" (.int (sd:Nat)) []))) p (.ins A.cA dx (putF "place" (.int (pl:Nat)) (putF "side" (.int (sd:Nat)) [])))) p=some (.ins A.cA dx (putF "place" (.int (pl:Nat)) (putF "side" (.int (sd:Nat)) []))):=au
  generalize upd (upd H p (.ins A.cA dx (putF "side" (.int (sd:Nat)) []))) p (.ins A.cA dx (putF "place" (.int (pl:Nat)) (putF "side" (.int (sd:Nat)) [])))=H2 at kp2 hp2 ⊢
  have hl2:H2 l=some (.lst (nums r1)):=by rw[kp2 l nlp];exact hl
  have hm2:H2 m=some (.lst (nums r2)):=by rw[kp2 m nmp];exact hm
  refine⟨_,rfl,l,nums r1,rfl,.inl (SqL.of hl2),fun a ha=>⟨_,rfl,p,A.cA,dx,_,rfl,Same.new ha _ _ hp2,T.gb,T.jM,by show 2 < 1000;decide,?_⟩⟩
  have npa:a≠p:=fun z=>by rw[z,hp2] at ha;cases ha
  have haH:H a=none:=by rw[← kp2 a npa];exact ha
  have hm4:(upd (upd H2 a (.lst (nums r1))) p (.ins A.cA dx (putF "one" (.ref a) (putF "place" (.int (pl:Nat)) (putF "side" (.int (sd:Nat)) []))))) m=some (.lst (nums r2)):=by rw[aG nmp];exact Same.new ha _ _ hm2
  have ha4:(upd (upd H2 a (.lst (nums r1))) p (.ins A.cA dx (putF "one" (.ref a) (putF "place" (.int (pl:Nat)) (putF "side" (.int (sd:Nat)) []))))) a=some (.lst (nums r1)):=by rw[aG npa,au]
  refine⟨_,rfl,m,nums r2,rfl,.inl (SqL.of hm4),fun b hb=>⟨_,rfl,p,A.cA,dx,_,rfl,Same.new hb _ _ au,T.gb,T.jx,by show 3 < 1000;decide,?_⟩⟩
  have nbp:b≠p:=fun z=>by rw[z,au] at hb;cases hb
  have nab:a≠b:=aL ha4 hb
  have hbH:H b=none:=by
   rw[aG nbp,aG nab.symm] at hb
   rw[← kp2 b nbp];exact hb
  refine k a b _ haH hbH nab ⟨⟨dx,au⟩,by rw[aG npa,aG nab];exact ha4,by rw[aG nbp,au]⟩ fun q o hq hqp=>?_
  rw[aG hqp,aG (aL hq hbH),aG hqp,aG (aL hq haH),kp2 q hqp]
  exact hq
theorem IV (T:Txt K mg A):FnOk P w K mg base CX0 9 A.gK A.Ah ["self", "one", "other"] (aaJ A.cM A.bB):=by
 have aaL:=aia (P:=P) (w:=w) (base:=base) T
 refine T.acT.ok Z0 (fun vs H Q E h=>?_) (fun cdv A' outer s H vs Q E hr h=>?_)
 ·obtain⟨x,a,b,p,m,p',m',c,ps,qs,S,S',rfl,_⟩:=h;rfl
 ·obtain⟨x,a,b,p,m,p',m',c,ps,qs,S,S',rfl,⟨⟨dx,hx⟩,ha,hb⟩,hR,hG,hR',hG',k⟩:=h
  obtain⟨⟨dp,hp⟩,_⟩:=id hR
  obtain⟨⟨dp',hp'⟩,_⟩:=id hR'
  refine⟨_,(aq (bN (bA GP (aR K (pv 1)) (aR K (pv 2)) (bF _)) (aB (aM cH)) aU)
   (aB (aM (pX (aC aaL (hr.mono (by decide)) rfl T.aan T.Qj.kp T.aam .nil aH (aj (aR K (pv 0)) (aj (pv 1) (aj (pv 2) ao)))) (qF (aC aaL (hr.mono (by decide)) rfl T.aan T.Qj.kp T.aam .nil aH (aj (aR K (pv 0)) (aj (pv 2) (aj (pv 1) ao))))))))),?_⟩
  refine⟨_,rfl,p,A.bB,dp,_,_,rfl,hp,T.bL,T.bx,cJ _ _,_,rfl,p',A.bB,dp',_,_,rfl,hp',T.bL,T.bx,cJ _ _,rfl,_,rfl,?_⟩
  refine ite2 (fun e=>absurd e (by simp)) (fun _=>?_)
  refine⟨_,rfl,x,A.cM,dx,_,_,rfl,hx,T.lH,T.dX,wW _ _,_,rfl,_,rfl,a,p,m,p',m',c,c,ps,qs,S,rfl,ha,hR,hG.2.2.1,hR',fun H1 s1=>⟨_,rfl,?_⟩⟩
  refine ite2 (fun e=>?_) (fun e=>?_)
  ·refine⟨_,rfl,x,A.cM,dx,_,_,rfl,s1 _ _ hx,T.lH,T.jk,V7 _ _,_,rfl,_,rfl,b,p',m',p,m,c,c,qs,ps,S',rfl,hb.same s1,hR'.same s1,hG'.2.2.1,hR.same s1,fun H2 s2=>?_⟩
   have z:=k H2 (s1.trans s2)
   unfold Qp at z
   rw[e,Bool.true_and] at z
   exact z
  ·have e':allB qs ps S=false:=by simpa using e
   have z:=k H1 s1
   unfold Qp at z
   rw[e',Bool.false_and] at z
   exact z
theorem aaM (T:Txt K mg A):FnOk P w K mg base CX0 9 A.gM A.Ai ["self", "one", "other"] (aaK A.cA A.bB):=by
 have iu:=nZ (P:=P) (w:=w) (base:=base) T
 have pZ:=Iu (P:=P) (w:=w) (base:=base) T
 have Bb:=Iv (P:=P) (w:=w) (base:=base) T
 have aV:=cB (P:=P) (w:=w) (base:=base) T
 refine T.acU.ok wM (fun vs H Q E h=>?_) (fun cdv A' outer s H vs Q E hr h=>?_)
 ·obtain⟨x,a,b,p,m,p',m',c,sd,pl,ps,qs,r1,r2,rfl,_⟩:=h;rfl
 ·obtain⟨x,a,b,p,m,p',m',c,sd,pl,ps,qs,r1,r2,rfl,⟨⟨dx,hx⟩,ha,hb⟩,hR,hG,hR',hG',k⟩:=h
  obtain⟨⟨dp,hp⟩,_⟩:=id hR
  obtain⟨⟨dp',hp'⟩,_⟩:=id hR'
  refine⟨_,(aq (bN (PW.pt (kI (bA GP (aR K (pv 1)) (aR K (pv 2)) (bF _)) (lF (bY (bG (aC iu (hr.mono (by decide)) rfl T.qz T.nG.kp T.qy .nil aH (aj (aR K (pv 0)) (aj aA (aj aA ao))))))))) (aB (aM cH)) aU)
   (aq (aQ (i:=3) wM.nd rfl (Or.inl rfl) (G8 (bA mO (aR K (pv 0)) aA (bF _)) (eG (pv 1) T.bL T.bH aV (hr.mono (by decide)) T.bO .nil aH) (eG (pv 2) T.bL T.bH aV (hr.mono (by decide)) T.bO .nil aH)))
   (aq (bN (bY (bG (aC pZ (hr.mono (by decide)) rfl T.wQ T.rT.kp T.wO .nil aH (aj (aR K (pv 0)) (aj (pv 3) ao))))) (aB (aM cH)) aU)
   (aq (aQ (i:=4) wM.nd rfl (Or.inl rfl) (G8 (bA mO (aR K (pv 0)) aA (bF _)) (pv 2) (pv 1)))
   (aB (aM (aC Bb (hr.mono (by decide)) rfl T.MT T.Ax.kp T.MP .nil aH (aj (cD (aj (aR K (pv 0)) (aj (aR K (pv 0)) ao))) (aj (pv 4) (aj (bh (aN K) (pv 3) (aR K (pv 0)) (fun _ _=>rfl)) ao)))))))))),?_⟩
  have no:∀ H',Same H H'→p6 c ps qs sd pl r1 r2=false→Q (.bl false) H':=fun H' s' e=>by
   have z:=k H' s'
   rw[e] at z
   exact z
  refine⟨_,rfl,p,A.bB,dp,_,_,rfl,hp,T.bL,T.bx,cJ _ _,_,rfl,p',A.bB,dp',_,_,rfl,hp',T.bL,T.bx,cJ _ _,rfl,_,rfl,?_⟩
  refine ite2 (fun e=>absurd e (by simp)) (fun _=>?_)
  refine⟨_,rfl,x,A.cA,dx,_,_,rfl,hx,T.gb,T.gQ,Lh _ _ _ _,(sd:Int),0,1,rfl,_,rfl,?_⟩
  have e01:(decide ((0:Int)≤(sd:Int)) && decide ((sd:Int)≤1))=decide (sd≤1):=by
   rw[decide_eq_true (Int.natCast_nonneg sd),Bool.true_and]
   exact decide_eq_decide.mpr (by omega)
  rw[e01]
  by_cases hs:sd≤1
  ·rw[decide_eq_true hs]
   refine iteF ?_
   refine⟨_,rfl,x,A.cA,dx,_,_,rfl,hx,T.gb,T.gQ,Lh _ _ _ _,rfl,_,rfl,?_⟩
   suffices rest:∀ (d:Addr) (us:List Addr) (H1:Hp),Same H H1→H1 d=some (.lst (us.map V.ref))→Tps H1 us (if sd=0 then ps else qs)→tSeq _ _ { nx:=fun x H'=>Q V.non H',rt:=Q } [some (.ref x),some (.ref p),some (.ref p'),some (.ref d),none] H1 by
    refine ite2 (fun e=>?_) (fun e=>?_)
    ·have e':sd=0:=by have:=of_decide_eq_true e;injection this with this;omega
     refine⟨_,rfl,p,dp,_,rfl,hp,iB _ _ (by decide +kernel) (by decide +kernel),p,m,c,ps,rfl,hR,fun d us hd htp=>?_⟩
     exact rest d us _ (Same.new hd) au (by rw[if_pos e'];exact htp.same (Same.new hd))
    ·have e':¬ sd=0:=fun z=>e (decide_eq_true (by rw[z];rfl))
     refine⟨_,rfl,p',dp',_,rfl,hp',iB _ _ (by decide +kernel) (by decide +kernel),p',m',c,qs,rfl,hR',fun d us hd htp=>?_⟩
     exact rest d us _ (Same.new hd) au (by rw[if_neg e'];exact htp.same (Same.new hd))
   intro d us H1 s1 hd1 htp1
   have hlu:(us.map V.ref).length=(if sd=0 then ps else qs).length:=by rw[List.length_map];exact htp1.len
   refine⟨_,rfl,x,A.cA,dx,_,_,rfl,s1 _ _ hx,T.gb,T.ig,Qo _ _ _ _,_,rfl,pl,d,_,rfl,hd1,_,rfl,?_⟩
   rw[hlu]
   by_cases hpl:pl<(if sd=0 then ps else qs).length
   ·rw[decide_eq_true hpl]
    refine iteF ?_
    have hpt:(us.map V.ref)[pl]? = some (.ref (us[pl]'(by rw[List.length_map] at hlu;omega))):=by rw[List.getElem?_map,List.getElem?_eq_getElem (by rw[List.length_map] at hlu;omega)];rfl
    obtain⟨t,q,et,hq,ht⟩:=htp1.get hpt
    rw[et] at hpt
    have hgq:(if sd=0 then ps else qs).getD pl (0,0)=q:=by simp only [List.getD,hq,Option.getD_some]
    have hGs:Good c (if sd=0 then qs else ps):=by split <;> assumption
    have hGo:Good c (if sd=0 then ps else qs):=by split <;> assumption
    have hq64:=hGo.2.2.2 q (List.mem_of_getElem? hq)
    have h64:2 ^ c≤64:=Nat.pow_le_pow_right (by decide) hGo.2.1
    suffices rest:∀ (kp km:Addr),bV A.bB H kp km c (if sd=0 then qs else ps)→tSeq _ _ { nx:=fun x H'=>Q V.non H',rt:=Q } [some (.ref x),some (.ref p),some (.ref p'),some (.ref d),some (.ref kp)] H1 by
     refine⟨_,rfl,x,A.cA,dx,_,_,rfl,s1 _ _ hx,T.gb,T.gQ,Lh _ _ _ _,rfl,_,rfl,?_⟩
     refine ite2 (fun e=>?_) (fun e=>?_)
     ·have e':sd=0:=by have:=of_decide_eq_true e;injection this with this;omega
      exact⟨_,rfl,rest p' m' (by rw[if_pos e'];exact hR')⟩
     ·have e':¬ sd=0:=fun z=>e (decide_eq_true (by rw[z];rfl))
      exact⟨_,rfl,rest p m (by rw[if_neg e'];exact hR)⟩
    intro kp km hK
    refine⟨_,rfl,x,A.cA,dx,_,_,rfl,s1 _ _ hx,T.gb,T.jM,aaI _ _ _ _,_,rfl,x,A.cA,dx,_,_,rfl,s1 _ _ hx,T.gb,T.jx,aaH _ _ _ _,by show 2≤sizeLine;decide,fun l hl=>?_⟩
    have s2:Same H1 (upd H1 l (.lst [.ref a,.ref b])):=Same.new hl
    have s02:=s1.trans s2
    refine⟨_,rfl,_,rfl,_,rfl,x,A.cA,dx,_,_,rfl,s02 _ _ hx,T.gb,T.ig,Qo _ _ _ _,d,_,(pl:Int),_,rfl,rfl,SqL.of (s2 _ _ hd1),bJ hpt,l,kp,km,t,c,[r1,r2],_,q,rfl,⟨[a,b],au,s02 _ _ ha,s02 _ _ hb,trivial⟩,hK.same s02,hGs,s2 _ _ ht,by omega,by omega,fun H3 s3=>?_⟩
    have z:=k H3 (s02.trans s3)
    unfold p6 at z
    rw[decide_eq_true hs,decide_eq_true hpl,hgq] at z
    exact z
   ·rw[decide_eq_false hpl]
    refine iteT (no H1 s1 ?_)
    unfold p6
    rw[decide_eq_false hpl,Bool.false_and,Bool.and_false]
  ·rw[decide_eq_false hs]
   refine iteT (no H (Same.refl _) ?_)
   unfold p6
   rw[decide_eq_false hs,Bool.false_and]
end
end K12
namespace K12
open PySem L2 TC
def trip (q:Nat×Nat×Nat):List V:=[.int (q.1:Nat),.int (q.2.1:Nat),.int (q.2.2:Nat)]
def Trs (H:Hp):List Addr→List (Nat×Nat×Nat)→Prop
 | [],[]=>True
 | t::ts,q::L=>H t=some (.tup (trip q))∧Trs H ts L
 | _,_=>False
theorem Trs.same {H H':Hp} (e:Same H H'):∀ {ts:List Addr} {L:List (Nat×Nat×Nat)},Trs H ts L→Trs H' ts L
 | [],[],_=>trivial
 | _::_,_::_,⟨h,t⟩=>⟨e _ _ h,Trs.same e t⟩
 | [],_::_,h=>h.elim
 | _::_,[],h=>h.elim
theorem Trs.len {H:Hp}:∀ {ts:List Addr} {L:List (Nat×Nat×Nat)},Trs H ts L→ts.length=L.length
 | [],[],_=>rfl
 | _::_,_::_,⟨_,t⟩=>congrArg (· + 1) (Trs.len t)
 | [],_::_,h=>h.elim
 | _::_,[],h=>h.elim
theorem Trs.get {H:Hp}:∀ {ts:List Addr} {L:List (Nat×Nat×Nat)} {i:Nat} {v:V},Trs H ts L→(ts.map V.ref)[i]? = some v→∃ t q,v = .ref t∧L[i]? = some q∧H t=some (.tup (trip q))
 | [],[],i,v,_,h=>by simp at h
 | t::_,p::_,0,v,⟨h,_⟩,e=>⟨t,p,by simpa using e.symm,by simp,h⟩
 | _::_,_::_,i+1,v,⟨_,t⟩,e=>by
  obtain⟨a,b,h1,h2,h3⟩:=Trs.get (i:=i) t (by simpa using e)
  exact⟨a,b,h1,by simpa using h2,h3⟩
 | [],_::_,_,_,h,_=>h.elim
 | _::_,[],_,_,h,_=>h.elim
theorem Trs.snoc {H:Hp} {t:Addr} {q:Nat×Nat×Nat} (e:H t=some (.tup (trip q))):∀ {ts:List Addr} {L:List (Nat×Nat×Nat)},Trs H ts L→Trs H (ts++[t]) (L++[q])
 | [],[],_=>⟨e,trivial⟩
 | _::_,_::_,⟨h,r⟩=>⟨h,Trs.snoc e r⟩
 | [],_::_,h=>h.elim
 | _::_,[],h=>h.elim
theorem Trs.upd {H:Hp} {a:Addr} {xs:List V} {o:HO} (ha:H a=some (.lst xs)):∀ {ts:List Addr} {L:List (Nat×Nat×Nat)},Trs H ts L→Trs (upd H a o) ts L
 | [],[],_=>trivial
 | _::_,_::_,⟨h,t⟩=>⟨by rw[aG (iG h ha (by intro z;cases z))];exact h,Trs.upd ha t⟩
 | [],_::_,h=>h.elim
 | _::_,[],h=>h.elim
def Xf (H:Hp) (l:Addr) (L:List (Nat×Nat×Nat)):Prop:=∃ ts:List Addr,H l=some (.lst (ts.map V.ref))∧Trs H ts L
theorem Xf.same {H H':Hp} (e:Same H H') {l:Addr} {L:List (Nat×Nat×Nat)}:Xf H l L→Xf H' l L:=fun ⟨ts,h,t⟩=>⟨ts,e _ _ h,t.same e⟩
def okS (ps:List (Nat×Nat)) (S:List (List Nat)) (q:Nat×Nat×Nat):Bool:=decide (q.1 < ps.length) && (decide (q.2.1 < S.length) && (decide (q.2.2 < S.length) && decide (aK (S.getD q.2.1 []) (ps.getD q.1 (0,0)).1=aK (S.getD q.2.2 []) (ps.getD q.1 (0,0)).1)))
def doS (c:Nat) (ps:List (Nat×Nat)) (S:List (List Nat)) (q:Nat×Nat×Nat):List (List Nat):=dG c (ps.getD q.1 (0,0)).2 q.2.1 q.2.2 S
def runS (c:Nat) (ps:List (Nat×Nat)):List (Nat×Nat×Nat)→List (List Nat)→Option (List (List Nat))
 | [],S=>some S
 | q::L,S=>if okS ps S q=true then runS c ps L (doS c ps S q) else none
theorem yr (c:Nat) (ps:List (Nat×Nat)):∀ (A B:List (Nat×Nat×Nat)) (S:List (List Nat)),runS c ps (A++B) S=(runS c ps A S).bind (runS c ps B)
 | [],_,_=>rfl
 | q::A,B,S=>by
  show(if okS ps S q=true then runS c ps (A++B) (doS c ps S q) else none)=(if okS ps S q=true then runS c ps A (doS c ps S q) else none).bind _
  by_cases h:okS ps S q=true
  ·rw[if_pos h,if_pos h];exact yr c ps A B _
  ·rw[if_neg h,if_neg h];rfl
theorem aaN {c:Nat} {ps:List (Nat×Nat)} {S:List (List Nat)} {q:Nat×Nat×Nat} (h:okS ps S q=true):runS c ps [q] S=some (doS c ps S q):=if_pos h
theorem aeo {c:Nat} {ps:List (Nat×Nat)} {L:List (Nat×Nat×Nat)} {i:Nat} {q:Nat×Nat×Nat} {S:List (List Nat)} (h:L[i]? = some q):runS c ps (L.take (i+1)) S=(runS c ps (L.take i) S).bind (runS c ps [q]):=by
 rw[List.take_add_one,h];exact yr c ps _ _ _
theorem ak6 {c:Nat} {ps:List (Nat×Nat)} {L:List (Nat×Nat×Nat)} {i:Nat} {S:List (List Nat)} (h:runS c ps (L.take i) S=none):runS c ps L S=none:=by
 have:runS c ps (L.take i++L.drop i) S=none:=by rw[yr,h];rfl
 rwa [List.take_append_drop] at this
def R4 (c:Nat) (ps:List (Nat×Nat)) (pts:List Nat) (L:List (Nat×Nat×Nat)):Bool:=match runS c ps L (fO c pts) with
 | some S=>decide (List.replicate c 0∈S)
 | none=>false
theorem aib {c:Nat} {ps:List (Nat×Nat)} {pts:List Nat} {L:List (Nat×Nat×Nat)} (h:runS c ps L (fO c pts)=none):R4 c ps pts L=false:=by unfold R4;rw[h]
theorem aaO {c:Nat} {ps:List (Nat×Nat)} {pts:List Nat} {L:List (Nat×Nat×Nat)} {S:List (List Nat)} (h:runS c ps L (fO c pts)=some S):R4 c ps pts L=decide (List.replicate c 0∈S):=by unfold R4;rw[h]
def Shp (c n:Nat) (S:List (List Nat)):Prop:=S.length=n∧∀ x∈S,x.length=c
theorem Shp.ahB (c:Nat) (pts:List Nat):Shp c pts.length (fO c pts):=⟨Px c pts,ajv⟩
theorem Shp.step {c n r i k:Nat} {S:List (List Nat)} (h:Shp c n S):Shp c n (dG c r i k S):=⟨by rw[j9];exact h.1,aea⟩
theorem Shp.run {c n:Nat} {ps:List (Nat×Nat)}:∀ {L:List (Nat×Nat×Nat)} {S S':List (List Nat)},Shp c n S→runS c ps L S=some S'→Shp c n S'
 | [],S,S',h,e=>by cases e;exact h
 | q::L,S,S',h,e=>by
  have e':(if okS ps S q=true then runS c ps L (doS c ps S q) else none)=some S':=e
  by_cases z:okS ps S q=true
  ·rw[if_pos z] at e'
   exact Shp.run (L:=L) (S:=doS c ps S q) (Shp.step h) e'
  ·rw[if_neg z] at e';cases e'
theorem getD_mem {S:List (List Nat)} {i:Nat} (h:i<S.length):S[i]? = some (S.getD i []):=by simp [List.getD,h]
def mkB (S:List (List Nat)) (pts:List Nat) (r:List Nat):Bool:=pts.all fun p=>decide (aK r p∈S.map fun x=>aK x p)
def oO (c:Nat) (ps:List (Nat×Nat)) (pts:List Nat) (S:List (List Nat)) (r:List Nat):Bool:=tabB c S && (rowB c r && (!decide (r∈S) && ((ps.all fun p=>decide (Keeps S p)) && mkB S pts r)))
def rowD (r:List Nat):PyData:=.list (r.map fun n=>PyData.int (n:Nat))
theorem ak7 {H:Hp}:∀ {ts:List Addr} {rs:List (List Nat)},Rws H ts rs→Dts H (ts.map V.ref) (rs.map rowD)
 | [],[],_=>.nil
 | _::_,_::_,⟨h,t⟩=>.cons (.lst h (RW _)) (ak7 t)
 | [],_::_,h=>h.elim
 | _::_,[],h=>h.elim
theorem su {H:Hp} {l:Addr} {rs:List (List Nat)}:iw H l rs→Dt H (.ref l) (.list (rs.map rowD)):=fun ⟨_,h,t⟩=>.lst h (ak7 t)
theorem iz:∀ rs:List (List Nat),PyData.canLayAll0 (rs.map rowD)=true
 | []=>rfl
 | r::rs=>by
  show(PyData.canLayAll0 (r.map fun n=>PyData.int (n:Nat)) && PyData.canLayAll0 (rs.map rowD))=true
  rw[iz rs,Cq r];rfl
theorem DX:∀ rs:List (List Nat),PyData.depthAll (rs.map rowD)≤2
 | []=>Nat.zero_le _
 | r::rs=>Nat.max_le.mpr ⟨by
   show PyData.depthAll (r.map fun n=>PyData.int (n:Nat))+1≤2
   have:=wU r
   omega,DX rs⟩
def aj0:Sp:=fun vs H Q _=>∃ (v a b:Nat),vs = [.int (v:Nat),.int (a:Nat),.int (b:Nat)]∧Q (.int (low a b v:Nat)) H
def ac6:Sp:=fun vs H Q _=>∃ (l:Addr) (c r i k:Nat) (S:List (List Nat)),vs = [.ref l,.int (r:Nat),.int (i:Nat),.int (k:Nat)]∧iw H l S∧c≤6∧S.length≤64∧(∀ x∈S,x.length=c)∧i<S.length∧k<S.length∧r < 64 ∧
 ∀ (d:Addr) (H':Hp),H d=none→Same H H'→afJ H H' d (dG c r i k S)→Q (.ref d) H'
theorem Cr {x:List Nat} {j:Nat} (h:j<x.length):(nums x)[j]? = some (.int (x.getD j 0:Nat)):=by unfold nums;rw[List.getElem?_map,getD_at h];rfl
theorem Rws.at {H:Hp} {ts:List Addr} {S:List (List Nat)} (h:Rws H ts S) {i:Nat} {x:List Nat} (e:S[i]? = some x):∃ t,(ts.map V.ref)[i]? = some (.ref t)∧H t=some (.lst (nums x)):=by
 have hi:i<ts.length:=by rw[h.len];exact(List.getElem?_eq_some_iff.mp e).1
 have e2:(ts.map V.ref)[i]? = some (.ref ts[i]):=by rw[List.getElem?_map,List.getElem?_eq_getElem hi];rfl
 obtain⟨t,y,a,b,q⟩:=h.get e2
 rw[e] at b
 cases b
 rw[a] at e2
 exact⟨t,e2,q⟩
section
variable {P:Program} {w:World} {K:W.Frag} {mg:Str→Option Value} {base:Heap} {A:Adr}
theorem aj1 (T:Txt K mg A):FnOk P w K mg base CX0 1 A.qm A.VF ["number", "one", "other"] aj0:=by
 refine T.aed.ok ajB (fun vs H Q E h=>?_) (fun cdv A' outer s H vs Q E hr h=>?_)
 ·obtain⟨v,a,b,rfl,_⟩:=h;rfl
 ·obtain⟨v,a,b,rfl,k⟩:=h
  refine⟨_,(aB (aM (G8 (PW.pt (kI (bA mO (pv 0) (pv 1) (bF _)) (lF (bA mO (pv 0) (pv 2) (bF _))))) (aW (aly rfl) rfl T.aei anp (aj (pv 1) (aj (pv 2) ao))) (pv 0)))),?_⟩
  have em:(if ((b:Nat):Int)<((a:Nat):Int) then ((b:Nat):Int) else ((a:Nat):Int))=((min a b:Nat):Int):=by split <;> omega
  refine⟨_,rfl,_,rfl,rfl,_,rfl,?_⟩
  refine ite2 (fun e=>?_) (fun e=>?_)
  ·have e':v=a:=by have:=of_decide_eq_true e;injection this with this;omega
   refine iteT ⟨_,rfl,_,rfl,(a:Int),(b:Int),rfl,?_⟩
   rw[em]
   unfold low at k
   rwa [if_pos (.inl e')] at k
  have e1:¬ v=a:=fun z=>e (decide_eq_true (by rw[z]))
  refine⟨_,rfl,_,rfl,rfl,_,rfl,?_⟩
  refine ite2 (fun e=>?_) (fun e=>?_)
  ·have e':v=b:=by have:=of_decide_eq_true e;injection this with this;omega
   refine⟨_,rfl,_,rfl,(a:Int),(b:Int),rfl,?_⟩
   rw[em]
   unfold low at k
   rwa [if_pos (.inr e')] at k
  have e2:¬ v=b:=fun z=>e (decide_eq_true (by rw[z]))
  unfold low at k
  rw[if_neg (fun z=>z.elim e1 e2)] at k
  exact⟨_,rfl,k⟩
theorem M7 (T:Txt K mg A):FnOk P w K mg base CX0 3 A.jG A.Dk ["sheet", "right", "one", "other"] ac6:=by
 have amf:=aj1 (P:=P) (w:=w) (base:=base) T
 refine T.Dy.ok lW (fun vs H Q E h=>?_) (fun cdv A' outer s H vs Q E hr h=>?_)
 ·obtain⟨l,c,r,i,k,S,rfl,_⟩:=h;rfl
 ·obtain⟨l,c,r,i,k,S,rfl,⟨ts,hl,hR⟩,hc6,h64,hw,hi,hk,hr64,q⟩:=h
  have hln:(ts.map V.ref).length=S.length:=by rw[List.length_map];exact hR.len
  have hf:=getD_mem hi
  have hg:=getD_mem hk
  obtain⟨tf,ef,hf'⟩:=hR.at hf
  obtain⟨tg,eg,hg'⟩:=hR.at hg
  have wf:=hw _ (List.mem_of_getElem? hf)
  have wg:=hw _ (List.mem_of_getElem? hg)
  generalize hF:S.getD i [] = f at hf hf' wf
  generalize hG:S.getD k [] = g at hg hg' wg
  refine⟨_,(aq (aQ (i:=4) lW.nd rfl (Or.inr rfl) (bh (aN K) (pv 0) (pv 2) (fun _ _=>rfl)))
   (aq (aQ (i:=5) lW.nd rfl (Or.inr rfl) (bh (aN K) (pv 0) (pv 3) (fun _ _=>rfl)))
   (aq (aQ (i:=6) lW.nd rfl (Or.inl rfl) (cD ao))
   (aq (dR PassesOwn.never rfl (bI K (pv 0)) (aO (i:=7) lW.nd rfl (Or.inr rfl))
   (aq (aQ (i:=8) lW.nd rfl (Or.inr rfl) (cP ["sheet", "right", "one", "other", "first", "second", "stepped", "row", "fallen"] (ak d8) ["column", "row", "first", "second"] [none,some 7,some 4,some 5] ⟨rfl,by decide +kernel,by decide +kernel,by decide +kernel,by decide +kernel,by decide +kernel⟩ rfl (cN rfl T.dO (aj (aW (bM K) rfl T.gh dH (aj (pv 7) ao)) ao)) (fun _ _ _ _ _=>(aO (i:=0) (by show List.Nodup (["column", "row", "first", "second"]:List Str);decide +kernel) rfl (Or.inl rfl) (Or.inr rfl))) (fun _ _ _ _ _=>cG) (fun _ _ _ _ _=>(aC amf (hr.mono (by decide)) rfl T.al4 T.aed.kp T.al3 .nil aH (aj (bh (aN K) (pv 1) (pv 0) (fun _ _=>rfl)) (aj (bh (aN K) (pv 2) (pv 0) (fun _ _=>rfl)) (aj (bh (aN K) (pv 3) (pv 0) (fun _ _=>rfl)) ao)))))))
   (aB (cQ (cF K (pv 6) (aj (cP ["sheet", "right", "one", "other", "first", "second", "stepped", "row", "fallen"] (ak d8) ["column", "right", "fallen", "row"] [none,some 1,some 8,some 7] ⟨rfl,by decide +kernel,by decide +kernel,by decide +kernel,by decide +kernel,by decide +kernel⟩ rfl (cN rfl T.dO (aj (aW (bM K) rfl T.gh dH (aj (pv 7) ao)) ao)) (fun _ _ _ _ _=>(aO (i:=0) (by show List.Nodup (["column", "right", "fallen", "row"]:List Str);decide +kernel) rfl (Or.inl rfl) (Or.inr rfl))) (fun _ _ _ _ _=>cG) (fun _ _ _ _ _=>(G8 (Vw K (bw CZ (pv 1) (bw CV aA (pv 0)))) (bh (aN K) (pv 2) (pv 0) (fun _ _=>rfl)) (bh (aN K) (pv 3) (pv 0) (fun _ _=>rfl))))) ao))))))
   (aB (aM (pv 6))))))),?_⟩
  refine⟨_,rfl,_,rfl,l,_,(i:Int),_,rfl,rfl,SqL.of hl,bJ ef,?_⟩
  refine⟨_,rfl,_,rfl,l,_,(k:Int),_,rfl,rfl,SqL.of hl,bJ eg,?_⟩
  refine⟨Nat.zero_le _,fun B hB=>?_⟩
  have s0:Same H (upd H B (.lst [])):=Same.new hB
  refine⟨_,rfl,l,rfl,⟨_,SqL.of (s0 _ _ hl)⟩,f9 (K:=K) (a:=l) (xs:=ts.map V.ref) (fun m σ' H'=>Same H H'∧m≤S.length∧(∃ us:List Addr,H' B=some (.lst (us.map V.ref))∧Rws H' us ((S.take m).map (dI c r f g))∧(∀ t∈us,H t=none∧t≠B)∧us.Nodup)∧∃ o7 o8:Option V,σ' = [some (.ref l),some (.int (r:Nat)),some (.int (i:Nat)),some (.int (k:Nat)),some (.ref tf),some (.ref tg),some (.ref B),o7,o8])
   ⟨s0,Nat.zero_le _,⟨[],au,trivial,fun t ht=>by simp at ht,List.nodup_nil⟩,none,none,rfl⟩ (fun m σ' H' _ ⟨e,_⟩=>SqL.of (e _ _ hl)) ?_ ?_⟩
  ·rintro m v σ' H1 hv ⟨s1,hm,⟨us,hB1,hU,hn,hnd⟩,o7,o8,rfl⟩
   obtain⟨t,x,rfl,hx,ht⟩:=(hR.same s1).get hv
   have hmS:m<S.length:=(List.getElem?_eq_some_iff.mp hx).1
   have wx:=hw x (List.mem_of_getElem? hx)
   refine⟨_,rfl,t,_,rfl,.inl (SqL.of ht),((nums x).length:Int),rfl,by rw[aY];omega,by rw[aY];omega,fun D hD=>?_⟩
   rw[aY,wx,Int.toNat_natCast]
   refine jm (lo:=0) (n:=c) (fun j ys H'=>Same H1 H'∧j≤c∧ys=nums ((List.range j).map fun j=>low (f.getD j 0) (g.getD j 0) (x.getD j 0))) ⟨Same.new hD,Nat.zero_le _,rfl⟩ ?_ ?_
   ·rintro j ys H2 hj ⟨s2,_,rfl⟩ hDl
    rw[Int.zero_add]
    have s12:=s1.trans s2
    refine dF ?_
    refine⟨_,rfl,_,rfl,t,_,(j:Int),_,rfl,rfl,SqL.of (s2 _ _ ht),bJ (Cr (by omega)),_,rfl,_,rfl,tf,_,(j:Int),_,rfl,rfl,SqL.of (s12 _ _ hf'),bJ (Cr (by omega)),_,rfl,_,rfl,tg,_,(j:Int),_,rfl,rfl,SqL.of (s12 _ _ hg'),bJ (Cr (by omega)),x.getD j 0,f.getD j 0,g.getD j 0,rfl,?_⟩
    refine CE1.mk hDl (aP (by rw[aY,List.length_map,List.length_range];omega)) ⟨Same.up s2 hD,hj,?_⟩
    rw[List.range_succ,List.map_append]
    show _=nums (_++[low (f.getD j 0) (g.getD j 0) (x.getD j 0)])
    rw[gq]
   rintro ys H2 ⟨s2,_,rfl⟩ hDl
   generalize hE:(List.range c).map (fun j=>low (f.getD j 0) (g.getD j 0) (x.getD j 0))=fl at hDl
   have hfl:fl.length=c:=by rw[← hE,List.length_map,List.length_range]
   have hat:∀ j,j<c→fl.getD j 0=low (f.getD j 0) (g.getD j 0) (x.getD j 0):=fun j hj=>by
    rw[← hE];simp [List.getD,hj]
   have hB2:=s2 _ _ hB1
   have ht2:=s2 _ _ ht
   refine⟨_,rfl,.inl ⟨rfl,_,SqL.of hB2⟩,_,rfl,t,_,rfl,.inl (SqL.of ht2),((nums x).length:Int),rfl,by rw[aY];omega,by rw[aY];omega,fun D' hD'=>?_⟩
   rw[aY,wx,Int.toNat_natCast]
   refine jm (lo:=0) (n:=c) (fun j ys H'=>Same H2 H'∧j≤c∧ys=nums ((List.range j).map fun j=>if r.testBit j=true then low (f.getD j 0) (g.getD j 0) (x.getD j 0) else x.getD j 0)) ⟨Same.new hD',Nat.zero_le _,rfl⟩ ?_ ?_
   ·rintro j ys H3 hj ⟨s3,_,rfl⟩ hDl'
    rw[Int.zero_add]
    have es:(List.range (j+1)).map (fun j=>if r.testBit j=true then low (f.getD j 0) (g.getD j 0) (x.getD j 0) else x.getD j 0)=(List.range j).map (fun j=>if r.testBit j=true then low (f.getD j 0) (g.getD j 0) (x.getD j 0) else x.getD j 0)++[if r.testBit j=true then low (f.getD j 0) (g.getD j 0) (x.getD j 0) else x.getD j 0]:=by
     rw[List.range_succ,List.map_append];rfl
    have hll:(nums ((List.range j).map fun j=>if r.testBit j=true then low (f.getD j 0) (g.getD j 0) (x.getD j 0) else x.getD j 0)).length≤64:=by
     rw[aY,List.length_map,List.length_range];omega
    refine dF ?_
    refine⟨_,rfl,_,rfl,1,(j:Int),rfl,rfl,⟨Int.natCast_nonneg j,by omega,by decide⟩,_,_,rfl,rfl,_,rfl,?_⟩
    rw[afF hr64 (by omega)]
    refine ite2 (fun e=>?_) (fun e=>?_)
    ·refine⟨_,rfl,_,rfl,D,_,(j:Int),_,rfl,rfl,SqL.of (s3 _ _ hDl),bJ (Cr (by omega)),CE1.mk hDl' (aP (by omega)) ⟨Same.up s3 hD',hj,?_⟩⟩
     rw[es,if_pos e,gq,hat j hj]
    ·refine⟨_,rfl,_,rfl,t,_,(j:Int),_,rfl,rfl,SqL.of (s3 _ _ ht2),bJ (Cr (by omega)),CE1.mk hDl' (aP (by omega)) ⟨Same.up s3 hD',hj,?_⟩⟩
     rw[es,if_neg e,gq]
   rintro ys H3 ⟨s3,_,rfl⟩ hDl'
   have hB3:=s3 _ _ hB2
   refine⟨B,_,_,rfl,rfl,hB3,aP (by rw[List.length_map,hU.len,List.length_map,List.length_take];omega),?_⟩
   have s13:=s1.trans (s2.trans s3)
   have hD'H:H D' = none:=(s1.trans s2).free hD'
   have nD'B:D'≠B:=fun z=>by rw[z,hB2] at hD';cases hD'
   have aqh:D'∉us:=fun z=>by
    obtain⟨q',hq'⟩:=List.mem_iff_getElem?.mp z
    obtain⟨t',r',e1,e2,e3⟩:=(hU.same s2).get (i:=q') (v:=.ref D') (by rw[List.getElem?_map,hq'];rfl)
    injection e1 with e1
    rw[← e1,hD'] at e3
    cases e3
   refine⟨Same.up s13 hB,hmS,⟨us++[D'],by rw[au,List.map_append];rfl,?_,fun t ht=>?_,?_⟩,_,_,rfl⟩
   ·rw[List.take_add_one,hx,List.map_append]
    refine Rws.upd (Rws.snoc hDl' (hU.same (s2.trans s3))) fun z=>?_
    rcases List.mem_append.mp z with z | z
    ·exact(hn _ z).2 rfl
    ·exact nD'B (List.mem_singleton.mp z).symm
   ·rcases List.mem_append.mp ht with z | z
    ·exact hn t z
    ·rw[List.mem_singleton.mp z];exact⟨hD'H,nD'B⟩
   ·rw[List.nodup_append]
    exact⟨hnd,by simp,fun a ha b hb z=>aqh (by rw[← List.mem_singleton.mp hb,← z];exact ha)⟩
  ·rintro σ' H1 ⟨s1,_,⟨us,hB1,hU,hn,hnd⟩,o7,o8,rfl⟩
   rw[hln,List.take_length] at hU
   refine⟨_,rfl,q B H1 hB s1 ⟨us,hB1,?_,hn,hnd⟩⟩
   unfold dG
   rw[hF,hG]
   exact hU
end
def ByOk (S:List (List Nat)) (pl:Nat) (p:Nat×Nat) (L:List (Nat×Nat×Nat)):Prop:=∀ q∈L,q.1=pl∧q.2.1 < S.length∧q.2.2 < S.length∧aK (S.getD q.2.1 []) p.1=aK (S.getD q.2.2 []) p.1∧¬ aK (S.getD q.2.1 []) p.2=aK (S.getD q.2.2 []) p.2
def aic:Sp:=fun vs H Q _=>∃ (l t:Addr) (pl:Nat) (S:List (List Nat)) (p:Nat×Nat),vs = [.ref l,.int (pl:Nat),.ref t]∧iw H l S∧S.length≤64∧(∀ r∈S,r.length≤6)∧H t=some (.tup [.int (p.1:Nat),.int (p.2:Nat)])∧p.1 < 64∧p.2 < 64 ∧
 ∀ (d:Addr) (L:List (Nat×Nat×Nat)) (H':Hp),H d=none→Same H H'→Xf H' d L→ByOk S pl p L→L.length≤S.length→(L = []→Keeps S p)→Q (.ref d) H'
section
variable {P:Program} {w:World} {K:W.Frag} {mg:Str→Option Value} {base:Heap} {A:Adr}
theorem aid (T:Txt K mg A):FnOk P w K mg base CX0 3 A.m7 A.PX ["sheet", "place", "rule"] aic:=by
 have pO:=RX (P:=P) (w:=w) (base:=base) T
 refine T.aao.ok qi (fun vs H Q E h=>?_) (fun cdv A' outer s H vs Q E hr h=>?_)
 ·obtain⟨l,t,pl,S,p,rfl,_⟩:=h;rfl
 ·obtain⟨l,t,pl,S,p,rfl,⟨ts,hl,htp⟩,hlen,hr6,ht,hp1,hp2,k⟩:=h
  refine⟨_,(aq (aQ (i:=3) qi.nd rfl (Or.inl rfl) ahv)
   (aq (aQ (i:=4) qi.nd rfl (Or.inl rfl) (cD ao))
   (aq (dR PassesOwn.never rfl (Zy K rfl T.lD vp (aj (pv 0) ao)) (qH K (n:=2) rfl (cZ (aO (i:=5) qi.nd rfl (Or.inl rfl)) (cZ (aO (i:=6) qi.nd rfl (Or.inl rfl)) qG)))
   (aq (aQ (i:=7) qi.nd rfl (Or.inl rfl) (Zz (aoP hr) (pv 3) (aC pO (hr.mono (by decide)) rfl T.vy T.tE.kp T.vq .nil aH (aj (pv 6) (aj (bh (bQ K) (pv 2) aA (fun _ _=>rfl)) ao))) (pv 5) ⟨rfl,rfl,rfl,rfl⟩))
   (aB (bN (bA (oR hr.units) (aC pO (hr.mono (by decide)) rfl T.vy T.tE.kp T.vq .nil aH (aj (pv 6) (aj (bh (bQ K) (pv 2) aA (fun _ _=>rfl)) ao))) (aC pO (hr.mono (by decide)) rfl T.vy T.tE.kp T.vq .nil aH (aj (bh (aN K) (pv 0) (pv 7) (fun _ _=>rfl)) (aj (bh (bQ K) (pv 2) aA (fun _ _=>rfl)) ao))) (bF _)) (aB (cQ (cF K (pv 4) (aj (Ab (aj (pv 1) (aj (pv 7) (aj (pv 5) ao)))) ao)))) aU))))
   (aB (aM (pv 4)))))),?_⟩
  refine fun D hD=>⟨Nat.zero_le _,fun B hB=>?_⟩
  have hln:(ts.map V.ref).length=S.length:=by rw[List.length_map];exact htp.len
  have sD:Same H (upd H D (.dT [])):=Same.new hD
  have sB:Same H (upd (upd H D (.dT [])) B (.lst [])):=Same.up sD (sD.free hB)
  have nBD:D≠B:=aL au hB
  have hBH:H B=none:=sD.free hB
  refine⟨_,rfl,l,ts.map V.ref,rfl,sB _ _ hl,?_⟩
  refine ahw (K:=K) (a:=l) (xs:=ts.map V.ref) (fun i σ' H'=>Same H H'∧i≤S.length∧(∃ o5 o6 o7:Option V,σ' = [some (.ref l),some (.int (pl:Nat)),some (.ref t),some (.ref D),some (.ref B),o5,o6,o7])∧∃ (kvs:List (List Key×V)) (L:List (Nat×Nat×Nat)),H' D=some (.dT kvs)∧kvs.length≤i∧Xf H' B L∧ByOk S pl p L∧L.length≤i ∧
    (∀ q v,valV kvs q=some v→∃ (j:Nat) (r0:List Nat),v = .int (j:Nat)∧S[j]? = some r0∧q=keyN (aK r0 p.1)) ∧
    (∀ r∈S.take i,∃ (j:Nat) (r0:List Nat),valV kvs (keyN (aK r p.1))=some (.int (j:Nat))∧S[j]? = some r0∧(L = []→aK r0 p.2=aK r p.2)))
   ⟨sB,Nat.zero_le _,⟨none,none,none,rfl⟩,[],[],by rw[aG nBD,au],Nat.le_refl _,⟨[],au,trivial⟩,(fun q hq=>by simp at hq),Nat.le_refl _,(fun q v h=>by cases h),fun r hr'=>by simp at hr'⟩ (fun i σ' H' _ ⟨e,_⟩=>e _ _ hl) ?_ ?_
  ·rintro i x σ' H' q hx ⟨se,hi,⟨o5,o6,o7,rfl⟩,kvs,L,hDd,hkl,⟨us,hBd,hU⟩,hBy,hLi,i1,i2⟩ hq
   obtain⟨tr,r,rfl,hri,hrow⟩:=(htp.same se).get hx
   have hrm:r∈S:=List.mem_of_getElem? hri
   have hi':i<S.length:=(List.getElem?_eq_some_iff.mp hri).1
   have hgi:S.getD i [] = r:=by simp [List.getD,hri]
   have sq:Same H' (upd H' q (.tup [.int (i:Nat),.ref tr])):=Same.new hq
   have seq:=se.trans sq
   refine⟨q,_,rfl,SqT.of au,rfl,_,_,rfl,_,_,rfl,rfl,?_⟩
   have hDq:=sq _ _ hDd
   have hBq:=sq _ _ hBd
   have hUq:=hU.same sq
   have aoW:=sq _ _ hrow
   generalize upd H' q (.tup [.int (i:Nat),.ref tr])=H1 at sq seq hDq hBq hUq aoW ⊢
   refine⟨_,rfl,D,rfl,.inr ⟨kvs,.inl hDq⟩,_,rfl,_,rfl,t,_,0,_,rfl,rfl,SqT.of (seq _ _ ht),rfl,tr,r,p.1,rfl,aoW,hr6 r hrm,hp1,fun t1 H3 f3 s3 c3=>?_⟩
   have hD3:=s3 _ _ hDq
   have hB3:=s3 _ _ hBq
   have hU3:=hUq.same s3
   have s03:Same H H3:=seq.trans s3
   suffices rest:∀ (j:Nat) (r0:List Nat) (kvs':List (List Key×V)) (H4:Hp),Same H H4→H4 D=some (.dT kvs')→kvs'.length≤i+1→H4 B=some (.lst (us.map V.ref))→Trs H4 us L→S[j]? = some r0→aK r0 p.1=aK r p.1 →
     (∀ q v,valV kvs' q=some v→∃ (j:Nat) (r0:List Nat),v = .int (j:Nat)∧S[j]? = some r0∧q=keyN (aK r0 p.1)) →
     (∀ r∈S.take i,∃ (j:Nat) (r0:List Nat),valV kvs' (keyN (aK r p.1))=some (.int (j:Nat))∧S[j]? = some r0∧(L = []→aK r0 p.2=aK r p.2))→valV kvs' (keyN (aK r p.1))=some (.int (j:Nat)) →
     tSeq _ _ _ [some (.ref l),some (.int (pl:Nat)),some (.ref t),some (.ref D),some (.ref B),some (.int (i:Nat)),some (.ref tr),some (.int (j:Nat))] H4 by
    refine⟨_,rfl,kvs,keyN (aK r p.1),t1,hD3,rfl,by rw[Io];exact c3,aP (by omega),fun v hv=>?_,fun hv=>?_⟩
    ·obtain⟨j,r0,rfl,hj,ek⟩:=i1 _ _ hv
     exact rest j r0 kvs H3 s03 hD3 (by omega) hB3 hU3 hj (ah2 ek).symm i1 i2 hv
    ·have nBD3:B≠D:=iG hB3 hD3 (by intro z;cases z)
     have hUu:Trs (upd H3 D (.dT (putK kvs (keyN (aK r p.1)) (.int (i:Nat))))) us L:=by
      have:∀ {us:List Addr} {L:List (Nat×Nat×Nat)},Trs H3 us L→Trs (upd H3 D (.dT (putK kvs (keyN (aK r p.1)) (.int (i:Nat))))) us L:=by
       intro us
       induction us with
       | nil=>intro L h;cases L with
        | nil=>trivial
        | cons _ _=>exact h.elim
       | cons a us ih=>intro L h;cases L with
        | nil=>exact h.elim
        | cons b L=>exact⟨by rw[aG (iG h.1 hD3 (by intro z;cases z))];exact h.1,ih h.2⟩
      exact this hU3
     refine rest i r (putK kvs (keyN (aK r p.1)) (.int (i:Nat))) _ (Same.up s03 hD) au (by have:=Hj kvs (keyN (aK r p.1)) (.int (i:Nat));omega) (by rw[aG nBD3];exact hB3) hUu hri rfl (fun q v hq'=>?_) (fun a ha=>?_) (by rw[Hi,if_pos rfl])
     ·rw[Hi] at hq'
      by_cases hqe:q=keyN (aK r p.1)
      ·rw[if_pos hqe] at hq'
       exact⟨i,r,(Option.some.inj hq').symm,hri,hqe⟩
      ·rw[if_neg hqe] at hq'
       exact i1 q v hq'
     ·obtain⟨j,r0,h1,h2,h3⟩:=i2 a ha
      refine⟨j,r0,?_,h2,h3⟩
      rw[Hi,if_neg fun z=>by rw[z,hv] at h1;cases h1]
      exact h1
   intro j r0 kvs' H4 s4 hD4 hkl4 hB4 hU4 hj ej j1 j2 jv
   obtain⟨tj,eTj,hTj⟩:=(htp.same s4).at hj
   have hgj:S.getD j [] = r0:=by simp [List.getD,hj]
   have hj':j<S.length:=(List.getElem?_eq_some_iff.mp hj).1
   have aqi:H4 tr=some (.lst (nums r)):=by
    obtain⟨tr',e',h'⟩:=(htp.same s4).at hri
    rw[hx] at e'
    cases e'
    exact h'
   refine⟨_,rfl,_,rfl,t,_,1,_,rfl,rfl,SqT.of (s4 _ _ ht),rfl,tr,r,p.2,rfl,aqi,hr6 r hrm,hp2,fun t2 H5 f5 s5 c5=>?_⟩
   refine⟨_,rfl,_,rfl,l,_,(j:Int),_,rfl,rfl,SqL.of (s5 _ _ (s4 _ _ hl)),bJ eTj,_,rfl,t,_,1,_,rfl,rfl,SqT.of (s5 _ _ (s4 _ _ ht)),rfl,tj,r0,p.2,rfl,s5 _ _ hTj,hr6 r0 (List.mem_of_getElem? hj),hp2,fun t3 H6 f6 s6 c6=>?_⟩
   have s56:=s5.trans s6
   have s06:=s4.trans s56
   refine⟨tupD (aK r p.2),tupD (aK r0 p.2),tX (s6 _ _ c5),tX c6,qZ _,qZ _,wV _,_,rfl,?_⟩
   rw[if_pos rfl,Ir]
   have hB6:=s56 _ _ hB4
   have hD6:=s56 _ _ hD4
   refine ite2 (fun e=>?_) (fun e=>?_)
   ·have hne:¬ aK r p.2=aK r0 p.2:=by simpa using e
    refine⟨_,rfl,.inl ⟨rfl,_,SqL.of hB6⟩,_,rfl,_,rfl,_,rfl,by show 3≤sizeLine;decide,fun t7 ht7=>?_⟩
    have s7:Same H6 (upd H6 t7 (.tup (trip (pl,j,i)))):=Same.new ht7
    have hB7:=s7 _ _ hB6
    refine⟨B,_,_,rfl,rfl,hB7,aP (by rw[List.length_map,hU4.len];omega),?_⟩
    have s07:=s06.trans s7
    have nDB:D≠B:=iG hD6 hB6 (by intro z;cases z)
    refine⟨Same.up s07 hBH,hi',⟨_,_,_,rfl⟩,kvs',L++[(pl,j,i)],by rw[aG nDB];exact s7 _ _ hD6,hkl4,⟨us++[t7],by rw[au,List.map_append];rfl,Trs.upd hB7 (Trs.snoc au ((hU4.same s56).same s7))⟩,fun q hq'=>?_,by rw[List.length_append];simp;omega,j1,fun a ha=>?_⟩
    ·rcases List.mem_append.mp hq' with z | z
     ·exact hBy q z
     ·rw[List.mem_singleton.mp z]
      exact⟨rfl,hj',hi',by show aK (S.getD j []) p.1=aK (S.getD i []) p.1;rw[hgj,hgi];exact ej,by show ¬ aK (S.getD j []) p.2=aK (S.getD i []) p.2;rw[hgj,hgi];exact fun z=>hne z.symm⟩
    ·rcases (lJ hri).mp ha with ha | rfl
     ·obtain⟨j',r',h1,h2,_⟩:=j2 a ha
      exact⟨j',r',h1,h2,fun z=>by simp at z⟩
     ·exact⟨j,r0,jv,hj,fun z=>by simp at z⟩
   ·have he:aK r p.2=aK r0 p.2:=by simpa using e
    refine⟨s06,hi',⟨_,_,_,rfl⟩,kvs',L,hD6,hkl4,⟨us,hB6,hU4.same s56⟩,hBy,by omega,j1,fun a ha=>?_⟩
    rcases (lJ hri).mp ha with ha | rfl
    ·exact j2 a ha
    ·exact⟨j,r0,jv,hj,fun _=>he.symm⟩
  ·rintro σ' H' ⟨se,_,⟨o5,o6,o7,rfl⟩,kvs,L,hDd,hkl,hT,hBy,hLi,i1,i2⟩
   rw[hln,List.take_length] at i2
   rw[hln] at hLi
   refine⟨_,rfl,k B L H' hBH se hT hBy hLi fun hL a ha b hb e=>?_⟩
   obtain⟨j,r0,h1,h2,h3⟩:=i2 a ha
   obtain⟨j',r1,h4,h5,h6⟩:=i2 b hb
   rw[e,h4] at h1
   injection h1 with h1
   injection h1 with h1
   have:j' = j:=by omega
   subst this
   rw[h2] at h5
   cases h5
   rw[← h3 hL,h6 hL]
end
end K12
namespace K12
open PySem L2 TC
def fldB (d:Addr):List (Str×V):=putF "steps" (.ref d) []
def fldL (a b:Addr):List (Str×V):=putF "row" (.ref b) (putF "table" (.ref a) [])
theorem sE (d:Addr):(fldB d).lookup ("steps" : Str)=some (.ref d):=by unfold fldB;rw[aZ,if_pos rfl]
theorem ak8 (d:Addr) {m:Str} (h1:¬ m = "steps"):(fldB d).lookup m=none:=by unfold fldB;rw[aZ,if_neg h1];rfl
theorem ktr:¬ (("table" : Str) = "row"):=by decide +kernel
theorem jy (a b:Addr):(fldL a b).lookup ("table" : Str)=some (.ref a):=by unfold fldL;rw[aZ,if_neg ktr,aZ,if_pos rfl]
theorem wX (a b:Addr):(fldL a b).lookup ("row" : Str)=some (.ref b):=by unfold fldL;rw[aZ,if_pos rfl]
theorem ak9 (a b:Addr) {m:Str} (h1:¬ m = "row") (h2:¬ m = "table"):(fldL a b).lookup m=none:=by unfold fldL;rw[aZ,if_neg h1,aZ,if_neg h2];rfl
def V8 (C:Addr) (H:Hp) (x d:Addr) (L:List (Nat×Nat×Nat)):Prop:=(∃ dx,H x=some (.ins C dx (fldB d)))∧Xf H d L
def V9 (C:Addr) (H:Hp) (x a b:Addr) (S:List (List Nat)) (r:List Nat):Prop:=(∃ dx,H x=some (.ins C dx (fldL a b)))∧iw H a S∧H b=some (.lst (nums r))
theorem V8.same {C:Addr} {H H':Hp} {x d:Addr} {L:List (Nat×Nat×Nat)} (e:Same H H'):V8 C H x d L→V8 C H' x d L:=fun ⟨⟨dx,h⟩,t⟩=>⟨⟨dx,e _ _ h⟩,t.same e⟩
theorem V9.same {C:Addr} {H H':Hp} {x a b:Addr} {S:List (List Nat)} {r:List Nat} (e:Same H H'):V9 C H x a b S r→V9 C H' x a b S r:=fun ⟨⟨dx,h⟩,t,u⟩=>⟨⟨dx,e _ _ h⟩,t.same e,e _ _ u⟩
def afN (C:Addr):Sp:=fun vs H Q _=>∃ (p dx l:Addr) (L:List (Nat×Nat×Nat)),vs = [.ref p,.ref l]∧H p=some (.ins C dx [])∧Xf H l L ∧
 ∀ (d:Addr) (H':Hp),H d=none→V8 C H' p d L→(∀ b o,H b=some o→b≠p→H' b=some o)→Q .non H'
def afO (C:Addr):Sp:=fun vs H Q _=>∃ (p dx l m:Addr) (S:List (List Nat)) (r:List Nat),vs = [.ref p,.ref l,.ref m]∧H p=some (.ins C dx [])∧iw H l S∧S.length≤64∧H m=some (.lst (nums r)) ∧
 ∀ (a b:Addr) (H':Hp),H a=none→H b=none→V9 C H' p a b S r→(∀ b o,H b=some o→b≠p→H' b=some o)→Q .non H'
def aj2:Sp:=fun vs H Q _=>∃ (t l d:Addr) (q:Nat×Nat×Nat) (ps:List (Nat×Nat)) (S:List (List Nat)),vs = [.ref t,.ref l,.ref d]∧H t=some (.tup (trip q))∧dg H l ps∧(∀ p∈ps,p.1 < 64)∧iw H d S∧(∀ x∈S,x.length≤6) ∧
 ∀ H',Same H H'→Q (.bl (okS ps S q)) H'
def anB:Sp:=fun vs H Q _=>∃ (a l b:Addr) (S:List (List Nat)) (pts r:List Nat),vs = [.ref a,.ref l,.ref b]∧iw H a S∧S.length≤64∧(∀ x∈S,x.length≤6)∧H l=some (.lst (nums pts))∧(∀ p∈pts,p < 64)∧H b=some (.lst (nums r))∧r.length≤6 ∧
 ∀ H',Same H H'→Q (.bl (mkB S pts r)) H'
def ac7 (C CR:Addr):Sp:=fun vs H Q _=>∃ (x d p m l:Addr) (c:Nat) (ps:List (Nat×Nat)) (pts:List Nat) (L:List (Nat×Nat×Nat)),vs = [.ref x,.ref p,.ref l]∧V8 C H x d L∧bV CR H p m c ps∧Good c ps∧H l=some (.lst (nums pts))∧pts.length≤64∧(∀ q∈pts,q < 64) ∧
 ∀ H',Same H H'→Q (.bl (R4 c ps pts L)) H'
def ac8 (C CR:Addr):Sp:=fun vs H Q _=>∃ (x a b p m l:Addr) (c:Nat) (ps:List (Nat×Nat)) (pts:List Nat) (S:List (List Nat)) (r:List Nat),vs = [.ref x,.ref p,.ref l]∧V9 C H x a b S r∧bV CR H p m c ps∧Good c ps∧H l=some (.lst (nums pts))∧(∀ q∈pts,q < 64) ∧
 ∀ H',Same H H'→Q (.bl (oO c ps pts S r)) H'
theorem fZ {H:Hp} {b:Addr} {r:List Nat} (h:H b=some (.lst (nums r))):Dt H (.ref b) (rowD r):=.lst h (RW r)
theorem pG (a b:List Nat):PyData.eqv (rowD a) (rowD b)=decide (a=b):=Lf a b
theorem eZ (a:List Nat):(rowD a).canLay0=true:=Cq a
theorem iD (a:List Nat):(rowD a).depth≤60:=by
 show PyData.depthAll _+1≤60
 have:=wU a
 omega
theorem Cu (x:List Nat) (S:List (List Nat)):((S.map rowD).any fun e=>PyData.eqv e (rowD x))=decide (x∈S):=by
 rw[List.any_map]
 have:((fun e=>PyData.eqv e (rowD x)) ∘ rowD)=fun y=>decide (y=x):=by
  funext y
  exact pG y x
 rw[this]
 by_cases h:x∈S
 ·rw[decide_eq_true h,List.any_eq_true]
  exact⟨x,h,by simp⟩
 ·rw[decide_eq_false h,List.any_eq_false]
  intro y hy
  have:¬ y=x:=fun z=>h (by rw[← z];exact hy)
  simp [this]
theorem aov (x:List Nat) (S:List (List Nat)):((S.map tupD).any fun e=>PyData.eqv e (tupD x))=decide (x∈S):=by
 rw[List.any_map]
 have:((fun e=>PyData.eqv e (tupD x)) ∘ tupD)=fun y=>decide (y=x):=by
  funext y
  exact Ir y x
 rw[this]
 by_cases h:x∈S
 ·rw[decide_eq_true h,List.any_eq_true]
  exact⟨x,h,by simp⟩
 ·rw[decide_eq_false h,List.any_eq_false]
  intro y hy
  have:¬ y=x:=fun z=>h (by rw[← z];exact hy)
  simp [this]
theorem aie:∀ S:List (List Nat),PyData.canLayAll0 (S.map tupD)=true
 | []=>rfl
 | r::rs=>by
  show(PyData.canLayAll0 (r.map fun n=>PyData.int (n:Nat)) && PyData.canLayAll0 (rs.map tupD))=true
  rw[aie rs,Cq r];rfl
def Tws (H:Hp):List Addr→List (List Nat)→Prop
 | [],[]=>True
 | t::ts,r::rs=>H t=some (.tup (nums r))∧Tws H ts rs
 | _,_=>False
theorem Tws.same {H H':Hp} (e:Same H H'):∀ {ts:List Addr} {rs:List (List Nat)},Tws H ts rs→Tws H' ts rs
 | [],[],_=>trivial
 | _::_,_::_,⟨h,t⟩=>⟨e _ _ h,Tws.same e t⟩
 | [],_::_,h=>h.elim
 | _::_,[],h=>h.elim
theorem Tws.len {H:Hp}:∀ {ts:List Addr} {rs:List (List Nat)},Tws H ts rs→ts.length=rs.length
 | [],[],_=>rfl
 | _::_,_::_,⟨_,t⟩=>congrArg (· + 1) (Tws.len t)
 | [],_::_,h=>h.elim
 | _::_,[],h=>h.elim
theorem Tws.snoc {H:Hp} {t:Addr} {r:List Nat} (e:H t=some (.tup (nums r))):∀ {ts:List Addr} {rs:List (List Nat)},Tws H ts rs→Tws H (ts++[t]) (rs++[r])
 | [],[],_=>⟨e,trivial⟩
 | _::_,_::_,⟨h,t⟩=>⟨h,Tws.snoc e t⟩
 | [],_::_,h=>h.elim
 | _::_,[],h=>h.elim
theorem Tws.upd {H:Hp} {a:Addr} {xs:List V} {o:HO} (ha:H a=some (.lst xs)):∀ {ts:List Addr} {rs:List (List Nat)},Tws H ts rs→Tws (upd H a o) ts rs
 | [],[],_=>trivial
 | _::_,_::_,⟨h,t⟩=>⟨by rw[aG (iG h ha (by intro z;cases z))];exact h,Tws.upd ha t⟩
 | [],_::_,h=>h.elim
 | _::_,[],h=>h.elim
theorem tws_dt {H:Hp}:∀ {ts:List Addr} {rs:List (List Nat)},Tws H ts rs→Dts H (ts.map V.ref) (rs.map tupD)
 | [],[],_=>.nil
 | _::_,_::_,⟨h,t⟩=>.cons (tX h) (tws_dt t)
 | [],_::_,h=>h.elim
 | _::_,[],h=>h.elim
theorem aif (c:Nat):(List.replicate ((c:Int)).toNat [V.int 0]).flatten=nums (List.replicate c 0):=by
 rw[Int.toNat_natCast]
 induction c with
 | zero=>rfl
 | succ c ih=>rw[List.replicate_succ,List.flatten_cons,ih,List.replicate_succ];rfl
section
variable {P:Program} {w:World} {K:W.Frag} {mg:Str→Option Value} {base:Heap} {A:Adr}
theorem R5 (T:Txt K mg A):FnOk P w K mg base CX0 1 A.jJ A.Hw ["self", "steps"] (afN A.fu):=by
 refine T.ahR.ok afh (fun vs H Q E h=>?_) (fun cdv A' outer s H vs Q E hr h=>?_)
 ·obtain⟨p,dx,l,L,rfl,_⟩:=h;rfl
 ·obtain⟨p,dx,l,L,rfl,hp,⟨ts,hl,hT⟩,k⟩:=h
  refine⟨_,(aB (jY K (pv 0) (cC (cg K) rfl T.dZ dh (aj (pv 1) ao)))),?_⟩
  refine⟨_,rfl,l,ts.map V.ref,rfl,.inl (SqL.of hl),fun d hd=>⟨_,rfl,p,A.fu,dx,[],rfl,Same.new hd _ _ hp,T.qN,T.dY,by show 0 < 1000;decide,?_⟩⟩
  have npd:d≠p:=fun z=>by rw[z,hp] at hd;cases hd
  have hT2:Trs (upd (upd H d (.lst (ts.map V.ref))) p (.ins A.fu dx (putF "steps" (.ref d) []))) ts L:=by
   have:∀ {us:List Addr} {L:List (Nat×Nat×Nat)},Trs H us L→Trs (upd (upd H d (.lst (ts.map V.ref))) p (.ins A.fu dx (putF "steps" (.ref d) []))) us L:=by
    intro us
    induction us with
    | nil=>intro L h;cases L with
     | nil=>trivial
     | cons _ _=>exact h.elim
    | cons a us ih=>intro L h;cases L with
     | nil=>exact h.elim
     | cons b L=>exact⟨by rw[aG (iG h.1 hp (by intro z;cases z)),aG (aL h.1 hd)];exact h.1,ih h.2⟩
   exact this hT
  refine k d _ hd ⟨⟨dx,au⟩,⟨ts,by rw[aG npd,au],hT2⟩⟩ fun b o hb hbp=>?_
  rw[aG hbp]
  exact Same.new hd _ _ hb
theorem afP (T:Txt K mg A):FnOk P w K mg base CX0 1 A.je A.yg ["self", "table", "row"] (afO A.bT):=by
 refine T.W0.ok Rq (fun vs H Q E h=>?_) (fun cdv A' outer s H vs Q E hr h=>?_)
 ·obtain⟨p,dx,l,m,S,r,rfl,_⟩:=h;rfl
 ·obtain⟨p,dx,l,m,S,r,rfl,hp,⟨ts,hl,hR⟩,h64,hm,k⟩:=h
  have hln:(ts.map V.ref).length=S.length:=by rw[List.length_map];exact hR.len
  refine⟨_,(aq (jY K (pv 0) (cP ["self", "table", "row"] (ak fV) ["line"] [none] ⟨rfl,by decide +kernel,by decide +kernel,by decide +kernel,by decide +kernel,by decide +kernel⟩ rfl (bI K (pv 1)) (fun _ _ _ _ _=>(aO (i:=0) (by show List.Nodup (["line"]:List Str);decide +kernel) rfl (Or.inl rfl) (Or.inr rfl))) (fun _ _ _ _ _=>cG) (fun _ _ _ _ _=>(cC (cg K) rfl T.dZ dh (aj (pv 0) ao)))))
   (aB (jY K (pv 0) (cC (cg K) rfl T.dZ dh (aj (pv 2) ao))))),?_⟩
  refine⟨_,rfl,l,rfl,⟨_,SqL.of hl⟩,fun D hD=>cO (xs:=ts.map V.ref) (fun i ys H'=>Same H H'∧i≤S.length∧∃ us:List Addr,ys=us.map V.ref∧Rws H' us (S.take i)∧∀ t∈us,t≠D) ⟨Same.new hD,Nat.zero_le _,[],rfl,trivial,fun t ht=>by simp at ht⟩ (fun i ys H' _ ⟨e,_⟩=>SqL.of (e _ _ hl)) ?_ ?_⟩
  ·rintro i x ys H' hx ⟨se,hi,us,rfl,hU,hn⟩ hDl
   obtain⟨t,y,rfl,hy,ht⟩:=(hR.same se).get hx
   have hi':i<S.length:=(List.getElem?_eq_some_iff.mp hy).1
   refine dF ?_
   refine⟨_,rfl,t,nums y,rfl,.inl (SqL.of ht),fun e he=>?_⟩
   have s2:Same H' (upd H' e (.lst (nums y))):=Same.new he
   have neD:e≠D:=fun z=>by rw[z,hDl] at he;cases he
   refine CE1.mk (s2 _ _ hDl) (aP (by rw[List.length_map,hU.len,List.length_take];omega)) ⟨Same.up (se.trans s2) hD,hi',us++[e],by rw[List.map_append];rfl,?_,fun t ht=>?_⟩
   ·rw[List.take_add_one,hy]
    refine Rws.upd (Rws.snoc au (hU.same s2)) fun z=>?_
    rcases List.mem_append.mp z with z | z
    ·exact hn _ z rfl
    ·exact neD (List.mem_singleton.mp z).symm
   ·rcases List.mem_append.mp ht with z | z
    ·exact hn t z
    ·rw[List.mem_singleton.mp z];exact neD
  ·rintro ys H1 ⟨s1,_,us,rfl,hU,hn⟩ hDl
   rw[hln,List.take_length] at hU
   have hp1:=s1 _ _ hp
   have npD:D≠p:=fun z=>by rw[z,hp] at hD;cases hD
   refine⟨_,rfl,p,A.bT,dx,[],rfl,hp1,T.dN,T.cu,by show 0 < 1000;decide,?_⟩
   have nmp:m≠p:=iG hm hp (by intro z;cases z)
   have hm2:(upd H1 p (.ins A.bT dx (putF "table" (.ref D) []))) m=some (.lst (nums r)):=by rw[aG nmp];exact s1 _ _ hm
   have hD2:(upd H1 p (.ins A.bT dx (putF "table" (.ref D) []))) D=some (.lst (us.map V.ref)):=by rw[aG npD];exact hDl
   have hU2:Rws (upd H1 p (.ins A.bT dx (putF "table" (.ref D) []))) us S:=Rws.upd hU fun z=>by
    obtain⟨j,hj⟩:=List.mem_iff_getElem?.mp z
    obtain⟨t',r',e1,e2,e3⟩:=hU.get (i:=j) (v:=.ref p) (by rw[List.getElem?_map,hj];rfl)
    injection e1 with e1
    rw[← e1,hp1] at e3
    cases e3
   refine⟨_,rfl,m,nums r,rfl,.inl (SqL.of hm2),fun b hb=>⟨_,rfl,p,A.bT,dx,_,rfl,Same.new hb _ _ au,T.dN,T.eY,by show 1 < 1000;decide,?_⟩⟩
   have nbp:b≠p:=fun z=>by rw[z,au] at hb;cases hb
   have nDb:D≠b:=aL hD2 hb
   have hbH1:H1 b=none:=by rw[aG nbp] at hb;exact hb
   have sb:Same (upd H1 p (.ins A.bT dx (putF "table" (.ref D) []))) (upd (upd H1 p (.ins A.bT dx (putF "table" (.ref D) []))) b (.lst (nums r))):=Same.new hb
   have hU3:=hU2.same sb
   refine k D b _ hD (s1.free hbH1) ⟨⟨dx,au⟩,⟨us,by rw[aG npD];exact sb _ _ hD2,Rws.upd hU3 fun z=>by
    obtain⟨j,hj⟩:=List.mem_iff_getElem?.mp z
    obtain⟨t',r',e1,e2,e3⟩:=hU.get (i:=j) (v:=.ref p) (by rw[List.getElem?_map,hj];rfl)
    injection e1 with e1
    rw[← e1,hp1] at e3
    cases e3⟩,by rw[aG nbp,au]⟩ fun q o hq hqp=>?_
   rw[aG hqp,aG (aL hq (s1.free hbH1)),aG hqp]
   exact s1 _ _ hq
end
section
variable {P:Program} {w:World} {K:W.Frag} {mg:Str→Option Value} {base:Heap} {A:Adr}
theorem aj3 (T:Txt K mg A):FnOk P w K mg base CX0 5 A.qp A.VG ["step", "pairs", "sheet"] aj2:=by
 have pZ:=Iu (P:=P) (w:=w) (base:=base) T
 have pO:=RX (P:=P) (w:=w) (base:=base) T
 refine T.aee.ok Z2 (fun vs H Q E h=>?_) (fun cdv A' outer s H vs Q E hr h=>?_)
 ·obtain⟨t,l,d,q,ps,S,rfl,_⟩:=h;rfl
 ·obtain⟨t,l,d,q,ps,S,rfl,ht,⟨tl,hl,htl⟩,hps,⟨ts,hd,hR⟩,hw,k⟩:=h
  have hlp:(tl.map V.ref).length=ps.length:=by rw[List.length_map];exact htl.len
  have hld:(ts.map V.ref).length=S.length:=by rw[List.length_map];exact hR.len
  refine⟨_,(aq (bN (PW.pt (kI (bY (bG (aW (d7 K) rfl T.bU cj (aj (pv 0) (aj (pL (v:=.ty "tuple") rfl T.yp Rt rfl) ao))))) (lF (bA GP (aW (bM K) rfl T.gh dH (aj (pv 0) ao)) aA (bF _))))) (aB (aM cH)) aU)
   (aq (bN (PW.pt (kI (bY (bG (aC pZ (hr.mono (by decide)) rfl T.wQ T.rT.kp T.wO .nil aH (aj (bh (bQ K) (pv 0) aA (fun _ _=>rfl)) (aj (pv 1) ao))))) (kI (bY (bG (aC pZ (hr.mono (by decide)) rfl T.wQ T.rT.kp T.wO .nil aH (aj (bh (bQ K) (pv 0) aA (fun _ _=>rfl)) (aj (pv 2) ao))))) (lF (bY (bG (aC pZ (hr.mono (by decide)) rfl T.wQ T.rT.kp T.wO .nil aH (aj (bh (bQ K) (pv 0) aA (fun _ _=>rfl)) (aj (pv 2) ao))))))))) (aB (aM cH)) aU)
   (aq (aQ (i:=3) Z2.nd rfl (Or.inl rfl) (bh (bQ K) (bh (aN K) (pv 1) (bh (bQ K) (pv 0) aA (fun _ _=>rfl)) (fun _ _=>rfl)) aA (fun _ _=>rfl)))
   (aB (aM (mj (am3 hr.units) (aC pO (hr.mono (by decide)) rfl T.vy T.tE.kp T.vq .nil aH (aj (bh (aN K) (pv 2) (bh (bQ K) (pv 0) aA (fun _ _=>rfl)) (fun _ _=>rfl)) (aj (pv 3) ao))) (aC pO (hr.mono (by decide)) rfl T.vy T.tE.kp T.vq .nil aH (aj (bh (aN K) (pv 2) (bh (bQ K) (pv 0) aA (fun _ _=>rfl)) (fun _ _=>rfl)) (aj (pv 3) ao))) (bF _))))))),?_⟩
  have no:okS ps S q=false→Q (.bl false) H:=fun e=>by
   have z:=k H (Same.refl _)
   rw[e] at z
   exact z
  refine⟨_,rfl,_,_,_,true,rfl,.tup ht,u5,true,rfl,iteF ⟨_,rfl,t,_,rfl,.inr (SqT.of ht),rfl,_,rfl,iteF ?_⟩⟩
  refine⟨_,rfl,t,_,0,_,rfl,rfl,SqT.of ht,rfl,_,rfl,q.1,l,_,rfl,hl,_,rfl,?_⟩
  rw[hlp]
  by_cases h1:q.1 < ps.length
  ·rw[decide_eq_true h1]
   refine iteF ?_
   refine⟨_,rfl,t,_,1,_,rfl,rfl,SqT.of ht,rfl,_,rfl,q.2.1,d,_,rfl,hd,_,rfl,?_⟩
   rw[hld]
   by_cases h2:q.2.1 < S.length
   ·rw[decide_eq_true h2]
    refine iteF ?_
    refine⟨_,rfl,t,_,2,_,rfl,rfl,SqT.of ht,rfl,_,rfl,q.2.2,d,_,rfl,hd,_,rfl,?_⟩
    rw[hld]
    by_cases h3:q.2.2 < S.length
    ·rw[decide_eq_true h3]
     refine iteF ?_
     have hpt:(tl.map V.ref)[q.1]? = some (.ref (tl[q.1]'(by rw[List.length_map] at hlp;omega))):=by rw[List.getElem?_map,List.getElem?_eq_getElem (by rw[List.length_map] at hlp;omega)];rfl
     obtain⟨tp,p,ep,hp,htp⟩:=htl.get hpt
     rw[ep] at hpt
     have hgp:ps.getD q.1 (0,0)=p:=by simp [List.getD,hp]
     obtain⟨t1,e1,h1'⟩:=hR.at (getD_mem h2)
     obtain⟨t2,e2,h2'⟩:=hR.at (getD_mem h3)
     refine⟨_,rfl,_,rfl,t,_,0,_,rfl,rfl,SqT.of ht,rfl,l,_,(q.1:Int),_,rfl,rfl,SqL.of hl,bJ hpt,tp,_,0,_,rfl,rfl,SqT.of htp,rfl,?_⟩
     have hp64:=hps p (List.mem_of_getElem? hp)
     refine⟨_,rfl,_,rfl,t,_,1,_,rfl,rfl,SqT.of ht,rfl,d,_,(q.2.1:Int),_,rfl,rfl,SqL.of hd,bJ e1,_,rfl,t1,S.getD q.2.1 [],p.1,rfl,h1',hw _ (List.mem_of_getElem? (getD_mem h2)),hp64,fun a H1 fa s1 ca=>?_⟩
     refine⟨_,rfl,_,rfl,t,_,2,_,rfl,rfl,SqT.of (s1 _ _ ht),rfl,d,_,(q.2.2:Int),_,rfl,rfl,SqL.of (s1 _ _ hd),bJ e2,_,rfl,t2,S.getD q.2.2 [],p.1,rfl,s1 _ _ h2',hw _ (List.mem_of_getElem? (getD_mem h3)),hp64,fun b H2 fb s2 cb=>?_⟩
     refine⟨tupD (aK (S.getD q.2.1 []) p.1),tupD (aK (S.getD q.2.2 []) p.1),tX (s2 _ _ ca),tX cb,qZ _,qZ _,wV _,?_⟩
     rw[if_neg (by decide),Ir]
     have z:=k H2 (s1.trans s2)
     unfold okS at z
     rw[decide_eq_true h1,decide_eq_true h2,decide_eq_true h3,hgp] at z
     exact z
    ·rw[decide_eq_false h3]
     refine iteT (no ?_)
     unfold okS
     rw[decide_eq_false h3,Bool.false_and,Bool.and_false,Bool.and_false]
   ·rw[decide_eq_false h2]
    refine iteT (iteT (no ?_))
    unfold okS
    rw[decide_eq_false h2,Bool.false_and,Bool.and_false]
  ·rw[decide_eq_false h1]
   refine iteT (iteT (no ?_))
   unfold okS
   rw[decide_eq_false h1,Bool.false_and]
theorem anC (T:Txt K mg A):FnOk P w K mg base CX0 3 A.ye A.afl ["table", "parts", "row"] anB:=by
 have pO:=RX (P:=P) (w:=w) (base:=base) T
 refine T.akY.ok ahE (fun vs H Q E h=>?_) (fun cdv A' outer s H vs Q E hr h=>?_)
 ·obtain⟨a,l,b,S,pts,r,rfl,_⟩:=h;rfl
 ·obtain⟨a,l,b,S,pts,r,rfl,⟨ts,ha,hR⟩,h64,hw,hl,hpts,hb,hr6,k⟩:=h
  have hln:(ts.map V.ref).length=S.length:=by rw[List.length_map];exact hR.len
  refine⟨_,(aq (dR PassesOwn.never rfl (bI K (pv 1)) (aO (i:=3) ahE.nd rfl (Or.inr rfl))
   (aB (bN (bA (ad6 hr.units) (aC pO (hr.mono (by decide)) rfl T.vy T.tE.kp T.vq .nil aH (aj (pv 2) (aj (pv 3) ao))) (cP ["table", "parts", "row", "part"] (ak qJ) ["other", "part"] [none,some 3] ⟨rfl,by decide +kernel,by decide +kernel,by decide +kernel,by decide +kernel,by decide +kernel⟩ rfl (bI K (pv 0)) (fun _ _ _ _ _=>(aO (i:=0) (by show List.Nodup (["other", "part"]:List Str);decide +kernel) rfl (Or.inl rfl) (Or.inr rfl))) (fun _ _ _ _ _=>cG) (fun _ _ _ _ _=>(aC pO (hr.mono (by decide)) rfl T.vy T.tE.kp T.vq .nil aH (aj (pv 0) (aj (pv 1) ao))))) (by with_unfolding_all rfl)) (aB (aM cH)) aU)))
   (aB (aM cH))),?_⟩
  refine⟨_,rfl,l,rfl,⟨_,SqL.of hl⟩,f9 (K:=K) (a:=l) (xs:=nums pts) (fun i σ' H'=>Same H H'∧(∀ p∈pts.take i,aK r p∈S.map fun x=>aK x p)∧∃ o3:Option V,σ' = [some (.ref a),some (.ref l),some (.ref b),o3])
   ⟨Same.refl _,(fun p hp=>by simp at hp),none,rfl⟩ (fun i σ' H' _ ⟨e,_⟩=>SqL.of (e _ _ hl)) ?_ ?_⟩
  ·rintro i x σ' H1 hx ⟨s1,hI,o3,rfl⟩
   obtain⟨p,hp,rfl⟩:=tV hx
   have hpm:=List.mem_of_getElem? hp
   refine⟨_,rfl,_,rfl,b,r,p,rfl,s1 _ _ hb,hr6,hpts p hpm,fun t1 H2 f2 s2 c2=>?_⟩
   have s02:=s1.trans s2
   refine⟨_,rfl,a,rfl,⟨_,SqL.of (s02 _ _ ha)⟩,fun D hD=>cO (xs:=ts.map V.ref) (fun j ys H'=>Same H2 H'∧j≤S.length∧∃ us:List Addr,ys=us.map V.ref∧Tws H' us ((S.take j).map fun x=>aK x p)) ⟨Same.new hD,Nat.zero_le _,[],rfl,trivial⟩ (fun j ys H' _ ⟨e,_⟩=>SqL.of (e _ _ (s02 _ _ ha))) ?_ ?_⟩
   ·rintro j v ys H3 hv ⟨s3,hj,us,rfl,hU⟩ hDl
    obtain⟨t,y,rfl,hy,ht⟩:=((hR.same s02).same s3).get hv
    have hj':j<S.length:=(List.getElem?_eq_some_iff.mp hy).1
    refine dF ?_
    refine⟨_,rfl,_,rfl,t,y,p,rfl,ht,hw y (List.mem_of_getElem? hy),hpts p hpm,fun t4 H4 f4 s4 c4=>?_⟩
    have hD4:=s4 _ _ hDl
    refine CE1.mk hD4 (aP (by rw[List.length_map,hU.len,List.length_map,List.length_take];omega)) ⟨Same.up (s3.trans s4) hD,hj',us++[t4],by rw[List.map_append];rfl,?_⟩
    rw[List.take_add_one,hy,List.map_append]
    exact Tws.upd hD4 (Tws.snoc c4 (hU.same s4))
   ·rintro ys H3 ⟨s3,_,us,rfl,hU⟩ hDl
    rw[hln,List.take_length] at hU
    refine⟨tupD (aK r p),(S.map fun x=>aK x p).map tupD,tX (s3 _ _ c2),.lst hDl (tws_dt hU),qZ _,aie _,wV _,_,rfl,?_⟩
    rw[if_pos rfl,aov]
    refine ite2 (fun e=>?_) (fun e=>?_)
    ·have e':¬ aK r p∈S.map fun x=>aK x p:=by simpa using e
     have z:=k H3 (s02.trans s3)
     have ez:mkB S pts r=false:=by
      unfold mkB
      rw[List.all_eq_false]
      exact⟨p,hpm,by rw[decide_eq_false e'];decide⟩
     rw[ez] at z
     exact z
    ·have e':aK r p∈S.map fun x=>aK x p:=by simpa using e
     refine⟨s02.trans s3,fun q hq=>?_,_,rfl⟩
     rcases (lJ hp).mp hq with hq | rfl
     ·exact hI q hq
     ·exact e'
  ·rintro σ' H1 ⟨s1,hI,o3,rfl⟩
   rw[aY,List.take_length] at hI
   have z:=k H1 s1
   have ez:mkB S pts r=true:=List.all_eq_true.mpr fun p hp=>decide_eq_true (hI p hp)
   rw[ez] at z
   exact z
theorem M8 (T:Txt K mg A):FnOk P w K mg base CX0 7 A.iM A.Dr ["self", "rules", "parts"] (ac7 A.fu A.bB):=by
 have aV:=cB (P:=P) (w:=w) (base:=base) T
 have Qq:=Xe (P:=P) (w:=w) (base:=base) T
 have amg:=aj3 (P:=P) (w:=w) (base:=base) T
 have DY:=M7 (P:=P) (w:=w) (base:=base) T
 refine T.afv.ok pq (fun vs H Q E h=>?_) (fun cdv A' outer s H vs Q E hr h=>?_)
 ·obtain⟨x,d,p,m,l,c,ps,pts,L,rfl,_⟩:=h;rfl
 ·obtain⟨x,d,p,m,l,c,ps,pts,L,rfl,⟨⟨dx,hx⟩,⟨tL,hd,hT⟩⟩,hRu,⟨hc1,hc6,hlen,hps⟩,hl,hpl,hpts,k⟩:=h
  obtain⟨⟨dp,hp⟩,_⟩:=id hRu
  have h64:2 ^ c≤64:=Nat.pow_le_pow_right (by decide) hc6
  have hlL:(tL.map V.ref).length=L.length:=by rw[List.length_map];exact hT.len
  refine⟨_,(aq (aQ (i:=3) pq.nd rfl (Or.inl rfl) (eG (pv 1) T.bL T.bH aV (hr.mono (by decide)) T.bO .nil aH))
   (aq (aQ (i:=4) pq.nd rfl (Or.inl rfl) (aC Qq (hr.mono (by decide)) rfl T.aal T.Qi.kp T.aak .nil aH (aj (aR K (pv 1)) (aj (pv 2) ao))))
   (aq (dR PassesOwn.never rfl (bI K (aR K (pv 0))) (aO (i:=5) pq.nd rfl (Or.inl rfl))
   (aq (bN (bY (bG (aC amg (hr.mono (by decide)) rfl T.al6 T.aee.kp T.al5 .nil aH (aj (pv 5) (aj (pv 3) (aj (pv 4) ao)))))) (aB (aM cH)) aU)
   (aB (aQ (i:=4) pq.nd rfl (Or.inl rfl) (aC DY (hr.mono (by decide)) rfl T.Rz T.Dy.kp T.Ry .nil aH (aj (pv 4) (aj (bh (bQ K) (bh (aN K) (pv 3) (bh (bQ K) (pv 5) aA (fun _ _=>rfl)) (fun _ _=>rfl)) aA (fun _ _=>rfl)) (aj (bh (bQ K) (pv 5) aA (fun _ _=>rfl)) (aj (bh (bQ K) (pv 5) aA (fun _ _=>rfl)) ao)))))))))
   (aB (aM (mj (ZD hr.units) (bw amY (cD (aj aA ao)) (aR K (pv 1))) (pv 4) (by with_unfolding_all rfl))))))),?_⟩
  refine⟨_,rfl,p,dp,_,rfl,hp,iB _ _ (by decide +kernel) (by decide +kernel),p,m,c,ps,rfl,hRu,fun f tf hf htf=>?_⟩
  have s1:Same H (upd H f (.lst (tf.map V.ref))):=Same.new hf
  have hf1:(upd H f (.lst (tf.map V.ref))) f=some (.lst (tf.map V.ref)):=au
  have htf1:=htf.same s1
  generalize upd H f (.lst (tf.map V.ref))=H1 at s1 hf1 htf1 ⊢
  refine⟨_,rfl,p,A.bB,dp,_,_,rfl,s1 _ _ hp,T.bL,T.bx,cJ _ _,_,rfl,l,c,pts,rfl,s1 _ _ hl,hc6,hpl,hpts,fun g H2 hg s2 hN=>?_⟩
  have s02:=s1.trans s2
  obtain⟨tg,hg2,hRg,_,_⟩:=hN
  refine⟨_,rfl,x,A.fu,dx,_,_,rfl,s02 _ _ hx,T.qN,T.dY,sE _,d,rfl,⟨_,SqL.of (s02 _ _ hd)⟩,f9 (K:=K) (a:=d) (xs:=tL.map V.ref) (fun i σ' H'=>Same H H'∧i≤L.length∧H' f=some (.lst (tf.map V.ref))∧Tps H' tf ps∧∃ (S:List (List Nat)) (gd:Addr) (o5:Option V),runS c ps (L.take i) (fO c pts)=some S∧iw H' gd S ∧ σ' = [some (.ref x),some (.ref p),some (.ref l),some (.ref f),some (.ref gd),o5])
   ⟨s02,Nat.zero_le _,s2 _ _ hf1,htf1.same s2,_,g,none,rfl,⟨tg,hg2,hRg⟩,rfl⟩ (fun i σ' H' _ ⟨e,_⟩=>SqL.of (e _ _ hd)) ?_ ?_⟩
  ·rintro i v σ' H3 hv ⟨s3,hi,hf3,htf3,S,gd,o5,hrun,hS,rfl⟩
   obtain⟨t,q,rfl,hq,ht⟩:=(hT.same s3).get hv
   have hi':i<L.length:=(List.getElem?_eq_some_iff.mp hq).1
   have hsh:=Shp.run (Shp.ahB c pts) hrun
   have hrt:=aeo (c:=c) (ps:=ps) (S:=fO c pts) hq
   rw[hrun] at hrt
   have hrt':runS c ps (L.take (i+1)) (fO c pts)=runS c ps [q] S:=hrt
   refine⟨_,rfl,_,rfl,_,rfl,t,f,gd,q,ps,S,rfl,ht,⟨tf,hf3,htf3⟩,fun p hp=>by have:=(hps p hp).1;omega,hS,fun x hx=>by rw[hsh.2 x hx];exact hc6,fun H4 s4=>⟨_,rfl,?_⟩⟩
   have s04:=s3.trans s4
   cases hok:okS ps S q with
   | false =>
    refine iteT ?_
    have e:runS c ps L (fO c pts)=none:=ak6 (i:=i+1) (by rw[hrt'];show(if okS ps S q=true then _ else none)=none;rw[hok];exact if_neg (by decide))
    have z:=k H4 s04
    rw[aib e] at z
    exact z
   | true =>
    refine iteF ?_
    have hok':=hok
    unfold okS at hok'
    rw[Bool.and_eq_true,Bool.and_eq_true,Bool.and_eq_true] at hok'
    obtain⟨b1,b2,b3,_⟩:=hok'
    have b1:=of_decide_eq_true b1
    have b2:=of_decide_eq_true b2
    have b3:=of_decide_eq_true b3
    have htf4:=htf3.same s4
    have hlp:tf.length=ps.length:=htf4.len
    have hpt:(tf.map V.ref)[q.1]? = some (.ref (tf[q.1]'(by omega))):=by rw[List.getElem?_map,List.getElem?_eq_getElem (by omega)];rfl
    obtain⟨tp,pr,ep,hpr,htp⟩:=htf4.get hpt
    rw[ep] at hpt
    have hgp:ps.getD q.1 (0,0)=pr:=by simp [List.getD,hpr]
    have hpb:=hps pr (List.mem_of_getElem? hpr)
    have ht4:=s4 _ _ ht
    have hf4:=s4 _ _ hf3
    refine⟨_,rfl,_,rfl,_,rfl,t,_,0,_,rfl,rfl,SqT.of ht4,rfl,f,_,(q.1:Int),_,rfl,rfl,SqL.of hf4,bJ hpt,tp,_,1,_,rfl,rfl,SqT.of htp,rfl,_,rfl,t,_,1,_,rfl,rfl,SqT.of ht4,rfl,_,rfl,t,_,2,_,rfl,rfl,SqT.of ht4,rfl,gd,c,pr.2,q.2.1,q.2.2,S,rfl,hS.same s4,hc6,by rw[hsh.1];exact hpl,hsh.2,b2,b3,by omega,fun e H5 he s5 hN5=>?_⟩
    obtain⟨us,hU1,hU2,_,_⟩:=hN5
    refine⟨s04.trans s5,hi',s5 _ _ hf4,htf4.same s5,_,e,_,?_,⟨us,hU1,hU2⟩,rfl⟩
    rw[hrt',aaN hok]
    unfold doS
    rw[hgp]
  ·rintro σ' H3 ⟨s3,_,hf3,htf3,S,gd,o5,hrun,hS,rfl⟩
   rw[hlL,List.take_length] at hrun
   refine⟨by show 1≤sizeLine;decide,fun z hz=>?_⟩
   have sz:Same H3 (upd H3 z (.lst [.int 0])):=Same.new hz
   refine⟨_,rfl,p,A.bB,dp,_,_,rfl,sz _ _ (s3 _ _ hp),T.bL,T.bx,cJ _ _,z,(c:Int),[.int 0],rfl,rfl,au,by omega,by omega,by rw[Int.toNat_natCast];show 1 * c≤2 ^ 24;omega,fun y hy=>?_⟩
   rw[aif]
   have sy:Same (upd H3 z (.lst [.int 0])) (upd (upd H3 z (.lst [.int 0])) y (.lst (nums (List.replicate c 0)))):=Same.new hy
   refine⟨_,rfl,rowD (List.replicate c 0),S.map rowD,fZ au,su (hS.same (sz.trans sy)),eZ _,iz _,iD _,?_⟩
   rw[if_neg (by decide),Cu]
   have zz:=k _ (s3.trans (sz.trans sy))
   rw[aaO hrun] at zz
   exact zz
theorem M9 (T:Txt K mg A):FnOk P w K mg base CX0 7 A.iQ A.Ds ["self", "rules", "parts"] (ac8 A.bT A.bB):=by
 have aV:=cB (P:=P) (w:=w) (base:=base) T
 have Qn:=Xd (P:=P) (w:=w) (base:=base) T
 have aaA:=ael (P:=P) (w:=w) (base:=base) T
 have Iw:=RZ (P:=P) (w:=w) (base:=base) T
 have aow:=anC (P:=P) (w:=w) (base:=base) T
 refine T.afw.ok acQ (fun vs H Q E h=>?_) (fun cdv A' outer s H vs Q E hr h=>?_)
 ·obtain⟨x,a,b,p,m,l,c,ps,pts,S,r,rfl,_⟩:=h;rfl
 ·obtain⟨x,a,b,p,m,l,c,ps,pts,S,r,rfl,⟨⟨dx,hx⟩,hS,hb⟩,hRu,⟨hc1,hc6,hlen,hps⟩,hl,hpts,k⟩:=h
  obtain⟨⟨dp,hp⟩,_⟩:=id hRu
  have h64:2 ^ c≤64:=Nat.pow_le_pow_right (by decide) hc6
  refine⟨_,(aq (bN (PW.pt (kI (bY (bG (aC Qn (hr.mono (by decide)) rfl T.aah T.Qh.kp T.aag .nil aH (aj (aR K (pv 0)) (aj (aR K (pv 1)) ao))))) (lF (bY (bG (aC aaA (hr.mono (by decide)) rfl T.ahN T.aaf.kp T.ahM .nil aH (aj (aR K (pv 0)) (aj (aR K (pv 1)) ao)))))))) (aB (aM cH)) aU)
   (aq (bN (PW.pt (kI (bA (ZD hr.units) (aR K (pv 0)) (aR K (pv 0)) (by with_unfolding_all rfl)) (lF (bY (bG (aC Iw (hr.mono (by decide)) rfl T.WW T.HN.kp T.WT .nil aH (aj (aR K (pv 0)) (aj (eG (pv 1) T.bL T.bH aV (hr.mono (by decide)) T.bO .nil aH) ao)))))))) (aB (aM cH)) aU)
   (aB (aM (aC aow (hr.mono (by decide)) rfl T.aoq T.akY.kp T.aop .nil aH (aj (aR K (pv 0)) (aj (pv 2) (aj (aR K (pv 0)) ao)))))))),?_⟩
  have no:∀ H',Same H H'→oO c ps pts S r=false→Q (.bl false) H':=fun H' s' e=>by
   have z:=k H' s'
   rw[e] at z
   exact z
  refine⟨_,rfl,x,A.bT,dx,_,_,rfl,hx,T.dN,T.cu,jy _ _,_,rfl,p,A.bB,dp,_,_,rfl,hp,T.bL,T.bx,cJ _ _,a,c,S,rfl,hc6,hS,fun H1 s1=>⟨_,rfl,?_⟩⟩
  cases ht:tabB c S with
  | false =>
   refine iteT (iteT (no H1 s1 ?_))
   unfold oO
   rw[ht,Bool.false_and]
  | true =>
   refine iteF ?_
   have gd:=Lg ht
   refine⟨_,rfl,x,A.bT,dx,_,_,rfl,s1 _ _ hx,T.dN,T.eY,wX _ _,_,rfl,p,A.bB,dp,_,_,rfl,s1 _ _ hp,T.bL,T.bx,cJ _ _,b,c,r,rfl,hc6,s1 _ _ hb,fun H2 s2=>⟨_,rfl,?_⟩⟩
   have s02:=s1.trans s2
   cases hrw:rowB c r with
   | false =>
    refine iteT (no H2 s02 ?_)
    unfold oO
    rw[hrw,Bool.false_and,Bool.and_false]
   | true =>
    refine iteF ?_
    refine⟨_,rfl,x,A.bT,dx,_,_,rfl,s02 _ _ hx,T.dN,T.eY,wX _ _,_,rfl,x,A.bT,dx,_,_,rfl,s02 _ _ hx,T.dN,T.cu,jy _ _,rowD r,S.map rowD,fZ (s02 _ _ hb),su (hS.same s02),eZ _,iz _,iD _,_,rfl,?_⟩
    rw[if_neg (by decide),Cu]
    by_cases hin:r∈S
    ·rw[decide_eq_true hin]
     refine iteT (iteT (no H2 s02 ?_))
     unfold oO
     rw[decide_eq_true hin]
     simp
    ·rw[decide_eq_false hin]
     refine iteF ?_
     refine⟨_,rfl,x,A.bT,dx,_,_,rfl,s02 _ _ hx,T.dN,T.cu,jy _ _,_,rfl,p,dp,_,rfl,s02 _ _ hp,iB _ _ (by decide +kernel) (by decide +kernel),p,m,c,ps,rfl,hRu.same s02,fun f tf hf htf=>?_⟩
     have s3:Same H2 (upd H2 f (.lst (tf.map V.ref))):=Same.new hf
     have s03:=s02.trans s3
     refine⟨a,f,S,ps,rfl,hS.same s03,gd.1,fun y hy=>by rw[(gd.2 y hy).1];exact hc6,⟨tf,au,htf.same s3⟩,hlen,fun q hq=>⟨by have:=(hps q hq).1;omega,by have:=(hps q hq).2;omega⟩,fun H4 s4=>⟨_,rfl,?_⟩⟩
     have s04:=s03.trans s4
     cases hka:(ps.all fun p=>decide (Keeps S p)) with
     | false =>
      refine iteT (no H4 s04 ?_)
      unfold oO
      rw[hka,Bool.false_and,Bool.and_false,Bool.and_false,Bool.and_false]
     | true =>
      refine iteF ?_
      have hrl:r.length=c:=by
       unfold rowB at hrw
       rw[Bool.and_eq_true] at hrw
       exact of_decide_eq_true hrw.1
      refine⟨_,rfl,x,A.bT,dx,_,_,rfl,s04 _ _ hx,T.dN,T.cu,jy _ _,_,rfl,_,rfl,x,A.bT,dx,_,_,rfl,s04 _ _ hx,T.dN,T.eY,wX _ _,a,l,b,S,pts,r,rfl,hS.same s04,gd.1,fun y hy=>by rw[(gd.2 y hy).1];exact hc6,s04 _ _ hl,hpts,s04 _ _ hb,by omega,fun H5 s5=>?_⟩
      have z:=k H5 (s04.trans s5)
      unfold oO at z
      rw[ht,hrw,decide_eq_false hin,hka] at z
      exact z
end
end K12
namespace K12
open PySem L2 TC
def aj4 (K:W.Frag):Sp:=fun vs H Q _=>∃ (a:Addr) (ns:List Int) (k:Nat),vs = [.ref a,.int (k:Nat)]∧SqL K H a (ns.map V.int)∧∀ x:Int,Q (.int x) H
def aox:Sp:=fun vs H Q _=>∃ (x:Int) (k:Nat) (m:Nat),vs = [.int x,.int (k:Nat),.int (m:Nat)]∧0 < m∧m < 1000∧∀ r:Nat,r<m→Q (.int (r:Nat)) H
def apJ:Sp:=fun vs H Q _=>∃ (x:Int) (c:Nat),vs = [.int x,.int (c:Nat)]∧c≤6∧∀ s:Nat,s < 2 ^ c→Q (.int (s:Nat)) H
def anD:Sp:=fun vs H Q _=>∃ (x:Int) (c m:Nat),vs = [.int x,.int (c:Nat),.int (m:Nat)]∧c≤6∧m≤64 ∧
 ∀ (l:Addr) (ps:List (Nat×Nat)) (H':Hp),H l=none→Same H H'→dg H' l ps→ps.length≤m→(∀ p∈ps,p.1 < 2 ^ c∧p.2 < 2 ^ c)→Q (.ref l) H'
section
variable {P:Program} {w:World} {K:W.Frag} {mg:Str→Option Value} {base:Heap} {A:Adr}
theorem aaP (T:Txt K mg A):FnOk P w K mg base CX0 1 A.jg A.Al ["_law_script", "_law_k"] (aj4 K):=by
 refine T.pB.ok Z5 (fun vs H Q E h=>?_) (fun cdv A' outer s H vs Q E hr h=>?_)
 ·obtain⟨a,ns,n,rfl,_⟩:=h;rfl
 ·obtain⟨a,ns,n,rfl,hS,k⟩:=h
  refine⟨_,(aq (bN (bA Zn (pv 1) (aW (bM K) rfl T.gh dH (aj (pv 0) ao)) (bF _)) (aB (aM (bh (aN K) (pv 0) (pv 1) (fun _ _=>rfl)))) aU)
   (aB (aM aA))),?_⟩
  refine⟨_,rfl,_,rfl,a,_,rfl,.inl hS,_,_,rfl,rfl,_,rfl,?_⟩
  refine ite2 (fun e=>?_) (fun e=>?_)
  ·have e':=of_decide_eq_true e
   rw[List.length_map] at e'
   have hi:n<ns.length:=by omega
   have hg:(ns.map V.int)[n]? = some (.int ns[n]):=by rw[List.getElem?_map,List.getElem?_eq_getElem hi];rfl
   exact⟨_,rfl,_,rfl,a,_,(n:Int),_,rfl,rfl,hS,bJ hg,k _⟩
  ·exact k 0
theorem lE (T:Txt K mg A):FnOk P w K mg base CX0 1 A.m9 A.Qa ["_law_cell", "_law_k", "_law_many"] aox:=by
 refine T.fU.ok WM (fun vs H Q E h=>?_) (fun cdv A' outer s H vs Q E hr h=>?_)
 ·obtain⟨x,n,m,rfl,_⟩:=h;rfl
 ·obtain⟨x,n,m,rfl,hm,hm2,k⟩:=h
  refine⟨_,(aq (aQ (i:=3) WM.nd rfl (Or.inl rfl) (bw mL (bw eF (bw eF (bw uY (bw mL (pv 0) aA) aA) (bw uY (pv 1) aA)) aA) aA))
   (aB (aM (bw mL (bw mL (bw sY (bw uY (pv 3) (pv 3)) aA) aA) (pv 2))))),?_⟩
  refine⟨_,rfl,x,1000000007,rfl,rfl,(by show(0:Int) < 1000000007;decide),_,48271,rfl,rfl,.inr ⟨by decide,by decide⟩,_,rfl,_,69621,rfl,rfl,.inr ⟨by decide,by decide⟩,_,_,rfl,rfl,_,7,rfl,rfl,_,1000000007,rfl,rfl,(by show(0:Int) < 1000000007;decide),?_⟩
  have y0:0≤(x % 1000000007 * 48271+(n:Int) * 69621+7) % 1000000007:=Int.emod_nonneg _ (by decide)
  have y1:(x % 1000000007 * 48271+(n:Int) * 69621+7) % 1000000007 < 1000000007:=Int.emod_lt_of_pos _ (by decide)
  refine⟨_,rfl,_,rfl,_,_,rfl,rfl,.inl ⟨by omega,by omega⟩,_,1013,rfl,rfl,⟨by decide,by decide⟩,_,1000003,rfl,rfl,(by show(0:Int) < 1000003;decide),_,rfl,_,(m:Int),rfl,rfl,(by show(0:Int)<(m:Int);omega),?_⟩
  generalize (x % 1000000007 * 48271+(n:Int) * 69621+7) % 1000000007=y
  show Q (V.int (y * y / 1013 % 1000003 % (m:Int))) H
  have z0:0≤y * y / 1013 % 1000003 % (m:Int):=Int.emod_nonneg _ (by omega)
  have z1:y * y / 1013 % 1000003 % (m:Int)<m:=Int.emod_lt_of_pos _ (by omega)
  obtain⟨r,hr'⟩:=Int.eq_ofNat_of_zero_le z0
  rw[hr'] at z1 ⊢
  exact k r (by omega)
theorem Qs (T:Txt K mg A):FnOk P w K mg base CX0 3 A.qu A.VJ ["_law_cell", "_law_columns"] apJ:=by
 have cL:=lE (P:=P) (w:=w) (base:=base) T
 refine T.wI.ok Dg (fun vs H Q E h=>?_) (fun cdv A' outer s H vs Q E hr h=>?_)
 ·obtain⟨x,c,rfl,_⟩:=h;rfl
 ·obtain⟨x,c,rfl,hc,k⟩:=h
  refine⟨_,(aq (aQ (i:=2) Dg.nd rfl (Or.inl rfl) aA)
   (aq (dR PassesOwn.never rfl (cN rfl T.dO (aj (pv 1) ao)) (aO (i:=3) Dg.nd rfl (Or.inl rfl))
   (aB (bN (bA mO (aC cL (hr.mono (by decide)) rfl T.gm T.fU.kp T.gj .nil aH (aj (bw eF (pv 0) (bw uY aA (pv 3))) (aj aA (aj aA ao)))) aA (bF _)) (aB (aQ (i:=2) Dg.nd rfl (Or.inl rfl) (bw Rh (pv 2) (bw CV aA (pv 3))))) aU)))
   (aB (aM (pv 2))))),?_⟩
  refine⟨_,rfl,_,rfl,by omega,by omega,j6 (lo:=0) (n:=((c:Nat):Int).toNat) (fun i σ' H'=>H' = H∧∃ (s:Nat) (cv:Option V),σ' = [some (.int x),some (.int (c:Nat)),some (.int (s:Nat)),cv]∧s < 2 ^ c) ⟨rfl,0,none,rfl,Nat.two_pow_pos c⟩ ?_ ?_⟩
  ·rintro i σ' H' hi ⟨rfl,s,cv,rfl,hs⟩
   rw[Int.toNat_natCast] at hi
   rw[Int.zero_add]
   refine⟨_,rfl,_,rfl,31,(i:Int),rfl,rfl,.inl ⟨by decide,by decide⟩,_,_,rfl,rfl,_,2,3,rfl,by decide,by decide,fun r hr'=>⟨rfl,_,rfl,?_⟩⟩
   refine ite2 (fun e=>?_) (fun e=>?_)
   ·refine⟨_,rfl,_,rfl,1,(i:Int),rfl,rfl,⟨Int.natCast_nonneg i,by omega,by decide⟩,(s:Int),_,rfl,rfl,?_⟩
    refine⟨rfl,s ||| 2 ^ i,some (.int (i:Nat)),?_,Nat.or_lt_two_pow hs (Nat.pow_lt_pow_right (by decide) hi)⟩
    rw[← Ay,← DP];rfl
   ·exact⟨rfl,s,_,rfl,hs⟩
  ·rintro σ' H' ⟨rfl,s,cv,rfl,hs⟩
   exact⟨_,rfl,k s hs⟩
theorem afQ (T:Txt K mg A):FnOk P w K mg base CX0 5 A.lg A.Hy ["_law_cell", "_law_columns", "_law_most"] anD:=by
 have cL:=lE (P:=P) (w:=w) (base:=base) T
 have sG:=Qs (P:=P) (w:=w) (base:=base) T
 refine T.Ii.ok nW (fun vs H Q E h=>?_) (fun cdv A' outer s H vs Q E hr h=>?_)
 ·obtain⟨x,c,m,rfl,_⟩:=h;rfl
 ·obtain⟨x,c,m,rfl,hc,hm,k⟩:=h
  refine⟨_,(aq (aQ (i:=3) nW.nd rfl (Or.inl rfl) (cD ao))
   (aq (dR PassesOwn.never rfl (cN rfl T.dO (aj (aC cL (hr.mono (by decide)) rfl T.gm T.fU.kp T.gj .nil aH (aj (pv 0) (aj aA (aj (bw eF (pv 2) aA) ao)))) ao)) (aO (i:=4) nW.nd rfl (Or.inl rfl))
   (aq (aQ (i:=5) nW.nd rfl (Or.inl rfl) (aC sG (hr.mono (by decide)) rfl T.Ce T.wI.kp T.Cd .nil aH (aj (bw eF (bw sY (pv 0) (bw eF (pv 4) aA)) (bw uY aA (pv 4))) (aj (pv 1) ao))))
   (aq (aQ (i:=6) nW.nd rfl (Or.inl rfl) (aC sG (hr.mono (by decide)) rfl T.Ce T.wI.kp T.Cd .nil aH (aj (bw eF (bw eF (bw sY (pv 0) (bw eF (pv 4) aA)) (bw uY aA (pv 4))) aA) (aj (pv 1) ao))))
   (aq (bN (PW.pt (z8 (bA mO (aC cL (hr.mono (by decide)) rfl T.gm T.fU.kp T.gj .nil aH (aj (bw eF (pv 0) (pv 4)) (aj aA (aj aA ao)))) aA (bF _)) (sX (bA amM (pv 4) aA (bF _))))) (aB (aQ (i:=5) nW.nd rfl (Or.inl rfl) (bh (bQ K) (bh (aN K) (pv 3) (akF ajj aA) (fun _ _=>rfl)) aA (fun _ _=>rfl)))) aU)
   (aB (cQ (cF K (pv 3) (aj (Ab (aj (pv 5) (aj (pv 6) ao))) ao))))))))
   (aB (aM (pv 3))))),?_⟩
  refine⟨Nat.zero_le _,fun l hl=>?_⟩
  refine⟨_,rfl,_,rfl,(m:Int),1,rfl,rfl,x,1,m+1,rfl,by omega,by omega,fun n hn=>⟨(n:Int),rfl,by omega,by omega,?_⟩⟩
  refine j6 (lo:=0) (n:=((n:Nat):Int).toNat) (fun i σ' H'=>∃ (ps:List (Nat×Nat)) (kv lv rv:Option V),σ' = [some (.int x),some (.int (c:Nat)),some (.int (m:Nat)),some (.ref l),kv,lv,rv]∧Same H H'∧dg H' l ps∧ps.length=i∧∀ p∈ps,p.1 < 2 ^ c∧p.2 < 2 ^ c)
   ⟨[],none,none,none,rfl,Same.new hl,⟨[],au,trivial⟩,rfl,fun _ z=>nomatch z⟩ ?_ ?_
  ·rintro i σ' H' hi ⟨ps,kv,lv,rv,rfl,se,hP,hpl,hps⟩
   rw[Int.toNat_natCast] at hi
   rw[Int.zero_add]
   obtain⟨ts,hL,htp⟩:=id hP
   have hlen:=htp.len
   refine⟨_,rfl,_,rfl,(i:Int),3,rfl,rfl,x,_,rfl,rfl,⟨by omega,by omega⟩,_,rfl,977,(i:Int),rfl,rfl,.inl ⟨by decide,by decide⟩,_,_,rfl,rfl,_,rfl,_,c,rfl,hc,fun lf hlf=>?_⟩
   refine⟨_,rfl,_,rfl,(i:Int),7,rfl,rfl,x,_,rfl,rfl,⟨by omega,by omega⟩,_,rfl,977,(i:Int),rfl,rfl,.inl ⟨by decide,by decide⟩,_,_,rfl,rfl,_,5,rfl,rfl,_,rfl,_,c,rfl,hc,fun rg hrg=>?_⟩
   have tl:∀ lf':Nat,lf' < 2 ^ c→∀ q,H' q=none→∃ (ps':List (Nat×Nat)),Same H (upd (upd H' q (.tup [.int (lf':Nat),.int (rg:Nat)])) l (.lst (ts.map V.ref++[.ref q])))∧dg (upd (upd H' q (.tup [.int (lf':Nat),.int (rg:Nat)])) l (.lst (ts.map V.ref++[.ref q]))) l ps'∧ps'.length=i+1∧∀ p∈ps',p.1 < 2 ^ c∧p.2 < 2 ^ c:=by
    intro lf' h1 q hq
    have nlq:l≠q:=aL hL hq
    have hL2:(upd H' q (.tup [.int (lf':Nat),.int (rg:Nat)])) l=some (.lst (ts.map V.ref)):=by rw[aG nlq];exact hL
    refine⟨ps++[(lf',rg)],Same.up (Same.up se (se.free hq)) hl,⟨ts++[q],by rw[au,List.map_append];rfl,?_⟩,by rw[List.length_append,hpl];rfl,fun p hp=>?_⟩
    ·exact Tps.snoc (by rw[aG nlq.symm,au]) ((htp.same (Same.new hq)).upd hL2)
    ·rcases List.mem_append.mp hp with z | z
     ·exact hps p z
     ·have z':p=(lf',rg):=by simpa using z
      subst z'
      exact⟨h1,hrg⟩
   have hsz:(ts.map V.ref).length<sizeLine:=aP (by rw[List.length_map];omega)
   refine⟨_,rfl,_,rfl,x,(i:Int),rfl,rfl,_,4,3,rfl,by decide,by decide,fun r hr'=>⟨rfl,_,rfl,?_⟩⟩
   refine ite2 (fun e=>?_) (fun e=>?_)
   ·refine⟨_,rfl,(i:Int),0,rfl,rfl,_,rfl,?_⟩
    refine ite2 (fun e2=>?_) (fun e2=>?_)
    ·have hi0:0 < i:=by have:=of_decide_eq_true e2;omega
     obtain⟨j,rfl⟩ : ∃ j,i=j+1:=⟨i - 1,by omega⟩
     have hjl:j<ps.length:=by omega
     have hjt:j<ts.length:=by omega
     have hgt:(ts.map V.ref)[j]? = some (.ref ts[j]):=by rw[List.getElem?_map,List.getElem?_eq_getElem hjt];rfl
     obtain⟨t,p,et,hp,ht⟩:=htp.get hgt
     injection et with et
     subst et
     have hat:atI (ts.map V.ref) (-1)=some (.ref ts[j]):=by
      have hll:(ts.map V.ref).length=j+1:=by rw[List.length_map];omega
      unfold atI ixN
      rw[hll,if_neg (by decide),if_pos (by omega)]
      show(ts.map V.ref)[((-1:Int)+((j+1:Nat):Int)).toNat]? = _
      rw[show((-1:Int)+((j+1:Nat):Int)).toNat=j by omega]
      exact hgt
     refine⟨_,rfl,1,rfl,l,_,-1,_,rfl,rfl,SqL.of hL,hat,ts[j],_,1,_,rfl,rfl,SqT.of ht,rfl,?_⟩
     refine⟨_,rfl,.inl ⟨rfl,_,SqL.of hL⟩,_,rfl,_,rfl,by show 2≤sizeLine;decide,fun q hq=>⟨l,ts.map V.ref,.ref q,rfl,rfl,by rw[aG (aL hL hq)];exact hL,hsz,?_⟩⟩
     obtain⟨ps',a1,a2,a3,a4⟩:=tl p.2 (hps p (List.mem_of_getElem? hp)).2 q hq
     exact⟨ps',_,_,_,rfl,a1,a2,a3,a4⟩
    ·refine⟨_,rfl,.inl ⟨rfl,_,SqL.of hL⟩,_,rfl,_,rfl,by show 2≤sizeLine;decide,fun q hq=>⟨l,ts.map V.ref,.ref q,rfl,rfl,by rw[aG (aL hL hq)];exact hL,hsz,?_⟩⟩
     obtain⟨ps',a1,a2,a3,a4⟩:=tl lf hlf q hq
     exact⟨ps',_,_,_,rfl,a1,a2,a3,a4⟩
   ·refine iteF ?_
    refine⟨_,rfl,.inl ⟨rfl,_,SqL.of hL⟩,_,rfl,_,rfl,by show 2≤sizeLine;decide,fun q hq=>⟨l,ts.map V.ref,.ref q,rfl,rfl,by rw[aG (aL hL hq)];exact hL,hsz,?_⟩⟩
    obtain⟨ps',a1,a2,a3,a4⟩:=tl lf hlf q hq
    exact⟨ps',_,_,_,rfl,a1,a2,a3,a4⟩
  ·rintro σ' H' ⟨ps,kv,lv,rv,rfl,se,hP,hpl,hps⟩
   rw[Int.toNat_natCast] at hpl
   exact⟨_,rfl,k l ps H' hl se hP (by omega) hps⟩
end
theorem aoX:∀ s,s < 64→∀ i,i < 6→decide (((s / 2 ^ i) &&& 1)=1)=s.testBit i:=by decide +kernel
theorem ala {s i:Nat} (hs:s < 64) (hi:i < 6):decide (V.int (Builtin.bitAnd ((s:Int) / 2 ^ ((i:Int)).toNat) 1)=V.int 1)=s.testBit i:=by
 have e:(s:Int) / 2 ^ ((i:Int)).toNat=((s / 2 ^ i:Nat):Int):=by rw[Int.toNat_natCast];norm_cast
 rw[e,show Builtin.bitAnd ((s / 2 ^ i:Nat):Int) 1=((s / 2 ^ i &&& 1:Nat):Int) from Y9 _ 1,← aoX s hs i hi]
 generalize s / 2 ^ i &&& 1=z
 by_cases h:z=1
 ·subst h;rfl
 ·rw[decide_eq_false h]
  refine decide_eq_false fun q=>h ?_
  injection q with q
  omega
theorem Wa {x y:List Nat} (s:Nat) (h:x.length=y.length):aK x s=aK y s ↔ ∀ j,j<x.length→s.testBit j=true→x.getD j 0=y.getD j 0:=by
 unfold aK Az
 rw[← h,List.map_inj_left]
 constructor
 ·intro z j h1 h2
  exact z j (List.mem_filter.mpr ⟨List.mem_range.mpr h1,h2⟩)
 ·intro z j hj
  obtain⟨h1,h2⟩:=List.mem_filter.mp hj
  exact z j (List.mem_range.mp h1) h2
def aoy:Sp:=fun vs H Q _=>∃ (a b:Addr) (x y:List Nat) (s:Nat),vs = [.ref a,.ref b,.int (s:Nat)]∧H a=some (.lst (nums x))∧H b=some (.lst (nums y))∧x.length=y.length∧x.length≤6∧s < 64∧Q (.bl (decide (aK x s=aK y s))) H
section
variable {P:Program} {w:World} {K:W.Frag} {mg:Str→Option Value} {base:Heap} {A:Adr}
theorem yt (T:Txt K mg A):FnOk P w K mg base CX0 1 A.nj A.Qc ["_law_one", "_law_other", "_law_some"] aoy:=by
 refine T.pY.ok WN (fun vs H Q E h=>?_) (fun cdv A' outer s H vs Q E hr h=>?_)
 ·obtain⟨a,b,x,y,s,rfl,_⟩:=h;rfl
 ·obtain⟨a,b,x,y,s,rfl,ha,hb,hxy,hx6,hs,k⟩:=h
  refine⟨_,(aq (dR PassesOwn.never rfl (cN rfl T.dO (aj (aW (bM K) rfl T.gh dH (aj (pv 0) ao)) ao)) (aO (i:=3) WN.nd rfl (Or.inl rfl))
   (aB (bN (PW.pt (z8 (bA mO (bw CZ (bw aji (pv 2) (pv 3)) aA) aA (bF _)) (sX (bA GP (bh (aN K) (pv 0) (pv 3) (fun _ _=>rfl)) (bh (aN K) (pv 1) (pv 3) (fun _ _=>rfl)) (bF _))))) (aB (aM cH)) aU)))
   (aB (aM cH))),?_⟩
  refine⟨_,rfl,a,_,rfl,.inl (SqL.of ha),_,rfl,by rw[aY];omega,by rw[aY];omega,?_⟩
  rw[aY,Int.toNat_natCast]
  refine j6 (lo:=0) (n:=x.length) (fun i σ' H'=>H' = H∧(∀ j,j<i→s.testBit j=true→x.getD j 0=y.getD j 0)∧∃ cv,σ' = [some (.ref a),some (.ref b),some (.int (s:Nat)),cv]) ⟨rfl,fun j hj=>absurd hj (Nat.not_lt_zero _),none,rfl⟩ ?_ ?_
  ·rintro i σ' H' hi ⟨rfl,i1,cv,rfl⟩
   rw[Int.zero_add]
   have h1:(nums x)[i]? = some (.int (x.getD i 0:Nat)):=by unfold nums;rw[List.getElem?_map,getD_at hi];rfl
   have h2:(nums y)[i]? = some (.int (y.getD i 0:Nat)):=by unfold nums;rw[List.getElem?_map,getD_at (by omega)];rfl
   refine⟨_,rfl,_,rfl,(s:Int),(i:Int),rfl,rfl,Int.natCast_nonneg i,_,1,rfl,rfl,rfl,_,rfl,?_⟩
   rw[ala hs (by omega)]
   have i2:∀ j,j<i+1→(j=i→s.testBit j=true→x.getD j 0=y.getD j 0)→s.testBit j=true→x.getD j 0=y.getD j 0:=fun j hj z ht=>by
    rcases Nat.lt_or_ge j i with q | q
    ·exact i1 j q ht
    ·exact z (by omega) ht
   refine ite2 (fun e=>?_) (fun e=>?_)
   ·refine⟨_,rfl,_,rfl,a,_,(i:Int),_,rfl,rfl,SqL.of ha,bJ h1,_,rfl,_,rfl,b,_,(i:Int),_,rfl,rfl,SqL.of hb,bJ h2,rfl,_,rfl,?_⟩
    refine ite2 (fun e2=>?_) (fun e2=>?_)
    ·have hne:¬ x.getD i 0=y.getD i 0:=fun z=>by rw[z] at e2;simp at e2
     have hk:decide (aK x s=aK y s)=false:=decide_eq_false fun z=>hne ((Wa s hxy).mp z i hi e)
     rw[hk] at k
     exact k
    ·have heq:x.getD i 0=y.getD i 0:=by
      have z:V.int ((x.getD i 0:Nat):Int)=V.int ((y.getD i 0:Nat):Int):=by simpa using e2
      injection z with z
      omega
     exact⟨rfl,fun j hj ht=>i2 j hj (fun q _=>by rw[q];exact heq) ht,_,rfl⟩
   ·exact⟨rfl,fun j hj ht=>i2 j hj (fun q ht=>absurd (q ▸ ht) e) ht,_,rfl⟩
  ·rintro σ' H' ⟨rfl,i1,cv,rfl⟩
   have hk:decide (aK x s=aK y s)=true:=decide_eq_true ((Wa s hxy).mpr i1)
   rw[hk] at k
   exact k
end
structure Cbk (c:Nat) (ps:List (Nat×Nat)) (pts:List Nat) (L:List (Nat×Nat×Nat)) (S:List (List Nat)):Prop where
 run:runS c ps L (fO c pts)=some S
 zp:ZP pts S
 dn:TC.Dn pts.length S
 few:L.length+64 * tot c S≤64 * tot c (fO c pts)
 lt:∀ q∈L,q.1 < 64∧q.2.1 < 64∧q.2.2 < 64
theorem Cbk.shp {c:Nat} {ps:List (Nat×Nat)} {pts:List Nat} {L:List (Nat×Nat×Nat)} {S:List (List Nat)} (h:Cbk c ps pts L S):Shp c pts.length S:=Shp.run (Shp.ahB c pts) h.run
theorem Li {x y:List Nat} {s c:Nat} (hx:x.length=c) (hy:y.length=c) (hs:s < 2 ^ c):aK x s=aK y s ↔ Lk s x y:=by
 rw[Wa s (by rw[hx,hy]),hx]
 exact⟨fun h j hj=>h j (ae5 hs hj) hj,fun h j _ hj=>h j hj⟩
theorem aoz {c:Nat} {pts:List Nat} (hc:c≤6) (hp:pts.length≤64):64 * tot c (fO c pts)≤2000000:=by
 have h:=alX (c:=c) (S:=fO c pts) aeb
 rw[Px] at h
 have h2:pts.length * (c * pts.length)≤64 * (6 * 64):=Nat.mul_le_mul hp (Nat.mul_le_mul hc hp)
 omega
theorem p7 (A B:List (List Nat)):PyData.eqv (.list (A.map rowD)) (.list (B.map rowD))=decide (A=B):=by
 show PyData.eqvAll (A.map rowD) (B.map rowD)=_
 induction A generalizing B with
 | nil=>cases B with
  | nil=>rfl
  | cons b B=>simp [PyData.eqvAll]
 | cons a A ih=>cases B with
  | nil=>simp [PyData.eqvAll]
  | cons b B =>
   show(PyData.eqv (rowD a) (rowD b) && PyData.eqvAll (A.map rowD) (B.map rowD))=_
   rw[ih B,pG]
   by_cases h1:a=b
   ·subst h1;simp
   ·simp [h1]
def ac9 (CB CL CR:Addr):Sp:=fun vs H Q _=>∃ (x m l:Addr) (c:Nat) (ps:List (Nat×Nat)) (pts:List Nat),vs = [.ref x,.ref l]∧bV CR H x m c ps∧Good c ps∧ps.length≤8∧H l=some (.lst (nums pts))∧1≤pts.length∧pts.length < 64∧(∀ p∈pts,1≤p∧p < 2 ^ c)∧pts.foldl (· ||| ·) 0=2 ^ c - 1 ∧
 (∀ (f d:Addr) (L:List (Nat×Nat×Nat)) (H':Hp),H f=none→H d=none→Same H H'→V8 CB H' f d L→R4 c ps pts L=true→L.length≤2000000→(∀ q∈L,q.1 < 64∧q.2.1 < 64∧q.2.2 < 64)→Q (.ref f) H') ∧
 (∀ (f a b:Addr) (S:List (List Nat)) (H':Hp),H f=none→H a=none→H b=none→Same H H'→V9 CL H' f a b S (List.replicate c 0)→oO c ps pts S (List.replicate c 0)=true→S.length≤63→Q (.ref f) H')
theorem tab_of {c:Nat} {pts:List Nat} {S:List (List Nat)} (hp:pts.length≤64) (hs:Shp c pts.length S) (hd:TC.Dn pts.length S):tabB c S=true:=ama ⟨by rw[hs.1];exact hp,fun r hr=>⟨hs.2 r hr,fun n hn=>by
 obtain⟨j,hj⟩:=List.mem_iff_getElem?.mp hn
 have h:=hd r hr j
 have:r.getD j 0=n:=by simp [List.getD,hj]
 omega⟩⟩
theorem anE (c:Nat):rowB c (List.replicate c 0)=true:=by
 unfold rowB
 rw[decide_eq_true (List.length_replicate),Bool.true_and]
 exact List.all_eq_true.mpr fun n hn=>by rw[(List.mem_replicate.mp hn).2];decide
theorem aj5 {c p:Nat} {x:List Nat} (hx:x.length=c) (hp:p < 2 ^ c) (h:Zer p x):aK (List.replicate c 0) p=aK x p:=by
 rw[Li List.length_replicate hx hp]
 intro j hj
 rw[h j hj]
 simp [List.getD,List.getElem?_replicate]
 split <;> rfl
theorem mk_zero {c:Nat} {pts:List Nat} {S:List (List Nat)} (hp:∀ p∈pts,p < 2 ^ c) (hs:Shp c pts.length S) (hz:ZP pts S):mkB S pts (List.replicate c 0)=true:=by
 refine List.all_eq_true.mpr fun p hpm=>decide_eq_true ?_
 obtain⟨i,hi⟩:=List.mem_iff_getElem?.mp hpm
 obtain⟨x,hx,hzx⟩:=hz i p hi
 have hxm:=List.mem_of_getElem? hx
 exact List.mem_map.mpr ⟨x,hxm,(aj5 (hs.2 x hxm) (hp p hpm) hzx).symm⟩
def TabN (B:Addr) (H:Hp) (a:Addr) (S:List (List Nat)):Prop:=∃ ts:List Addr,H a=some (.lst (ts.map V.ref))∧Rws H ts S∧a≠B∧B∉ts
theorem TabN.at {B:Addr} {H:Hp} {a:Addr} {S:List (List Nat)}:TabN B H a S→iw H a S:=fun ⟨ts,h,r,_⟩=>⟨ts,h,r⟩
theorem TabN.same {B:Addr} {H H':Hp} {a:Addr} {S:List (List Nat)} (e:Same H H'):TabN B H a S→TabN B H' a S:=fun ⟨ts,h,r,n⟩=>⟨ts,e _ _ h,r.same e,n⟩
theorem TabN.upd {B:Addr} {H:Hp} {a:Addr} {S:List (List Nat)} {o:HO}:TabN B H a S→TabN B (L2.upd H B o) a S:=fun ⟨ts,h,r,n1,n2⟩=>⟨ts,by rw[aG n1];exact h,Rws.upd r n2,n1,n2⟩
theorem TabN.new {B:Addr} {H0 H:Hp} {a:Addr} {S:List (List Nat)} {o:HO} (hB:H0 B=some o) (ha:H0 a=none):afJ H0 H a S→TabN B H a S:=fun ⟨ts,h,r,n,_⟩=>⟨ts,h,r,(fun z=>by rw[z,hB] at ha;cases ha),(fun z=>by have:=(n B z).1;rw[hB] at this;cases this)⟩
theorem TabN.old {B:Addr} {H:Hp} {a:Addr} {S:List (List Nat)} (hB:H B=none):iw H a S→TabN B H a S:=by
 rintro ⟨ts,h,r⟩
 refine⟨ts,h,r,(fun z=>by rw[z,hB] at h;cases h),fun z=>?_⟩
 obtain⟨j,hj⟩:=List.mem_iff_getElem?.mp z
 obtain⟨t',r',e1,e2,e3⟩:=r.get (i:=j) (v:=.ref B) (by rw[List.getElem?_map,hj];rfl)
 injection e1 with e1
 rw[← e1,hB] at e3
 cases e3
section
variable {P:Program} {w:World} {K:W.Frag} {mg:Str→Option Value} {base:Heap} {A:Adr}
theorem ada (T:Txt K mg A):FnOk P w K mg base CX0 7 A.jK A.Dv ["rules", "parts"] (ac9 A.fu A.bT A.bB):=by
 have afR:=ac1 (P:=P) (w:=w) (base:=base) T
 have aV:=cB (P:=P) (w:=w) (base:=base) T
 have Qq:=Xe (P:=P) (w:=w) (base:=base) T
 have aj6:=aid (P:=P) (w:=w) (base:=base) T
 have DY:=M7 (P:=P) (w:=w) (base:=base) T
 have IW:=R5 (P:=P) (w:=w) (base:=base) T
 have Ja:=afP (P:=P) (w:=w) (base:=base) T
 refine T.RK.ok dW (fun vs H Q E h=>?_) (fun cdv A' outer s H vs Q E hr h=>?_)
 ·obtain⟨x,m,l,c,ps,pts,rfl,_⟩:=h;rfl
 ·obtain⟨x,m,l,c,ps,pts,rfl,hRu,⟨hc1,hc6,hlen,hps⟩,hp8,hl,hp1,hp63,hpts,hall,kB,kL⟩:=h
  obtain⟨⟨dx,hx⟩,_⟩:=id hRu
  have h64:2 ^ c≤64:=Nat.pow_le_pow_right (by decide) hc6
  have hpt2:∀ p∈pts,p < 2 ^ c:=fun p hp=>(hpts p hp).2
  refine⟨_,(aq (cQ (aC afR (hr.mono (by decide)) rfl T.afn T.Rw.kp T.afm .nil aH (aj (aR K (pv 0)) (aj (pv 1) ao))))
   (aq (aQ (i:=2) dW.nd rfl (Or.inl rfl) (eG (pv 0) T.bL T.bH aV (hr.mono (by decide)) T.bO .nil aH))
   (aq (aQ (i:=3) dW.nd rfl (Or.inl rfl) (aC Qq (hr.mono (by decide)) rfl T.aal T.Qi.kp T.aak .nil aH (aj (aR K (pv 0)) (aj (pv 1) ao))))
   (aq (aQ (i:=4) dW.nd rfl (Or.inl rfl) (bw amY (cD (aj aA ao)) (aR K (pv 0))))
   (aq (aQ (i:=5) dW.nd rfl (Or.inl rfl) (cD ao))
   (aq (aQ (i:=6) dW.nd rfl (Or.inl rfl) amI)
   (aq (Zk PassesOwn.never (PW.pt (z8 (bA (oR hr.units) (pv 3) (pv 6) (bF _)) (sX (bA (ad6 hr.units) (pv 4) (pv 3) (by with_unfolding_all rfl))))) (aq (aQ (i:=6) dW.nd rfl (Or.inl rfl) (pv 3))
   (aB (dR PassesOwn.never rfl (Zy K rfl T.lD vp (aj (pv 2) ao)) (qH K (n:=2) rfl (cZ (aO (i:=7) dW.nd rfl (Or.inl rfl)) (cZ (aO (i:=8) dW.nd rfl (Or.inl rfl)) qG)))
   (aB (dR PassesOwn.never rfl (bI K (aC aj6 (hr.mono (by decide)) rfl T.ajJ T.aao.kp T.ajI .nil aH (aj (pv 3) (aj (pv 7) (aj (pv 8) ao))))) (aO (i:=9) dW.nd rfl (Or.inl rfl))
   (aq (aQ (i:=3) dW.nd rfl (Or.inl rfl) (aC DY (hr.mono (by decide)) rfl T.Rz T.Dy.kp T.Ry .nil aH (aj (pv 3) (aj (bh (bQ K) (pv 8) aA (fun _ _=>rfl)) (aj (bh (bQ K) (pv 9) aA (fun _ _=>rfl)) (aj (bh (bQ K) (pv 9) aA (fun _ _=>rfl)) ao))))))
   (aB (cQ (cF K (pv 5) (aj (pv 9) ao)))))))))))
   (aq (bN (bA (ZD hr.units) (pv 4) (pv 3) (by with_unfolding_all rfl)) (aB (aM (pN T.Ld IW (hr.mono (by decide)) rfl T.ajN T.WY .nil aH (aj (pv 5) ao)))) aU)
   (aB (aM (pN T.Le Ja (hr.mono (by decide)) rfl T.ajO T.W2 .nil aH (aj (pv 3) (aj (pv 4) ao))))))))))))),?_⟩
  refine⟨_,rfl,x,A.bB,dx,_,_,rfl,hx,T.bL,T.bx,cJ _ _,_,rfl,l,c,pts,rfl,hc6,hl,hp1,by omega,hpts,hall,?_⟩
  refine⟨_,rfl,x,dx,_,rfl,hx,iB _ _ (by decide +kernel) (by decide +kernel),x,m,c,ps,rfl,hRu,fun f tf hf htf=>?_⟩
  have s1:Same H (upd H f (.lst (tf.map V.ref))):=Same.new hf
  have hf1:(upd H f (.lst (tf.map V.ref))) f=some (.lst (tf.map V.ref)):=au
  have htf1:=htf.same s1
  generalize upd H f (.lst (tf.map V.ref))=H1 at s1 hf1 htf1 ⊢
  have hlp:(tf.map V.ref).length=ps.length:=by rw[List.length_map];exact htf1.len
  refine⟨_,rfl,x,A.bB,dx,_,_,rfl,s1 _ _ hx,T.bL,T.bx,cJ _ _,_,rfl,l,c,pts,rfl,s1 _ _ hl,hc6,by omega,fun p hp=>by have:=hpt2 p hp;omega,fun g H2 hg s2 hN=>?_⟩
  have s02:=s1.trans s2
  obtain⟨tg,hg2,hRg,_,_⟩:=hN
  refine⟨by show 1≤sizeLine;decide,fun z hz=>?_⟩
  have sz:Same H2 (upd H2 z (.lst [.int 0])):=Same.new hz
  refine⟨_,rfl,x,A.bB,dx,_,_,rfl,sz _ _ (s02 _ _ hx),T.bL,T.bx,cJ _ _,z,(c:Int),[.int 0],rfl,rfl,au,by omega,by omega,by rw[Int.toNat_natCast];show 1 * c≤2 ^ 24;omega,fun y hy=>?_⟩
  rw[aif]
  have sy:Same (upd H2 z (.lst [.int 0])) (upd (upd H2 z (.lst [.int 0])) y (.lst (nums (List.replicate c 0)))):=Same.new hy
  have hy2:(upd (upd H2 z (.lst [.int 0])) y (.lst (nums (List.replicate c 0)))) y=some (.lst (nums (List.replicate c 0))):=au
  have s2y:=sz.trans sy
  generalize upd (upd H2 z (.lst [.int 0])) y (.lst (nums (List.replicate c 0)))=H3 at sy hy2 s2y ⊢
  refine⟨Nat.zero_le _,fun B hB=>?_⟩
  have sB:Same H3 (upd H3 B (.lst [])):=Same.new hB
  have s3B:=s2y.trans sB
  have s0B:=s02.trans s3B
  have hBH:H B=none:=(s02.trans s2y).free hB
  have hyB:=sB _ _ hy2
  have hBB:(upd H3 B (.lst [])) B=some (.lst ([]:List V)):=au
  have hf4:=s3B _ _ (s2 _ _ hf1)
  have htf4:=(htf1.same s2).same s3B
  have hTg4:TabN B (upd H3 B (.lst [])) g (fO c pts):=(TabN.old hB (iw.same s2y ⟨tg,hg2,hRg⟩)).same sB
  have nyB:y≠B:=aL hy2 hB
  have nfB:f≠B:=aL (s2y _ _ (s2 _ _ hf1)) hB
  generalize upd H3 B (.lst [])=H4 at sB s3B s0B hyB hBB hf4 htf4 hTg4 ⊢
  have hst:∀ {H':Hp} {gd:Addr} {S:List (List Nat)},iw H' gd S→Dt H' (.ref gd) (.list (S.map rowD)):=fun h=>su h
  have dS:∀ S:List (List Nat),(PyData.list (S.map rowD)).depth≤60:=fun S=>by
   show PyData.depthAll _+1≤60
   have:=DX S
   omega
  refine aoj (fun n σ H'=>∃ (S:List (List Nat)) (L:List (Nat×Nat×Nat)) (gd:Addr) (us:List Addr) (bf:V) (o7 o8 o9:Option V),Same H H'∧TabN B H' gd S∧H' B=some (.lst (us.map V.ref))∧Trs H' us L∧Cbk c ps pts L S∧H' y=some (.lst (nums (List.replicate c 0)))∧H' f=some (.lst (tf.map V.ref))∧Tps H' tf ps ∧
    ((bf = .non∧n=2 * tot c S+2) ∨ ∃ (bd:Addr) (S0:List (List Nat)),bf = .ref bd∧TabN B H' bd S0∧((S=S0∧(∀ p∈ps,Keeps S p)∧n=2 * tot c S)∨(S≠S0∧n=2 * tot c S+1))) ∧
    σ = [some (.ref x),some (.ref l),some (.ref f),some (.ref gd),some (.ref y),some (.ref B),some bf,o7,o8,o9])
   (2 * tot c (fO c pts)+2) ⟨_,[],g,[],.non,none,none,none,s0B,hTg4,hBB,trivial,⟨rfl,ZP.ahB hpt2,aeb,by simp,fun q hq=>by simp at hq⟩,hyB,hf4,htf4,.inl ⟨rfl,rfl⟩,rfl⟩ ?_ ?_
  ·rintro n σ H5 ⟨S,L,gd,us,bf,o7,o8,o9,s5,hS,hBl,hU,hC,hy5,hf5,htf5,hbf,rfl⟩
   have hsh:=hC.shp
   have hfew:=aoz (c:=c) (pts:=pts) hc6 (by omega)
   suffices after:((∀ p∈ps,Keeps S p)∨List.replicate c 0∈S)→tSeq _ _ { nx:=fun x H'=>Q V.non H',rt:=Q } [some (.ref x),some (.ref l),some (.ref f),some (.ref gd),some (.ref y),some (.ref B),some bf,o7,o8,o9] H5 by
    obtain⟨d2,hd2,lay2,e1,e2⟩ : ∃ d2:PyData,Dt H5 bf d2∧d2.canLay0=true∧(PyData.eqv (.list (S.map rowD)) d2=true→∀ p∈ps,Keeps S p)∧(PyData.eqv (.list (S.map rowD)) d2=false→2 * tot c S<n):=by
     rcases hbf with ⟨rfl,rfl⟩ | ⟨bd,S0,rfl,hbd,h⟩
     ·exact⟨.none,.non,rfl,fun z=>by simp [PyData.eqv] at z,fun _=>by omega⟩
     ·refine⟨.list (S0.map rowD),hst hbd.at,iz S0,fun z=>?_,fun z=>?_⟩
      ·rw[p7] at z
       have z':=of_decide_eq_true z
       rcases h with ⟨_,h,_⟩ | ⟨h,_⟩
       ·exact h
       ·exact absurd z' h
      ·rw[p7] at z
       rcases h with ⟨h,_⟩ | ⟨_,h⟩
       ·rw[decide_eq_true h] at z;cases z
       ·omega
    refine⟨_,rfl,_,rfl,.list (S.map rowD),d2,hst hS.at,hd2,iz S,lay2,dS S,_,rfl,?_⟩
    rw[if_pos rfl]
    cases he:PyData.eqv (.list (S.map rowD)) d2 with
    | true=>exact iteF (iteF (after (.inl (e1 he))))
    | false =>
     refine iteT ?_
     refine⟨_,rfl,_,rfl,rowD (List.replicate c 0),S.map rowD,fZ hy5,hst hS.at,eZ _,iz _,iD _,_,rfl,?_⟩
     rw[if_pos rfl,Cu]
     by_cases hz:List.replicate c 0∈S
     ·rw[decide_eq_true hz]
      exact iteF (after (.inr hz))
     rw[decide_eq_false hz]
     refine iteT ?_
     have hn:=e2 he
     refine⟨_,rfl,_,rfl,f,tf.map V.ref,rfl,hf5,?_⟩
     refine ahw (K:=K) (a:=f) (xs:=tf.map V.ref) (fun i σ H'=>∃ (S1:List (List Nat)) (L1:List (Nat×Nat×Nat)) (g1:Addr) (us1:List Addr) (o7 o8 o9:Option V),i≤ps.length∧Same H H'∧TabN B H' gd S∧TabN B H' g1 S1∧H' B=some (.lst (us1.map V.ref))∧Trs H' us1 L1∧Cbk c ps pts L1 S1∧H' y=some (.lst (nums (List.replicate c 0)))∧H' f=some (.lst (tf.map V.ref))∧Tps H' tf ps ∧
       (tot c S1 < tot c S∨(S1=S∧∀ p∈ps.take i,Keeps S p)) ∧ σ = [some (.ref x),some (.ref l),some (.ref f),some (.ref g1),some (.ref y),some (.ref B),some (.ref gd),o7,o8,o9])
      ⟨S,L,gd,us,o7,o8,o9,Nat.zero_le _,s5,hS,hS,hBl,hU,hC,hy5,hf5,htf5,.inr ⟨rfl,fun p hp=>by simp at hp⟩,rfl⟩ (fun i σ H' _ ⟨_,_,_,_,_,_,_,_,_,_,_,_,_,_,_,e,_⟩=>e) ?_ ?_
     ·rintro i v σ H6 q hv ⟨S1,L1,g1,us1,o7,o8,o9,hi,s6,hS6,hS1,hB6,hU6,hC1,hy6,hf6,htf6,htot,rfl⟩ hq
      obtain⟨t,p,rfl,hp,ht⟩:=htf6.get hv
      have hi':i<ps.length:=(List.getElem?_eq_some_iff.mp hp).1
      have hpm:=List.mem_of_getElem? hp
      have hpb:=hps p hpm
      have hgp:ps.getD i (0,0)=p:=by simp [List.getD,hp]
      have hsh1:=hC1.shp
      have sq:Same H6 (upd H6 q (.tup [.int (i:Nat),.ref t])):=Same.new hq
      refine⟨q,_,rfl,SqT.of au,rfl,_,_,rfl,_,_,rfl,rfl,?_⟩
      refine⟨_,rfl,_,rfl,_,rfl,g1,t,i,S1,p,rfl,hS1.at.same sq,by rw[hsh1.1];omega,fun r hr=>by rw[hsh1.2 r hr];exact hc6,sq _ _ ht,by omega,by omega,fun d2 L2 H7 hd2 s7 hT2 hBy hL2 hKe=>?_⟩
      have s67:=sq.trans s7
      obtain⟨ts2,hd7,hT7⟩:=hT2
      have hl2:(ts2.map V.ref).length=L2.length:=by rw[List.length_map];exact hT7.len
      have nd2B:d2≠B:=fun z=>by
       have:=sq _ _ hB6
       rw[← z,hd2] at this
       cases this
      refine⟨d2,rfl,⟨_,SqL.of hd7⟩,f9 (K:=K) (a:=d2) (xs:=ts2.map V.ref) (fun n σ H'=>∃ (S2:List (List Nat)) (g2:Addr) (us2:List Addr) (o9:Option V),n≤L2.length∧Same H H'∧TabN B H' gd S∧TabN B H' g2 S2∧H' B=some (.lst (us2.map V.ref))∧Trs H' us2 (L1++L2.take n)∧Cbk c ps pts (L1++L2.take n) S2∧Lks p.1 S1 S2∧((n=0∧S2=S1)∨(0 < n∧tot c S2 < tot c S1))∧H' y=some (.lst (nums (List.replicate c 0)))∧H' f=some (.lst (tf.map V.ref))∧Tps H' tf ps∧H' t=some (.tup [.int (p.1:Nat),.int (p.2:Nat)])∧H' d2=some (.lst (ts2.map V.ref))∧Trs H' ts2 L2 ∧
        σ = [some (.ref x),some (.ref l),some (.ref f),some (.ref g2),some (.ref y),some (.ref B),some (.ref gd),some (.int (i:Nat)),some (.ref t),o9])
       ⟨S1,g1,us1,_,Nat.zero_le _,s6.trans s67,hS6.same s67,hS1.same s67,s67 _ _ hB6,by rw[List.take_zero,List.append_nil];exact hU6.same s67,by rw[List.take_zero,List.append_nil];exact hC1,Lks.refl _ _,.inl ⟨rfl,rfl⟩,s67 _ _ hy6,s67 _ _ hf6,htf6.same s67,s67 _ _ ht,hd7,hT7,rfl⟩ (fun n σ H' _ ⟨_,_,_,_,_,_,_,_,_,_,_,_,_,_,_,_,_,e,_⟩=>SqL.of e) ?_ ?_⟩
      ·rintro k2 v2 σ H8 hv2 ⟨S2,g2,us2,o9,hk,s8,hS8,hS2,hB8,hU8,hC2,hLk,htt,hy8,hf8,htf8,ht8,hd8,hT8,rfl⟩
       obtain⟨t2,q2,rfl,hq2,ht2⟩:=hT8.get hv2
       have hk':k2 < L2.length:=(List.getElem?_eq_some_iff.mp hq2).1
       obtain⟨qa,qb,qc,qd,qe⟩:=hBy q2 (List.mem_of_getElem? hq2)
       have hsh2:=hC2.shp
       have ea:=getD_mem qb
       have eb:=getD_mem qc
       have ea2:=getD_mem (S:=S2) (i:=q2.2.1) (by rw[hsh2.1,← hsh1.1];exact qb)
       have eb2:=getD_mem (S:=S2) (i:=q2.2.2) (by rw[hsh2.1,← hsh1.1];exact qc)
       have wa:=hsh1.2 _ (List.mem_of_getElem? ea)
       have wb:=hsh1.2 _ (List.mem_of_getElem? eb)
       have wa2:=hsh2.2 _ (List.mem_of_getElem? ea2)
       have wb2:=hsh2.2 _ (List.mem_of_getElem? eb2)
       have hlk1:=(Li wa wb hpb.1).mp qd
       have hlk2:=hLk.two ea eb ea2 eb2 hlk1
       have hok:okS ps S2 q2=true:=by
        unfold okS
        rw[qa,hgp,decide_eq_true hi',decide_eq_true (show q2.2.1 < S2.length by rw[hsh2.1,← hsh1.1];exact qb),decide_eq_true (show q2.2.2 < S2.length by rw[hsh2.1,← hsh1.1];exact qc),decide_eq_true ((Li wa2 wb2 hpb.1).mpr hlk2)]
        rfl
       have hdo:doS c ps S2 q2=dG c p.2 q2.2.1 q2.2.2 S2:=by unfold doS;rw[qa,hgp]
       refine⟨_,rfl,_,rfl,t,_,1,_,rfl,rfl,SqT.of ht8,rfl,_,rfl,t2,_,1,_,rfl,rfl,SqT.of ht2,rfl,_,rfl,t2,_,2,_,rfl,rfl,SqT.of ht2,rfl,g2,c,p.2,q2.2.1,q2.2.2,S2,rfl,hS2.at,hc6,by rw[hsh2.1];omega,hsh2.2,by rw[hsh2.1,← hsh1.1];exact qb,by rw[hsh2.1,← hsh1.1];exact qc,by omega,fun g3 H9 hg3 s9 hN9=>?_⟩
       have hT9:=TabN.new hB8 hg3 hN9
       have hB9:=s9 _ _ hB8
       have hUl:us2.length=L1.length+k2:=by rw[hU8.len,List.length_append,List.length_take];omega
       have hfew2:=hC2.few
       refine⟨_,rfl,.inl ⟨rfl,_,SqL.of hB9⟩,_,rfl,B,_,_,rfl,rfl,hB9,by
        rw[List.length_map,hU8.len]
        have:=hC2.few
        show _ < 2 ^ 24
        omega,?_⟩
       have etk:L1++L2.take (k2+1)=(L1++L2.take k2)++[q2]:=by rw[List.take_add_one,hq2,List.append_assoc];rfl
       have hBH9:∀ {b:Addr} {o:HO},H9 b=some o→b≠B→(upd H9 B (.lst (us2.map V.ref++[.ref t2]))) b=some o:=fun h n=>by rw[aG n];exact h
       have nB:∀ {b:Addr} {xs:List V},H9 b=some (.tup xs)→b≠B:=fun h=>iG h hB9 (by intro z;cases z)
       have hlt0:tot c (dG c p.2 q2.2.1 q2.2.2 S2)<tot c S1:=by
        rcases htt with ⟨rfl,rfl⟩ | ⟨_,h⟩
        ·obtain⟨j,hj,hb,hne⟩:=apF hpb.2 (fun z=>qe ((Li wa wb hpb.2).mpr z))
         exact apE (c:=c) ea eb hj hb hne
        ·exact Nat.lt_of_le_of_lt (apC _ _ _ _ _) h
       have hnew:Cbk c ps pts (L1++L2.take (k2+1)) (dG c p.2 q2.2.1 q2.2.2 S2):=by
        rw[etk]
        refine⟨?_,hC2.zp.step,hC2.dn.step,?_,fun q hq=>?_⟩
        ·rw[yr,hC2.run]
         show runS c ps [q2] S2=_
         rw[aaN hok,hdo]
        ·have h1:=hC1.few
         rw[List.length_append,List.length_append,List.length_take]
         show L1.length+min k2 L2.length+1+_≤_
         have hl:L2.length≤63:=by rw[hsh1.1] at hL2;omega
         omega
        ·rcases List.mem_append.mp hq with h | h
         ·exact hC2.lt q h
         ·rw[List.mem_singleton.mp h]
          rw[hsh1.1] at qb qc
          exact⟨by omega,by omega,by omega⟩
       refine⟨_,g3,us2++[t2],_,hk',Same.up (s8.trans s9) hBH,(hS8.same s9).upd,hT9.upd,by rw[au,List.map_append];rfl,?_,hnew,hLk.step hpb.1 ea2 eb2 hlk2,.inr ⟨Nat.succ_pos _,hlt0⟩,hBH9 (s9 _ _ hy8) nyB,hBH9 (s9 _ _ hf8) nfB,Tps.upd hB9 (htf8.same s9),hBH9 (s9 _ _ ht8) (nB (s9 _ _ ht8)),hBH9 (s9 _ _ hd8) nd2B,Trs.upd hB9 (hT8.same s9),rfl⟩
       rw[etk]
       exact Trs.upd hB9 (Trs.snoc (s9 _ _ ht2) (hU8.same s9))
      ·rintro σ H8 ⟨S2,g2,us2,o9,_,s8,hS8,hS2,hB8,hU8,hC2,hLk,htt,hy8,hf8,htf8,ht8,hd8,hT8,rfl⟩
       rw[hl2,List.take_length] at hU8 hC2
       refine⟨S2,L1++L2,g2,us2,_,_,_,hi',s8,hS8,hS2,hB8,hU8,hC2,hy8,hf8,htf8,?_,rfl⟩
       rcases htt with ⟨h0,rfl⟩ | ⟨_,h⟩
       ·have hL0:L2 = []:=List.length_eq_zero_iff.mp (by rw[← hl2];exact h0)
        rcases htot with h | ⟨rfl,h⟩
        ·exact .inl h
        ·refine .inr ⟨rfl,fun r hr=>?_⟩
         rcases (lJ hp).mp hr with hr | rfl
         ·exact h r hr
         ·exact hKe hL0
       ·rcases htot with h' | ⟨rfl,_⟩
        ·exact .inl (by omega)
        ·exact .inl h
     ·rintro σ H6 ⟨S1,L1,g1,us1,o7,o8,o9,_,s6,hS6,hS1,hB6,hU6,hC1,hy6,hf6,htf6,htot,rfl⟩
      rw[hlp,List.take_length] at htot
      rcases htot with h | ⟨rfl,h⟩
      ·exact⟨2 * tot c S1+1,by omega,S1,L1,g1,us1,.ref gd,_,_,_,s6,hS1,hB6,hU6,hC1,hy6,hf6,htf6,.inr ⟨gd,S,rfl,hS6,.inr ⟨fun z=>by rw[z] at h;exact Nat.lt_irrefl _ h,rfl⟩⟩,rfl⟩
      ·exact⟨2 * tot c S1,hn,S1,L1,g1,us1,.ref gd,_,_,_,s6,hS1,hB6,hU6,hC1,hy6,hf6,htf6,.inr ⟨gd,S1,rfl,hS6,.inl ⟨rfl,h,rfl⟩⟩,rfl⟩
   intro hKP
   refine⟨_,rfl,_,rfl,rowD (List.replicate c 0),S.map rowD,fZ hy5,hst hS.at,eZ _,iz _,iD _,_,rfl,?_⟩
   rw[if_neg (by decide),Cu]
   refine ite2 (fun e=>?_) (fun e=>?_)
   ·have e':=of_decide_eq_true e
    refine⟨_,rfl,fun q dq nq ndq neq=>?_⟩
    have s6:Same H5 (upd (upd H5 dq (.own q)) q (.ins A.fu dq [])):=Same.up (Same.new ndq) nq
    refine⟨q,dq,B,L,rfl,au,⟨us,s6 _ _ hBl,hU.same s6⟩,fun d H6 hd hBk kp=>⟨rfl,?_⟩⟩
    have s7:Same H5 H6:=fun b o e=>kp b o (s6 b o e) (aL e nq)
    exact kB q d L H6 (s5.free nq) (s5.free (s6.free hd)) (s5.trans s7) hBk (by rw[aaO hC.run];exact decide_eq_true e') (by have:=hC.few;omega) hC.lt
   ·have e':¬ List.replicate c 0∈S:=fun z=>e (decide_eq_true z)
    have hK:=hKP.resolve_right e'
    refine⟨_,rfl,_,rfl,fun q dq nq ndq neq=>?_⟩
    have s6:Same H5 (upd (upd H5 dq (.own q)) q (.ins A.bT dq [])):=Same.up (Same.new ndq) nq
    refine⟨q,dq,gd,y,S,List.replicate c 0,rfl,au,hS.at.same s6,by rw[hsh.1];omega,s6 _ _ hy5,fun a b H6 ha hb hLo kp=>⟨rfl,?_⟩⟩
    have s7:Same H5 H6:=fun b o e=>kp b o (s6 b o e) (aL e nq)
    refine kL q a b S H6 (s5.free nq) (s5.free (s6.free ha)) (s5.free (s6.free hb)) (s5.trans s7) hLo ?_ (by rw[hsh.1];omega)
    unfold oO
    rw[tab_of (by omega) hsh hC.dn,anE,decide_eq_false e',mk_zero hpt2 hsh hC.zp,List.all_eq_true.mpr fun p hp=>decide_eq_true (hK p hp)]
    rfl
  ·intro σ H Q Q' hq h
   obtain⟨v,e,u,e',d1,d2,a1,a2,a3,a4,a5,b,eb,q⟩:=h
   refine⟨v,e,u,e',d1,d2,a1,a2,a3,a4,a5,b,eb,?_⟩
   cases b with
   | true =>
    rw[if_pos rfl] at q ⊢
    obtain⟨v,e,u,e',d1,d2,a1,a2,a3,a4,a5,b,eb,q⟩:=q
    exact⟨v,e,u,e',d1,d2,a1,a2,a3,a4,a5,b,eb,hq _ _ q⟩
   | false =>
    rw[if_neg (by decide)] at q ⊢
    exact hq _ _ q
end
end K12
namespace K12
open PySem L2 TC
def amh:Sp:=fun vs H Q _=>∃ (l t:Addr) (c:Nat) (rs:List (List Nat)) (p:Nat×Nat),vs = [.ref l,.ref t]∧iw H l rs∧c≤6∧(∀ r∈rs,r.length=c)∧H t=some (.tup [.int (p.1:Nat),.int (p.2:Nat)])∧p.1 < 64∧p.2 < 64∧Q (.bl (decide (Keeps rs p))) H
section
variable {P:Program} {w:World} {K:W.Frag} {mg:Str→Option Value} {base:Heap} {A:Adr}
theorem R6 (T:Txt K mg A):FnOk P w K mg base CX0 3 A.lu A.Hz ["_law_table", "_law_rule"] amh:=by
 have lG:=yt (P:=P) (w:=w) (base:=base) T
 refine T.Ij.ok Dh (fun vs H Q E h=>?_) (fun cdv A' outer s H vs Q E hr h=>?_)
 ·obtain⟨l,t,c,rs,p,rfl,_⟩:=h;rfl
 ·obtain⟨l,t,c,rs,p,rfl,⟨ts,hl,htp⟩,hc6,hrl,ht,hp1,hp2,k⟩:=h
  refine⟨_,(aq (dR PassesOwn.never rfl (bI K (pv 0)) (aO (i:=2) Dh.nd rfl (Or.inl rfl))
   (aB (dR PassesOwn.never rfl (bI K (pv 0)) (aO (i:=3) Dh.nd rfl (Or.inl rfl))
   (aB (bN (PW.pt (z8 (bG (aC lG (hr.mono (by decide)) rfl T.rY T.pY.kp T.rW .nil aH (aj (pv 2) (aj (pv 3) (aj (bh (bQ K) (pv 1) aA (fun _ _=>rfl)) ao))))) (sX (bY (bG (aC lG (hr.mono (by decide)) rfl T.rY T.pY.kp T.rW .nil aH (aj (pv 2) (aj (pv 3) (aj (bh (bQ K) (pv 1) aA (fun _ _=>rfl)) ao))))))))) (aB (aM cH)) aU)))))
   (aB (aM cH))),?_⟩
  have hln:(ts.map V.ref).length=rs.length:=by rw[List.length_map];exact htp.len
  refine⟨_,rfl,l,rfl,⟨_,SqL.of hl⟩,f9 (K:=K) (a:=l) (xs:=ts.map V.ref) (fun i σ' H'=>H' = H∧(∀ a∈rs.take i,∀ b∈rs,aK a p.1=aK b p.1→aK a p.2=aK b p.2)∧∃ ov uv,σ' = [some (.ref l),some (.ref t),ov,uv])
   ⟨rfl,fun a ha=>by simp at ha,none,none,rfl⟩ (fun i σ' H' _ ⟨e,_⟩=>by subst e;exact SqL.of hl) ?_ ?_⟩
  ·rintro i x σ' H' hx ⟨rfl,i1,ov,uv,rfl⟩
   obtain⟨ta,a,rfl,hai,aoY⟩:=htp.get hx
   have ham:a∈rs:=List.mem_of_getElem? hai
   refine⟨_,rfl,l,rfl,⟨_,SqL.of hl⟩,f9 (K:=K) (a:=l) (xs:=ts.map V.ref) (fun j σ' H''=>H'' = H'∧(∀ b∈rs.take j,aK a p.1=aK b p.1→aK a p.2=aK b p.2)∧∃ uv,σ' = [some (.ref l),some (.ref t),some (.ref ta),uv])
    ⟨rfl,fun b hb=>by simp at hb,_,rfl⟩ (fun i σ' H'' _ ⟨e,_⟩=>by subst e;exact SqL.of hl) ?_ ?_⟩
   ·rintro j x σ' H'' hx2 ⟨rfl,j1,uv',rfl⟩
    obtain⟨tb,b,rfl,hbi,aoZ⟩:=htp.get hx2
    have hbm:b∈rs:=List.mem_of_getElem? hbi
    have hlen:a.length=b.length:=by rw[hrl a ham,hrl b hbm]
    have ha6:a.length≤6:=by rw[hrl a ham];exact hc6
    refine⟨_,rfl,_,rfl,_,rfl,t,_,0,_,rfl,rfl,SqT.of ht,rfl,ta,tb,a,b,p.1,rfl,aoY,aoZ,hlen,ha6,hp1,_,rfl,?_⟩
    refine ite2 (fun e=>?_) (fun e=>?_)
    ·refine⟨_,rfl,_,rfl,_,rfl,t,_,1,_,rfl,rfl,SqT.of ht,rfl,ta,tb,a,b,p.2,rfl,aoY,aoZ,hlen,ha6,hp2,_,rfl,?_⟩
     refine ite2 (fun e2=>?_) (fun e2=>?_)
     ·have hk:decide (Keeps rs p)=false:=decide_eq_false fun z=>by
       have:=z a ham b hbm (of_decide_eq_true e)
       rw[decide_eq_true this] at e2
       cases e2
      rw[hk] at k
      exact k
     ·refine⟨rfl,fun b' hb'=>?_,_,rfl⟩
      rcases (lJ hbi).mp hb' with z | rfl
      ·exact j1 b' z
      ·intro _
       have:decide (aK a p.2=aK b' p.2)=true:=by simpa using e2
       exact of_decide_eq_true this
    ·refine⟨rfl,fun b' hb'=>?_,_,rfl⟩
     rcases (lJ hbi).mp hb' with z | rfl
     ·exact j1 b' z
     ·intro z
      exact absurd (decide_eq_true z) e
   ·rintro σ' H'' ⟨rfl,j1,uv',rfl⟩
    rw[hln,List.take_length] at j1
    refine⟨rfl,fun a' ha'=>?_,_,_,rfl⟩
    rcases (lJ hai).mp ha' with z | rfl
    ·exact i1 a' z
    ·exact j1
  ·rintro σ' H' ⟨rfl,i1,ov,uv,rfl⟩
   rw[hln,List.take_length] at i1
   have hk:decide (Keeps rs p)=true:=decide_eq_true i1
   rw[hk] at k
   exact k
end
theorem alb (a b:Nat):decide (V.int (Builtin.bitAnd ((b:Nat):Int) ((a:Nat):Int))=V.int ((a:Nat):Int))=decide (Sb a b):=by
 rw[Y9]
 by_cases h:Sb a b
 ·rw[decide_eq_true h,akT.mp h];simp
 ·rw[decide_eq_false h]
  refine decide_eq_false fun z=>h (akT.mpr ?_)
  injection z with z
  omega
theorem ltB_iff {m:Nat} {ns:List Nat}:ltB m ns=true ↔ ∀ n∈ns,n<m:=by
 unfold ltB
 rw[List.all_eq_true]
 exact⟨fun h n hn=>of_decide_eq_true (h n hn),fun h n hn=>decide_eq_true (h n hn)⟩
theorem ami {ps:List (Nat×Nat)} {pl:List Nat} {a b:Nat} (h:ltB ps.length pl=false):rK ps pl a b=false:=by
 refine Dc ?_
 cases e:j8 ps pl a with
 | none=>rfl
 | some k =>
  have:=ltB_iff.mpr (Dd e)
  rw[h] at this
  cases this
def amj:Sp:=fun vs H Q _=>∃ (l d:Addr) (a b:Nat) (ps:List (Nat×Nat)) (pl:List Nat),vs = [.ref l,.int (a:Nat),.int (b:Nat),.ref d]∧dg H l ps∧H d=some (.lst (nums pl))∧pl.length≤900∧∀ H',Same H H'→Q (.bl (rK ps pl a b)) H'
section
variable {P:Program} {w:World} {K:W.Frag} {mg:Str→Option Value} {base:Heap} {A:Adr}
theorem R7 (T:Txt K mg A):FnOk P w K mg base CX0 3 A.lz A.HB ["_law_pairs_here", "_law_left", "_law_right", "_law_places_here"] amj:=by
 have gR:=qX (P:=P) (w:=w) (base:=base) T
 refine T.Ik.ok vo (fun vs H Q E h=>?_) (fun cdv A' outer s H vs Q E hr h=>?_)
 ·obtain⟨l,d,a,b,ps,pl,rfl,_⟩:=h;rfl
 ·obtain⟨l,d,a,b,ps,pl,rfl,⟨ts,hl,htp⟩,hd,hpl,k⟩:=h
  refine⟨_,(aq (bN (bY (bG (aC gR (hr.mono (by decide)) rfl T.lY T.jW.kp T.lX .nil aH (aj (pv 3) (aj (aW (bM K) rfl T.gh dH (aj (pv 0) ao)) ao))))) (aB (aM cH)) aU)
   (aq (aQ (i:=4) vo.nd rfl (Or.inl rfl) (pv 1))
   (aq (dR PassesOwn.never rfl (bI K (pv 3)) (aO (i:=5) vo.nd rfl (Or.inl rfl))
   (aq (bN (bA GP (bw CZ (pv 4) (bh (bQ K) (bh (aN K) (pv 0) (pv 5) (fun _ _=>rfl)) aA (fun _ _=>rfl))) (bh (bQ K) (bh (aN K) (pv 0) (pv 5) (fun _ _=>rfl)) aA (fun _ _=>rfl)) (bF _)) (aB (aM cH)) aU)
   (aB (aQ (i:=4) vo.nd rfl (Or.inl rfl) (bw Rh (pv 4) (bh (bQ K) (bh (aN K) (pv 0) (pv 5) (fun _ _=>rfl)) aA (fun _ _=>rfl)))))))
   (aB (aM (mj mO (bw CZ (pv 4) (pv 2)) (pv 2) (bF _))))))),?_⟩
  have hln:(ts.map V.ref).length=ps.length:=by rw[List.length_map];exact htp.len
  refine⟨_,rfl,_,rfl,l,_,rfl,.inl (SqL.of hl),d,pl,(ts.map V.ref).length,rfl,hd,hpl,fun H1 s1=>⟨_,rfl,?_⟩⟩
  rw[hln]
  cases hb:ltB ps.length pl with
  | false =>
   refine iteT ?_
   have z:=k H1 s1
   rw[ami hb] at z
   exact z
  | true =>
   refine iteF ?_
   have hb':=ltB_iff.mp hb
   have hd1:=s1 _ _ hd
   have hl1:=s1 _ _ hl
   have htp1:=htp.same s1
   refine⟨_,rfl,_,rfl,d,rfl,⟨_,SqL.of hd1⟩,f9 (K:=K) (a:=d) (xs:=nums pl) (fun i σ' H'=>H' = H1∧i≤pl.length∧∃ (kn:Nat) (pv:Option V),j8 ps (pl.take i) a=some kn ∧ σ' = [some (.ref l),some (.int (a:Nat)),some (.int (b:Nat)),some (.ref d),some (.int (kn:Nat)),pv])
    ⟨rfl,Nat.zero_le _,a,none,rfl,rfl⟩ (fun i σ' H' _ ⟨e,_⟩=>by subst e;exact SqL.of hd1) ?_ ?_⟩
   ·rintro i x σ' H' hx ⟨rfl,hi,kn,pv,hk,rfl⟩
    obtain⟨n,hn,rfl⟩:=tV hx
    have hi':i<pl.length:=(List.getElem?_eq_some_iff.mp hn).1
    have hT:=ZQ (ps:=ps) (k:=a) hn
    rw[hk] at hT
    have hlt:n<ps.length:=hb' n (List.mem_of_getElem? hn)
    have hgt:(ts.map V.ref)[n]? = some (.ref (ts[n]'(by rw[← hln,List.length_map] at hlt;exact hlt))):=by rw[List.getElem?_map,List.getElem?_eq_getElem (by rw[← hln,List.length_map] at hlt;exact hlt)];rfl
    obtain⟨t,q,et,hq,ht⟩:=htp1.get hgt
    rw[et] at hgt
    refine⟨_,rfl,_,rfl,_,rfl,l,_,(n:Int),_,rfl,rfl,SqL.of hl1,bJ hgt,t,_,0,_,rfl,rfl,SqT.of ht,rfl,_,_,rfl,rfl,_,rfl,_,rfl,l,_,(n:Int),_,rfl,rfl,SqL.of hl1,bJ hgt,t,_,0,_,rfl,rfl,SqT.of ht,rfl,rfl,_,rfl,?_⟩
    rw[alb]
    by_cases hs:Sb q.1 kn
    ·rw[decide_eq_true hs]
     refine iteF ?_
     refine⟨_,rfl,_,rfl,_,rfl,l,_,(n:Int),_,rfl,rfl,SqL.of hl1,bJ hgt,t,_,1,_,rfl,rfl,SqT.of ht,rfl,_,_,rfl,rfl,?_⟩
     refine⟨rfl,hi',kn ||| q.2,some (.int (n:Nat)),?_,?_⟩
     ·rw[hT];exact Vy hq hs
     ·rw[← Ay];rfl
    ·rw[decide_eq_false hs]
     refine iteT ?_
     have e:rK ps pl a b=false:=Dc (Pn (i:=i+1) (by rw[hT];exact Rn hq hs))
     have z:=k _ s1
     rw[e] at z
     exact z
   ·rintro σ' H' ⟨rfl,_,kn,pv,hk,rfl⟩
    rw[aY,List.take_length] at hk
    refine⟨_,rfl,_,rfl,_,_,rfl,rfl,_,rfl,rfl,?_⟩
    have z:=k _ s1
    rw[Pq hk] at z
    rw[alb]
    exact z
end
theorem aj7 {r1 r2:List Nat} {p:Nat×Nat}:Keeps [r1,r2] p ↔ (aK r1 p.1=aK r2 p.1→aK r1 p.2=aK r2 p.2):=by
 constructor
 ·intro h
  exact h r1 (by simp) r2 (by simp)
 ·intro h a ha b hb e
  have ha':a=r1∨a=r2:=by simpa using ha
  have hb':b=r1∨b=r2:=by simpa using hb
  rcases ha' with rfl | rfl <;> rcases hb' with rfl | rfl
  ·rfl
  ·exact h e
  ·exact(h e.symm).symm
  ·rfl
def lrB (c:Nat) (ps:List (Nat×Nat)) (a b:Nat) (r1 r2:List Nat):Bool:=rowB c r1 && (rowB c r2 && ((ps.all fun p=>decide (Keeps [r1,r2] p)) && (decide (aK r1 a=aK r2 a) && !decide (aK r1 b=aK r2 b))))
theorem aj8 (c:Nat) (ps:List (Nat×Nat)) (a b:Nat) (r1 r2:List Nat):brkB c [r1,r2] ps (a,b)=lrB c ps a b r1 r2:=by
 unfold brkB lrB tabB
 have e:(!decide (Keeps [r1,r2] (a,b)))=(decide (aK r1 a=aK r2 a) && !decide (aK r1 b=aK r2 b)):=by
  by_cases h1:aK r1 a=aK r2 a
  ·by_cases h2:aK r1 b=aK r2 b
   ·rw[decide_eq_true h1,decide_eq_true h2,decide_eq_true (aj7.mpr fun _=>h2)];rfl
   ·rw[decide_eq_true h1,decide_eq_false h2,decide_eq_false fun z=>h2 (aj7.mp z h1)];rfl
  ·rw[decide_eq_false h1,decide_eq_true (aj7.mpr fun z=>absurd z h1)];rfl
 rw[e]
 simp [Bool.and_assoc]
def anF:Sp:=fun vs H Q _=>∃ (l d1 d2:Addr) (c a b:Nat) (ps:List (Nat×Nat)) (r1 r2:List Nat),vs = [.ref l,.int (c:Nat),.int (a:Nat),.int (b:Nat),.ref d1,.ref d2]∧c≤6∧dg H l ps∧ps.length≤64∧(∀ p∈ps,p.1 < 64∧p.2 < 64)∧H d1=some (.lst (nums r1))∧H d2=some (.lst (nums r2))∧r1.length≤900∧r2.length≤900∧a < 64∧b < 64 ∧
 ∀ H',Same H H'→Q (.bl (lrB c ps a b r1 r2)) H'
theorem aj9 (ns:List Nat):ltB 100 ns=ns.all fun n=>decide (n≤99):=by
 unfold ltB
 congr 1
 funext n
 exact decide_eq_decide.mpr (by omega)
section
variable {P:Program} {w:World} {K:W.Frag} {mg:Str→Option Value} {base:Heap} {A:Adr}
theorem Jb (T:Txt K mg A):FnOk P w K mg base CX0 5 A.nu A.Qd ["_law_pairs_here", "_law_columns", "_law_left", "_law_right", "_law_one", "_law_other"] anF:=by
 have gR:=qX (P:=P) (w:=w) (base:=base) T
 have Jc:=R6 (P:=P) (w:=w) (base:=base) T
 have lG:=yt (P:=P) (w:=w) (base:=base) T
 refine T.wR.ok ahH (fun vs H Q E h=>?_) (fun cdv A' outer s H vs Q E hr h=>?_)
 ·obtain⟨l,d1,d2,c,a,b,ps,r1,r2,rfl,_⟩:=h;rfl
 ·obtain⟨l,d1,d2,c,a,b,ps,r1,r2,rfl,hc6,hP,hpl,hps,h1,h2,hl1,hl2,ha,hb,k⟩:=h
  refine⟨_,(aq (bN (PW.pt (kI (bY (bG (aC gR (hr.mono (by decide)) rfl T.lY T.jW.kp T.lX .nil aH (aj (pv 4) (aj aA ao))))) (kI (bY (bG (aC gR (hr.mono (by decide)) rfl T.lY T.jW.kp T.lX .nil aH (aj (pv 5) (aj aA ao))))) (kI (bA GP (aW (bM K) rfl T.gh dH (aj (pv 4) ao)) (pv 1) (bF _)) (lF (bA GP (aW (bM K) rfl T.gh dH (aj (pv 5) ao)) (pv 1) (bF _))))))) (aB (aM cH)) aU)
   (aq (bN (bY (bG (aW (lK K rfl) rfl T.yo Ae (aj (cP ["_law_pairs_here", "_law_columns", "_law_left", "_law_right", "_law_one", "_law_other"] (ak jr) ["_law_rule", "_law_one", "_law_other"] [none,some 4,some 5] ⟨rfl,by decide +kernel,by decide +kernel,by decide +kernel,by decide +kernel,by decide +kernel⟩ rfl (bI K (pv 0)) (fun _ _ _ _ _=>(aO (i:=0) (by show List.Nodup (["_law_rule", "_law_one", "_law_other"]:List Str);decide +kernel) rfl (Or.inl rfl) (Or.inr rfl))) (fun _ _ _ _ _=>cG) (fun _ _ _ _ _=>(aC Jc (hr.mono (by decide)) rfl T.W6 T.Ij.kp T.W5 .nil aH (aj (cD (aj (pv 1) (aj (pv 2) ao))) (aj (pv 0) ao))))) ao)))) (aB (aM cH)) aU)
   (aB (aM (pX (aC lG (hr.mono (by decide)) rfl T.rY T.pY.kp T.rW .nil aH (aj (pv 4) (aj (pv 5) (aj (pv 2) ao)))) (qF (aeR (aC lG (hr.mono (by decide)) rfl T.rY T.pY.kp T.rW .nil aH (aj (pv 4) (aj (pv 5) (aj (pv 3) ao))))))))))),?_⟩
  have no:∀ H',Same H H'→lrB c ps a b r1 r2=false→Q (.bl false) H':=fun H' s' e=>by
   have z:=k H' s'
   rw[e] at z
   exact z
  refine⟨_,rfl,d1,r1,100,rfl,h1,hl1,fun H1 s1=>⟨_,rfl,?_⟩⟩
  rw[aj9]
  refine ite2 (fun e1=>?_) (fun e1=>?_)
  ·refine iteT (no H1 s1 ?_)
   have e1':(r1.all fun n=>decide (n≤99))=false:=by simpa using e1
   unfold lrB rowB
   rw[e1',Bool.and_false,Bool.false_and]
  have e1':(r1.all fun n=>decide (n≤99))=true:=by simpa using e1
  refine⟨_,rfl,d2,r2,100,rfl,s1 _ _ h2,hl2,fun H2 s2=>⟨_,rfl,?_⟩⟩
  have s02:=s1.trans s2
  rw[aj9]
  refine ite2 (fun e2=>?_) (fun e2=>?_)
  ·refine iteT (no H2 s02 ?_)
   have e2':(r2.all fun n=>decide (n≤99))=false:=by simpa using e2
   unfold lrB rowB
   rw[e2',Bool.and_false,Bool.false_and,Bool.and_false]
  have e2':(r2.all fun n=>decide (n≤99))=true:=by simpa using e2
  refine⟨_,rfl,d1,_,rfl,.inl (SqL.of (s02 _ _ h1)),_,rfl,rfl,_,rfl,?_⟩
  rw[aY]
  refine ite2 (fun e3=>?_) (fun e3=>?_)
  ·refine iteT (no H2 s02 ?_)
   have e3':¬ r1.length=c:=fun z=>by rw[z] at e3;simp at e3
   unfold lrB rowB
   rw[decide_eq_false e3',Bool.false_and,Bool.false_and]
  have e3':r1.length=c:=by
   have:V.int ((r1.length:Nat):Int)=V.int ((c:Nat):Int):=by simpa using e3
   injection this with this
   omega
  refine⟨_,rfl,d2,_,rfl,.inl (SqL.of (s02 _ _ h2)),_,rfl,rfl,_,rfl,?_⟩
  rw[aY]
  refine ite2 (fun e4=>?_) (fun e4=>?_)
  ·refine no H2 s02 ?_
   have e4':¬ r2.length=c:=fun z=>by rw[z] at e4;simp at e4
   unfold lrB rowB
   rw[decide_eq_false e4',Bool.false_and,Bool.false_and,Bool.and_false]
  have e4':r2.length=c:=by
   have:V.int ((r2.length:Nat):Int)=V.int ((c:Nat):Int):=by simpa using e4
   injection this with this
   omega
  have eB:lrB c ps a b r1 r2=((ps.all fun p=>decide (Keeps [r1,r2] p)) && (decide (aK r1 a=aK r2 a) && !decide (aK r1 b=aK r2 b))):=by
   unfold lrB rowB
   rw[e1',e2',decide_eq_true e3',decide_eq_true e4']
   rfl
  obtain⟨ts,hl,htp⟩:=hP.same s02
  have hln:(ts.map V.ref).length=ps.length:=by rw[List.length_map];exact htp.len
  refine⟨_,rfl,l,rfl,⟨_,SqL.of hl⟩,fun D hD=>cO (xs:=ts.map V.ref) (fun i ys H'=>Same H2 H'∧ys=bls ((ps.take i).map fun p=>decide (Keeps [r1,r2] p))∧i≤ps.length) ⟨Same.new hD,rfl,Nat.zero_le _⟩ (fun i ys H' _ ⟨e,_⟩=>SqL.of (e _ _ hl)) ?_ ?_⟩
  ·rintro i x ys H' hx ⟨se,rfl,hi⟩ hDl
   obtain⟨t,p,rfl,hp,ht⟩:=(htp.same se).get hx
   have hi':i<ps.length:=(List.getElem?_eq_some_iff.mp hp).1
   have hpb:=hps p (List.mem_of_getElem? hp)
   have s0:Same H H':=s02.trans se
   refine dF ?_
   refine⟨_,rfl,_,rfl,by show 2≤sizeLine;decide,fun q hq=>⟨_,rfl,?_⟩⟩
   have sq:Same H' (upd H' q (.lst [.ref d1,.ref d2])):=Same.new hq
   refine⟨q,t,c,[r1,r2],p,rfl,⟨[d1,d2],au,sq _ _ (s0 _ _ h1),sq _ _ (s0 _ _ h2),trivial⟩,hc6,fun r hr=>?_,sq _ _ ht,hpb.1,hpb.2,?_⟩
   ·have hr':r=r1∨r=r2:=by simpa using hr
    rcases hr' with rfl | rfl
    ·exact e3'
    ·exact e4'
   ·refine CE1.mk (sq _ _ hDl) (aP (by rw[tW,List.length_map,List.length_take];omega)) ⟨Same.up (se.trans sq) hD,?_,hi'⟩
    rw[map_take _ hp,nO]
  ·rintro ys H3 ⟨se,rfl,_⟩ hDl
   rw[hln,List.take_length] at hDl
   have s03:Same H H3:=s02.trans se
   refine⟨D,_,rfl,SqL.of hDl,_,rfl,?_⟩
   rw[all_map]
   refine ite2 (fun e5=>?_) (fun e5=>?_)
   ·refine no H3 s03 ?_
    have e5':(ps.all fun p=>decide (Keeps [r1,r2] p))=false:=by simpa using e5
    rw[eB,e5',Bool.false_and]
   have e5':(ps.all fun p=>decide (Keeps [r1,r2] p))=true:=by simpa using e5
   refine⟨_,rfl,_,rfl,_,rfl,d1,d2,r1,r2,a,rfl,s03 _ _ h1,s03 _ _ h2,by omega,by omega,ha,_,rfl,?_⟩
   refine ite2 (fun e6=>?_) (fun e6=>?_)
   ·refine⟨_,rfl,_,rfl,_,rfl,d1,d2,r1,r2,b,rfl,s03 _ _ h1,s03 _ _ h2,by omega,by omega,hb,_,rfl,?_⟩
    have z:=k H3 s03
    rw[eB,e5',e6,Bool.true_and,Bool.true_and] at z
    exact z
   ·have e6':decide (aK r1 a=aK r2 a)=false:=by simpa using e6
    have z:=k H3 s03
    rw[eB,e6',Bool.false_and,Bool.and_false] at z
    exact z
end
theorem Rws.set {H:Hp} {t:Addr} {r:List Nat}:∀ {ts:List Addr} {rs:List (List Nat)} {m:Nat},Rws H ts rs→ts.Nodup→ts[m]? = some t→Rws (L2.upd H t (.lst (nums r))) ts (rs.set m r)
 | [],[],_,h,_,e=>by simp at e
 | t'::ts,x::rs,0,⟨h,q⟩,n,e=>by
  obtain rfl:t' = t:=by simpa using e
  exact⟨au,Rws.upd q (List.nodup_cons.mp n).1⟩
 | t'::ts,x::rs,m+1,⟨h,q⟩,n,e=>by
  have e':ts[m]? = some t:=by simpa using e
  have hne:t'≠t:=fun z=>(List.nodup_cons.mp n).1 (by rw[z];exact List.mem_of_getElem? e')
  exact⟨by rw[aG hne];exact h,Rws.set q (List.nodup_cons.mp n).2 e'⟩
 | [],_::_,_,h,_,_=>h.elim
 | _::_,[],_,h,_,_=>h.elim
def But (ts:List Addr) (H H':Hp):Prop:=∀ b o,H b=some o→b∉ts→H' b=some o
theorem But.refl (ts:List Addr) (H:Hp):But ts H H:=fun _ _ h _=>h
theorem But.trans {ts:List Addr} {H H' H'':Hp} (a:But ts H H') (b:But ts H' H''):But ts H H'':=fun q o h n=>b q o (a q o h n) n
theorem But.same {ts:List Addr} {H H':Hp} (a:Same H H'):But ts H H':=fun q o h _=>a q o h
theorem But.upd {ts:List Addr} {H H':Hp} {t:Addr} {o:HO} (a:But ts H H') (h:t∈ts):But ts H (L2.upd H' t o):=fun q u hq n=>by
 rw[aG (fun z=>n (by rw[z];exact h))];exact a q u hq n
theorem But.fresh {ts:List Addr} {H0 H H':Hp} (s:Same H0 H) (a:But ts H H') (n:∀ t∈ts,H0 t=none):Same H0 H':=fun b o h=>a b o (s b o h) fun z=>by rw[n b z] at h;cases h
structure Cv (H0 H:Hp) (d:Addr) (ts:List Addr) (c:Nat) (S:List (List Nat)):Prop where
 l:H d=some (.lst (ts.map V.ref))
 r:Rws H ts S
 n:∀ t∈ts,H0 t=none∧t≠d
 u:ts.Nodup
 w:∀ x∈S,x.length=c
theorem Cv.same {H0 H H':Hp} {d:Addr} {ts:List Addr} {c:Nat} {S:List (List Nat)} (h:Cv H0 H d ts c S) (e:Same H H'):Cv H0 H' d ts c S:=⟨e _ _ h.l,h.r.same e,h.n,h.u,h.w⟩
theorem Cv.len {H0 H:Hp} {d:Addr} {ts:List Addr} {c:Nat} {S:List (List Nat)} (h:Cv H0 H d ts c S):ts.length=S.length:=h.r.len
theorem Cv.at {H0 H:Hp} {d:Addr} {ts:List Addr} {c:Nat} {S:List (List Nat)} (h:Cv H0 H d ts c S) {i:Nat} {x:List Nat} (e:S[i]? = some x):∃ t,t∈ts∧ts[i]? = some t∧(ts.map V.ref)[i]? = some (.ref t)∧H t=some (.lst (nums x)):=by
 have hi:i<ts.length:=by rw[h.len];exact(List.getElem?_eq_some_iff.mp e).1
 have e1:ts[i]? = some ts[i]:=List.getElem?_eq_getElem hi
 have e2:(ts.map V.ref)[i]? = some (.ref ts[i]):=by rw[List.getElem?_map,e1];rfl
 obtain⟨t,y,a,b,q⟩:=h.r.get e2
 rw[e] at b
 cases b
 injection a with a
 exact⟨ts[i],List.getElem_mem hi,e1,e2,by rw[a];exact q⟩
theorem R8 {x:List Nat} {j:Nat} (h:j<x.length):(nums x)[j]? = some (.int (x.getD j 0:Nat)):=by unfold nums;rw[List.getElem?_map,getD_at h];rfl
theorem aaQ {x:List Nat} {j n:Nat}:(nums x).set j (.int (n:Nat))=nums (x.set j n):=by unfold nums;rw[List.map_set]
theorem Zb {n j:Nat} (h:j<n):ixN n ((j:Nat):Int)=some j:=by
 unfold ixN
 rw[if_pos (Int.natCast_nonneg j),if_pos (by omega)]
 simp
theorem apK (v a b:Nat):inV (.int (v:Nat)) [.int (a:Nat),.int (b:Nat)] = decide (v=a∨v=b):=by
 show(((a:Int) == (v:Int)) || (((b:Int) == (v:Int)) || false))=_
 by_cases h1:v=a
 ·subst h1;simp
 ·by_cases h2:v=b
  ·subst h2;simp
  ·have e1:((a:Int) == (v:Int))=false:=by rw[beq_eq_false_iff_ne];omega
   have e2:((b:Int) == (v:Int))=false:=by rw[beq_eq_false_iff_ne];omega
   rw[e1,e2,decide_eq_false (by omega)];rfl
theorem aoA (a b:Nat):min ((a:Nat):Int) ((b:Nat):Int)=((min a b:Nat):Int):=by omega
theorem aoB {s i:Nat} (hs:s < 64) (hi:i < 6):Builtin.bitAnd ((s:Int) / 2 ^ ((i:Int)).toNat) 1=(if s.testBit i=true then 1 else 0:Int):=by
 have e:(s:Int) / 2 ^ ((i:Int)).toNat=((s / 2 ^ i:Nat):Int):=by rw[Int.toNat_natCast];norm_cast
 rw[e,show Builtin.bitAnd ((s / 2 ^ i:Nat):Int) 1=((s / 2 ^ i &&& 1:Nat):Int) from Y9 _ 1,← aoX s hs i hi]
 have:s / 2 ^ i &&& 1 < 2:=Nat.lt_of_le_of_lt Nat.and_le_right (by decide)
 generalize s / 2 ^ i &&& 1=z at this ⊢
 have hz:z=0∨z=1:=by omega
 rcases hz with rfl | rfl <;> rfl
def amk:Sp:=fun vs H Q _=>∃ (l:Addr) (c:Nat) (pts:List Nat),vs = [.ref l,.int (c:Nat)]∧H l=some (.lst (nums pts))∧c≤6∧pts.length≤64∧(∀ p∈pts,p < 64) ∧
 ∀ (d:Addr) (ts:List Addr) (H':Hp),H d=none→Same H H'→Cv H H' d ts c (fO c pts)→Q (.ref d) H'
def aii:Sp:=fun vs H Q _=>∃ (H0:Hp) (d:Addr) (ts:List Addr) (c i k r:Nat) (S:List (List Nat)),vs = [.ref d,.int (i:Nat),.int (k:Nat),.int (r:Nat)]∧Cv H0 H d ts c S∧c≤6∧i<S.length∧k<S.length∧r < 2 ^ c ∧
 ∀ (H':Hp),But ts H H'→Cv H0 H' d ts c (dG c r i k S)→Q (.ref d) H'
section
variable {P:Program} {w:World} {K:W.Frag} {mg:Str→Option Value} {base:Heap} {A:Adr}
theorem afS (T:Txt K mg A):FnOk P w K mg base CX0 1 A.lB A.HF ["_law_parts_here", "_law_columns"] amk:=by
 refine T.Xa.ok Di (fun vs H Q E h=>?_) (fun cdv A' outer s H vs Q E hr h=>?_)
 ·obtain⟨l,c,pts,rfl,_⟩:=h;rfl
 ·obtain⟨l,c,pts,rfl,hl,hc6,hlen,hpts,k⟩:=h
  refine⟨_,(aq (aQ (i:=2) Di.nd rfl (Or.inl rfl) (cD ao))
   (aq (dR PassesOwn.never rfl (cN rfl T.dO (aj (aW (bM K) rfl T.gh dH (aj (pv 0) ao)) ao)) (aO (i:=3) Di.nd rfl (Or.inr rfl))
   (aB (cQ (cF K (pv 2) (aj (cP ["_law_parts_here", "_law_columns", "_law_found", "_law_place"] (ak gZ) ["_law_column", "_law_place", "_law_parts_here"] [none,some 3,some 0] ⟨rfl,by decide +kernel,by decide +kernel,by decide +kernel,by decide +kernel,by decide +kernel⟩ rfl (cN rfl T.dO (aj (pv 1) ao)) (fun _ _ _ _ _=>(aO (i:=0) (by show List.Nodup (["_law_column", "_law_place", "_law_parts_here"]:List Str);decide +kernel) rfl (Or.inl rfl) (Or.inr rfl))) (fun _ _ _ _ _=>cG) (fun _ _ _ _ _=>(bw uY (bw eF (pv 1) aA) (bw aeT aA (bw CZ (bw aji (bh (aN K) (pv 2) (pv 1) (fun _ _=>rfl)) (pv 0)) aA))))) ao)))))
   (aB (aM (pv 2))))),?_⟩
  refine⟨Nat.zero_le _,fun B hB=>?_⟩
  refine⟨_,rfl,l,_,rfl,.inl (SqL.of (Same.new hB _ _ hl)),((nums pts).length:Int),rfl,by rw[aY];omega,by rw[aY];omega,?_⟩
  rw[aY,Int.toNat_natCast]
  refine j6 (lo:=0) (n:=pts.length) (fun i σ' H'=>Same H H'∧i≤pts.length∧(∃ ts,Cv H H' B ts c ((List.range i).map fun i=>rowOf c (pts.getD i 0) (i+1)))∧∃ pv:Option V,σ' = [some (.ref l),some (.int (c:Nat)),some (.ref B),pv])
   ⟨Same.new hB,Nat.zero_le _,⟨[],⟨au,trivial,fun t ht=>by simp at ht,List.nodup_nil,fun x hx=>by simp at hx⟩⟩,none,rfl⟩ ?_ ?_
  ·rintro i σ' H1 hi ⟨s1,_,⟨ts,hS⟩,pv,rfl⟩
   rw[Int.zero_add]
   have hts:ts.length=i:=by rw[hS.len,List.length_map,List.length_range]
   refine⟨_,rfl,.inl ⟨rfl,_,SqL.of hS.l⟩,_,rfl,(c:Int),rfl,by omega,by omega,fun D hD=>?_⟩
   rw[Int.toNat_natCast]
   have hp:=hpts (pts.getD i 0) (by rw[List.getD,List.getElem?_eq_getElem hi];exact List.getElem_mem hi)
   refine jm (lo:=0) (n:=c) (fun j ys H'=>Same H1 H'∧ys=nums ((List.range j).map fun j=>if (pts.getD i 0).testBit j=true then 0 else i+1)) ⟨Same.new hD,rfl⟩ ?_ ?_
   ·rintro j ys H2 hj ⟨s2,rfl⟩ hDl
    rw[Int.zero_add]
    have hll:(nums ((List.range j).map fun j=>if (pts.getD i 0).testBit j=true then 0 else i+1)).length≤64:=by
     rw[aY,List.length_map,List.length_range];omega
    refine dF ?_
    refine⟨_,rfl,(i:Int),1,rfl,rfl,_,rfl,_,rfl,l,_,(i:Int),_,rfl,rfl,SqL.of (s2 _ _ (s1 _ _ hl)),bJ (R8 hi),_,rfl,((pts.getD i 0:Nat):Int),(j:Int),rfl,rfl,Int.natCast_nonneg j,_,1,rfl,rfl,1,_,rfl,rfl,_,_,rfl,rfl,.inl ⟨by omega,by omega⟩,?_⟩
    refine CE1.mk hDl (aP (by omega)) ⟨Same.up s2 hD,?_⟩
    rw[List.range_succ,List.map_append,aoB hp (by omega)]
    show _=nums (_++[if (pts.getD i 0).testBit j=true then 0 else i+1])
    rw[gq]
    congr 2
    by_cases e:(pts.getD i 0).testBit j=true
    ·rw[if_pos e,if_pos e];simp
    ·rw[if_neg e,if_neg e];simp
   ·rintro ys H2 ⟨s2,rfl⟩ hDl
    have hBl:=s2 _ _ hS.l
    refine⟨B,_,_,rfl,rfl,hBl,aP (by rw[List.length_map];omega),?_⟩
    have nDB:D≠B:=fun z=>by rw[z,hS.l] at hD;cases hD
    have hDH:H D=none:=s1.free hD
    have hDts:D∉ts:=fun z=>by
     obtain⟨q,hq⟩:=List.mem_iff_getElem?.mp z
     obtain⟨t',r',e1,e2,e3⟩:=hS.r.get (i:=q) (v:=.ref D) (by rw[List.getElem?_map,hq];rfl)
     injection e1 with e1
     rw[← e1,hD] at e3
     cases e3
    refine⟨Same.up (s1.trans s2) hB,hi,⟨ts++[D],⟨by rw[au,List.map_append];rfl,?_,fun t ht=>?_,?_,fun x hx=>?_⟩⟩,_,rfl⟩
    ·rw[List.range_succ,List.map_append]
     refine Rws.upd (Rws.snoc hDl (hS.r.same s2)) fun z=>?_
     rcases List.mem_append.mp z with z | z
     ·exact(hS.n _ z).2 rfl
     ·exact nDB (List.mem_singleton.mp z).symm
    ·rcases List.mem_append.mp ht with z | z
     ·exact hS.n t z
     ·rw[List.mem_singleton.mp z];exact⟨hDH,nDB⟩
    ·rw[List.nodup_append]
     exact⟨hS.u,by simp,fun a ha b hb z=>hDts (by rw[← List.mem_singleton.mp hb,← z];exact ha)⟩
    ·rw[List.range_succ,List.map_append] at hx
     rcases List.mem_append.mp hx with z | z
     ·exact hS.w x z
     ·rw[List.mem_singleton.mp z];exact BW _ _ _
  ·rintro σ' H1 ⟨s1,_,⟨ts,hS⟩,pv,rfl⟩
   exact⟨_,rfl,k B ts H1 hB s1 hS⟩
theorem aaR (T:Txt K mg A):FnOk P w K mg base CX0 1 A.ji A.Ao ["_law_sheet_here", "_law_one", "_law_other", "_law_right"] aii:=by
 refine T.M4.ok qK (fun vs H Q E h=>?_) (fun cdv A' outer s H vs Q E hr h=>?_)
 ·obtain⟨H0,d,ts,c,i,k,r,S,rfl,_⟩:=h;rfl
 ·obtain⟨H0,d,ts,c,i,k,r,S,rfl,hS,hc6,hi,hk,hr',k1⟩:=h
  have h64:2 ^ c≤64:=Nat.pow_le_pow_right (by decide) hc6
  refine⟨_,(aq (dR PassesOwn.never rfl (cN rfl T.dO (aj (aW (bM K) rfl T.gh dH (aj (bh (aN K) (pv 0) aA (fun _ _=>rfl)) ao)) ao)) (aO (i:=4) qK.nd rfl (Or.inl rfl))
   (aB (bN (bA mO (bw CZ (bw aji (pv 3) (pv 4)) aA) aA (bF _)) (aq (aQ (i:=5) qK.nd rfl (Or.inl rfl) (cD (aj (bh (aN K) (bh (aN K) (pv 0) (pv 1) (fun _ _=>rfl)) (pv 4) (fun _ _=>rfl)) (aj (bh (aN K) (bh (aN K) (pv 0) (pv 2) (fun _ _=>rfl)) (pv 4) (fun _ _=>rfl)) ao))))
   (aB (dR PassesOwn.never rfl (bI K (pv 0)) (aO (i:=6) qK.nd rfl (Or.inl rfl))
   (aB (bN (bA (apq K) (bh (aN K) (pv 6) (pv 4) (fun _ _=>rfl)) (pv 5) (by with_unfolding_all rfl)) (aB (Ph (aW (ajr K rfl) rfl T.aei anp (aj (pv 5) ao)) (aeS (pv 6) (pv 4) set_list))) aU))))) aU)))
   (aB (aM (pv 0)))),?_⟩
  obtain⟨x0,hx0⟩ : ∃ x0,S[0]? = some x0:=⟨S[0]'(by omega),List.getElem?_eq_getElem (by omega)⟩
  obtain⟨t0,_,_,e0,h0⟩:=hS.at hx0
  have hw0:=hS.w x0 (List.mem_of_getElem? hx0)
  obtain⟨f,hf⟩ : ∃ f,S[i]? = some f:=⟨S[i],List.getElem?_eq_getElem hi⟩
  obtain⟨g,hg⟩ : ∃ g,S[k]? = some g:=⟨S[k],List.getElem?_eq_getElem hk⟩
  have ef:=K7 hf
  have eg:=K7 hg
  refine⟨_,rfl,d,_,0,_,rfl,rfl,SqL.of hS.l,(show atI (ts.map V.ref) (((0:Nat):Int))=some (.ref t0) from bJ e0),t0,_,rfl,.inl (SqL.of h0),((nums x0).length:Int),rfl,by rw[aY];omega,by rw[aY];omega,?_⟩
  rw[aY,hw0,Int.toNat_natCast]
  refine j6 (lo:=0) (n:=c) (fun n σ' H'=>n≤c∧But ts H H'∧Cv H0 H' d ts c (dG c (r % 2 ^ n) i k S)∧∃ o4 o5 o6:Option V,σ' = [some (.ref d),some (.int (i:Nat)),some (.int (k:Nat)),some (.int (r:Nat)),o4,o5,o6])
   ⟨Nat.zero_le _,But.refl _ _,by rw[ajw hS.w];exact hS,none,none,none,rfl⟩ ?_ ?_
  ·rintro n σ' H1 hn ⟨_,b1,hS1,o4,o5,o6,rfl⟩
   rw[Int.zero_add]
   refine⟨_,rfl,_,rfl,(r:Int),(n:Int),rfl,rfl,Int.natCast_nonneg n,_,1,rfl,rfl,rfl,_,rfl,?_⟩
   rw[ala (by omega) (by omega)]
   refine ite2 (fun e=>?_) (fun e=>?_)
   ·
    have at1:∀ {j:Nat} {x:List Nat},S[j]? = some x→(dG c (r % 2 ^ n) i k S)[j]? = some (dI c (r % 2 ^ n) f g x):=fun {j x} hx=>by
     unfold dG;rw[List.getElem?_map,hx,ef,eg];rfl
    have at2:∀ {j:Nat} {x:List Nat},S[j]? = some x→(dG c (r % 2 ^ (n+1)) i k S)[j]? = some (dI c (r % 2 ^ (n+1)) f g x):=fun {j x} hx=>by
     unfold dG;rw[List.getElem?_map,hx,ef,eg];rfl
    obtain⟨ti,_,_,ei,hti⟩:=hS1.at (at1 hf)
    obtain⟨tk,_,_,ek,htk⟩:=hS1.at (at1 hg)
    have gi:=R8 (x:=dI c (r % 2 ^ n) f g f) (j:=n) (by rw[dm];exact hn)
    have gk:=R8 (x:=dI c (r % 2 ^ n) f g g) (j:=n) (by rw[dm];exact hn)
    rw[Df hn] at gi gk
    refine⟨_,rfl,_,rfl,d,_,(i:Int),_,rfl,rfl,SqL.of hS1.l,bJ ei,_,rfl,ti,_,(n:Int),_,rfl,rfl,SqL.of hti,bJ gi,_,rfl,_,rfl,d,_,(k:Int),_,rfl,rfl,SqL.of hS1.l,bJ ek,_,rfl,tk,_,(n:Int),_,rfl,rfl,SqL.of htk,bJ gk,by show 2≤sizeLine;decide,fun q hq=>?_⟩
    have sq:Same H1 (upd H1 q (.lst [.int (f.getD n 0:Nat),.int (g.getD n 0:Nat)])):=Same.new hq
    have hS2:=hS1.same sq
    have hq2:(upd H1 q (.lst [.int (f.getD n 0:Nat),.int (g.getD n 0:Nat)])) q=some (.lst [.int (f.getD n 0:Nat),.int (g.getD n 0:Nat)]):=au
    have hqt:q∉ts:=fun z=>by
     obtain⟨j,hj⟩:=List.mem_iff_getElem?.mp z
     obtain⟨t',r',e1,e2,e3⟩:=hS1.r.get (i:=j) (v:=.ref q) (by rw[List.getElem?_map,hj];rfl)
     injection e1 with e1
     rw[← e1,hq] at e3
     cases e3
    have b2:But ts H (upd H1 q (.lst [.int (f.getD n 0:Nat),.int (g.getD n 0:Nat)])):=b1.trans (But.same sq)
    generalize upd H1 q (.lst [.int (f.getD n 0:Nat),.int (g.getD n 0:Nat)])=H2 at sq hS2 hq2 b2 ⊢
    have hl1:(dG c (r % 2 ^ (n+1)) i k S).length=(dG c (r % 2 ^ n) i k S).length:=by rw[j9,j9]
    have htl:ts.length=S.length:=by rw[hS1.len,j9]
    refine⟨_,rfl,d,rfl,⟨_,SqL.of hS2.l⟩,f9 (K:=K) (a:=d) (xs:=ts.map V.ref) (fun m σ' H'=>m≤S.length∧But ts H H'∧H' q=some (.lst [.int (f.getD n 0:Nat),.int (g.getD n 0:Nat)])∧H' d=some (.lst (ts.map V.ref))∧Rws H' ts ((dG c (r % 2 ^ (n+1)) i k S).take m++(dG c (r % 2 ^ n) i k S).drop m)∧∃ o6:Option V,σ' = [some (.ref d),some (.int (i:Nat)),some (.int (k:Nat)),some (.int (r:Nat)),some (.int (n:Nat)),some (.ref q),o6])
     ⟨Nat.zero_le _,b2,hq2,hS2.l,by rw[List.take_zero,List.drop_zero,List.nil_append];exact hS2.r,_,rfl⟩ (fun m σ' H' _ ⟨_,_,_,e,_⟩=>SqL.of e) ?_ ?_⟩
    ·rintro m v σ' H3 hv ⟨hm,b3,hq3,hd3,hr3,o6',rfl⟩
     have hmt:m<ts.length:=by have:=(List.getElem?_eq_some_iff.mp hv).1;rwa [List.length_map] at this
     have hmS:m<S.length:=by omega
     have htm:ts[m]? = some ts[m]:=List.getElem?_eq_getElem hmt
     have hSm:S[m]? = some S[m]:=List.getElem?_eq_getElem hmS
     obtain⟨t,x,rfl,hx,ht⟩:=hr3.get hv
     rw[ank (by rw[j9];exact hm),at1 hSm] at hx
     cases hx
     have et:ts[m]? = some t:=by
      rw[List.getElem?_map,htm] at hv
      have:=Option.some.inj hv
      injection this with this
      rw[htm,this]
     have gx:=R8 (x:=dI c (r % 2 ^ n) f g S[m]) (j:=n) (by rw[dm];exact hn)
     rw[Df hn] at gx
     have hnew:=ae7 (c:=c) (f:=f) (g:=g) (x:=S[m]) e hn
     refine⟨_,rfl,_,rfl,t,_,(n:Int),_,rfl,rfl,SqL.of ht,bJ gx,_,rfl,q,_,rfl,.inl (SqL.of hq3),rfl,rfl,_,rfl,?_⟩
     show(if inV (.int (S[m].getD n 0:Nat)) [.int (f.getD n 0:Nat),.int (g.getD n 0:Nat)] = true then _ else _)
     rw[apK]
     refine ite2 (fun e2=>?_) (fun e2=>?_)
     ·have e2':=of_decide_eq_true e2
      refine⟨_,rfl,q,_,_,rfl,SqL.of hq3,_,rfl,_,rfl,t,_,(n:Int),n,rfl,rfl,ht,Zb (by rw[aY,dm];exact hn),?_⟩
      have htq:q≠t:=fun z=>hqt (by rw[z];exact List.mem_of_getElem? et)
      have htd:d≠t:=fun z=>(hS.n t (List.mem_of_getElem? et)).2 z.symm
      refine⟨hmS,b3.upd (List.mem_of_getElem? et),by rw[aG htq];exact hq3,by rw[aG htd];exact hd3,?_,_,rfl⟩
      have hlow:low (f.getD n 0) (g.getD n 0) (S[m].getD n 0)=min (f.getD n 0) (g.getD n 0):=by unfold low;rw[if_pos e2']
      rw[hlow] at hnew
      rw[aoA,aaQ,← hnew,← akV (at2 hSm) hl1]
      exact Rws.set hr3 hS.u et
     ·have e2':¬ (S[m].getD n 0=f.getD n 0∨S[m].getD n 0=g.getD n 0):=fun z=>e2 (decide_eq_true z)
      refine⟨hmS,b3,hq3,hd3,?_,_,rfl⟩
      have hlow:low (f.getD n 0) (g.getD n 0) (S[m].getD n 0)=S[m].getD n 0:=by unfold low;rw[if_neg e2']
      rw[hlow,← Df (r:=r) (f:=f) (g:=g) hn,anj] at hnew
      have hm2:((dG c (r % 2 ^ (n+1)) i k S).take m++(dG c (r % 2 ^ n) i k S).drop m).set m (dI c (r % 2 ^ (n+1)) f g S[m])=(dG c (r % 2 ^ (n+1)) i k S).take m++(dG c (r % 2 ^ n) i k S).drop m:=by
       refine List.ext_getElem? fun j=>?_
       rw[List.getElem?_set]
       by_cases hj:m=j
       ·subst hj
        rw[if_pos rfl,ank (by rw[j9];exact hm),at1 hSm,if_pos (by rw[List.length_append,List.length_take,List.length_drop,j9,j9];omega),hnew]
       ·rw[if_neg hj]
      rw[← akV (at2 hSm) hl1,hm2]
      exact hr3
    ·rintro σ' H3 ⟨_,b3,hq3,hd3,hr3,o6',rfl⟩
     rw[List.length_map,htl] at hr3
     have e1:(dG c (r % 2 ^ (n+1)) i k S).take S.length=dG c (r % 2 ^ (n+1)) i k S:=List.take_of_length_le (by rw[j9];exact Nat.le_refl _)
     have e2:(dG c (r % 2 ^ n) i k S).drop S.length = []:=List.drop_of_length_le (by rw[j9];exact Nat.le_refl _)
     rw[e1,e2,List.append_nil] at hr3
     exact⟨hn,b3,⟨hd3,hr3,hS.n,hS.u,aea⟩,_,_,_,rfl⟩
   ·have e':r.testBit n=false:=by simpa using e
    exact⟨hn,b1,by rw[ajx e'];exact hS1,_,_,_,rfl⟩
  ·rintro σ' H1 ⟨_,b1,hS1,o4,o5,o6,rfl⟩
   rw[ajy hr'] at hS1
   exact⟨_,rfl,k1 H1 b1 hS1⟩
end
def aml:Sp:=fun vs H Q _=>∃ (x:Int) (c:Nat),vs = [.int x,.int (c:Nat)]∧1≤c∧c≤6∧∀ (l:Addr) (ps:List Nat) (H':Hp),H l=none→Same H H'→H' l=some (.lst (nums ps))→1≤ps.length→ps.length < 64→(∀ p∈ps,1≤p∧p < 2 ^ c)→ps.foldl (· ||| ·) 0=2 ^ c - 1→Q (.ref l) H'
theorem apL:∀ a,a < 64→∀ b,b < 64→Builtin.bitAnd ((a:Nat):Int) (Builtin.bitNot ((b:Nat):Int))=((a ^^^ (a &&& b):Nat):Int):=by decide +kernel
def lf (F:Nat) (ps:List Nat):Nat:=ps.foldl (fun a p=>a ^^^ (a &&& p)) F
theorem aoC {F i p:Nat} {ps:List Nat} (h:ps[i]? = some p):lf F (ps.take (i+1))=lf F (ps.take i) ^^^ (lf F (ps.take i) &&& p):=by
 unfold lf
 rw[List.take_succ,h,List.foldl_append];rfl
theorem ao0 {F:Nat}:∀ (ps:List Nat) (a o:Nat),a ||| o=F→(∀ p∈ps,p ||| F=F)→ps.foldl (fun a p=>a ^^^ (a &&& p)) a ||| ps.foldl (· ||| ·) o=F
 | [],a,o,h,_=>h
 | p::ps,a,o,h,hp=>by
  refine ao0 ps (a ^^^ (a &&& p)) (o ||| p) ?_ fun q hq=>hp q (List.mem_cons_of_mem _ hq)
  have h2:=hp p List.mem_cons_self
  refine Nat.eq_of_testBit_eq fun i=>?_
  have e1:=congrArg (fun n=>n.testBit i) h
  have e2:=congrArg (fun n=>n.testBit i) h2
  simp only [Nat.testBit_or] at e1 e2
  simp only [Nat.testBit_or,Nat.testBit_xor,Nat.testBit_and]
  revert e1 e2
  cases a.testBit i <;> cases o.testBit i <;> cases p.testBit i <;> cases F.testBit i <;> simp
theorem anG {F:Nat}:∀ (ps:List Nat) (a:Nat),a≤F→ps.foldl (fun a p=>a ^^^ (a &&& p)) a≤F
 | [],a,h=>h
 | p::ps,a,h=>anG ps _ (Nat.le_trans (by
   show a ^^^ (a &&& p)≤a
   have:a ^^^ (a &&& p)=a &&& (a ^^^ (a &&& p)):=by
    refine Nat.eq_of_testBit_eq fun i=>?_
    simp only [Nat.testBit_xor,Nat.testBit_and]
    cases a.testBit i <;> cases p.testBit i <;> rfl
   rw[this]
   exact Nat.and_le_left) h)
theorem alc {p c:Nat} (h:p < 2 ^ c):p ||| (2 ^ c - 1)=2 ^ c - 1:=by
 refine Nat.eq_of_testBit_eq fun i=>?_
 rw[Nat.testBit_or,Nat.testBit_two_pow_sub_one]
 by_cases hi:i<c
 ·simp [hi]
 ·rw[al9 h (by omega)];simp
section
variable {P:Program} {w:World} {K:W.Frag} {mg:Str→Option Value} {base:Heap} {A:Adr}
theorem afT (T:Txt K mg A):FnOk P w K mg base CX0 5 A.lA A.HD ["_law_cell", "_law_columns"] aml:=by
 have cL:=lE (P:=P) (w:=w) (base:=base) T
 have sG:=Qs (P:=P) (w:=w) (base:=base) T
 refine T.W9.ok jD (fun vs H Q E h=>?_) (fun cdv A' outer s H vs Q E hr h=>?_)
 ·obtain⟨x,c,rfl,_⟩:=h;rfl
 ·obtain⟨x,c,rfl,hc1,hc6,k⟩:=h
  have h64:2 ^ c≤64:=Nat.pow_le_pow_right (by decide) hc6
  have hpos:0 < 2 ^ c:=Nat.two_pow_pos c
  refine⟨_,(aq (aQ (i:=2) jD.nd rfl (Or.inl rfl) (cD ao))
   (aq (bN (PW.pt (z8 (bA Zn (pv 1) aA (bF _)) (sX (bA mO (aC cL (hr.mono (by decide)) rfl T.gm T.fU.kp T.gj .nil aH (aj (pv 0) (aj aA (aj aA ao)))) aA (bF _))))) (aB (dR PassesOwn.never rfl (cN rfl T.dO (aj (pv 1) ao)) (aO (i:=3) jD.nd rfl (Or.inr rfl))
   (aB (cQ (ZC K (pv 2) (aj (cP ["_law_cell", "_law_columns", "_law_parts_here", "_law_one", "_law_k", "_law_left", "_law_part"] (ak fX) ["_law_other", "_law_one"] [none,some 3] ⟨rfl,by decide +kernel,by decide +kernel,by decide +kernel,by decide +kernel,by decide +kernel⟩ rfl (cN rfl T.dO (aj (pv 3) ao)) (fun _ _ _ _ _=>(aO (i:=0) (by show List.Nodup (["_law_other", "_law_one"]:List Str);decide +kernel) rfl (Or.inl rfl) (Or.inr rfl))) (fun _ _ _ _ _=>cG) (fun _ _ _ _ _=>(bw Rh (bw CV aA (pv 1)) (bw CV aA (pv 0))))) ao)))))) aU)
   (aq (dR PassesOwn.never rfl (cN rfl T.dO (aj (aC cL (hr.mono (by decide)) rfl T.gm T.fU.kp T.gj .nil aH (aj (pv 0) (aj aA (aj aA ao)))) ao)) (aO (i:=4) jD.nd rfl (Or.inl rfl))
   (aB (cQ (cF K (pv 2) (aj (aC sG (hr.mono (by decide)) rfl T.Ce T.wI.kp T.Cd .nil aH (aj (bw eF (pv 0) (bw uY aA (pv 4))) (aj (pv 1) ao))) ao)))))
   (aq (Ri (i:=2) ["_law_cell", "_law_columns", "_law_parts_here", "_law_one", "_law_k", "_law_left", "_law_part"] (ak fX) ["_law_part"] [none] ⟨rfl,by decide +kernel,by decide +kernel,by decide +kernel,by decide +kernel,by decide +kernel⟩ rfl jD.nd rfl rfl (bI K (pv 2)) (fun _ _ _ _ _=>(aO (i:=0) (by show List.Nodup (["_law_part"]:List Str);decide +kernel) rfl (Or.inl rfl) (Or.inr rfl))) (fun _ _ _ _ _=>akO (bA amM (pv 0) aA (bF _))) (fun _ _ _ _ _=>(pv 0)))
   (aq (aQ (i:=5) jD.nd rfl (Or.inl rfl) (bw aeT (bw CV aA (pv 1)) aA))
   (aq (dR PassesOwn.never rfl (bI K (pv 2)) (aO (i:=6) jD.nd rfl (Or.inl rfl))
   (aB (aQ (i:=5) jD.nd rfl (Or.inl rfl) (bw CZ (pv 5) (akF apc (pv 6))))))
   (aq (bN (PW.pt (kI (bA amM (pv 5) aA (bF _)) (lF (bA (am3 hr.units) (pv 2) (cD ao) (bF _))))) (aB (cQ (cF K (pv 2) (aj (bw Rh (pv 5) (bw CV aA (bw mL (pv 0) (pv 1)))) ao)))) aU)
   (aB (aM (pv 2)))))))))),?_⟩
  refine⟨Nat.zero_le _,fun B hB=>?_⟩
  suffices rest:∀ (ov:Option V) (H1:Hp) (ps:List Nat),Same H H1→H1 B=some (.lst (nums ps))→ps.length≤36→(∀ p∈ps,p < 2 ^ c) →
    tSeq _ _ { nx:=fun x H'=>Q V.non H',rt:=Q } [some (.int x),some (.int (c:Nat)),some (.ref B),ov,none,none,none] H1 by
   refine⟨_,rfl,_,_,rfl,rfl,_,rfl,?_⟩
   refine ite2 (fun e=>?_) (fun e=>?_)
   ·refine⟨_,rfl,x,3,6,rfl,by decide,by decide,fun d hd=>⟨rfl,_,rfl,?_⟩⟩
    refine ite2 (fun e=>?_) (fun e=>?_)
    ·refine⟨_,rfl,(c:Int),rfl,by omega,by omega,?_⟩
     rw[Int.toNat_natCast]
     refine j6 (lo:=0) (n:=c) (fun i σ' H'=>Same H H'∧(∃ ov,σ' = [some (.int x),some (.int (c:Nat)),some (.ref B),ov,none,none,none])∧∃ ps:List Nat,H' B=some (.lst (nums ps))∧ps.length≤i * 6∧∀ p∈ps,p < 2 ^ c)
      ⟨Same.new hB,⟨none,rfl⟩,[],au,Nat.zero_le _,fun p hp=>by cases hp⟩ ?_ ?_
     ·rintro i σ' H1 hi ⟨s1,⟨ov,rfl⟩,ps,hB1,hpl,hps⟩
      rw[Int.zero_add]
      refine⟨_,rfl,.inl ⟨rfl,_,SqL.of hB1⟩,_,rfl,(i:Int),rfl,by omega,by omega,fun D hD=>?_⟩
      rw[Int.toNat_natCast]
      refine jm (lo:=0) (n:=i) (fun k ys H'=>Same H1 H'∧∃ qs:List Nat,ys=nums qs∧qs.length=k∧∀ p∈qs,p < 2 ^ c) ⟨Same.new hD,[],rfl,rfl,fun n hn=>by cases hn⟩ ?_ ?_
      ·rintro k7 ys H4 hk7 ⟨s4,qs,rfl,hql,hqs⟩ hDl
       rw[Int.zero_add]
       refine dF ?_
       refine⟨_,rfl,1,(i:Int),rfl,rfl,⟨Int.natCast_nonneg i,by omega,by decide⟩,_,rfl,1,(k7:Int),rfl,rfl,⟨Int.natCast_nonneg k7,by omega,by decide⟩,_,_,rfl,rfl,?_⟩
       refine CE1.mk hDl (aP (by rw[aY];omega)) ⟨Same.up s4 hD,qs++[2 ^ i ||| 2 ^ k7],?_,by rw[List.length_append,hql];rfl,fun n hn=>?_⟩
       ·rw[gq,← Ay,← DP,← DP]
       ·rcases List.mem_append.mp hn with z | z
        ·exact hqs n z
        ·rw[List.mem_singleton.mp z]
         exact Nat.or_lt_two_pow (Nat.pow_lt_pow_right (by decide) hi) (Nat.pow_lt_pow_right (by decide) (by omega))
      ·rintro ys H4 ⟨s4,qs,rfl,hql,hqs⟩ hDl
       refine⟨B,D,_,_,rfl,rfl,s4 _ _ hB1,hDl,by rw[aY,aY,sizeLine_eq];omega,?_⟩
       refine⟨Same.up (s1.trans s4) hB,⟨_,rfl⟩,ps++qs,by rw[au];unfold nums;rw[List.map_append],by rw[List.length_append];omega,fun p hp=>?_⟩
       rcases List.mem_append.mp hp with z | z
       ·exact hps p z
       ·exact hqs p z
     ·rintro σ' H1 ⟨s1,⟨ov,rfl⟩,ps,hB1,hpl,hps⟩
      exact rest ov H1 ps s1 hB1 (by omega) hps
    ·exact rest none _ [] (Same.new hB) au (Nat.zero_le _) fun p hp=>by cases hp
   ·refine iteF ?_
    exact rest none _ [] (Same.new hB) au (Nat.zero_le _) fun p hp=>by cases hp
  intro ov H1 ps s1 hB1 hpl hps
  refine⟨_,rfl,x,1,4,rfl,by decide,by decide,fun nr hnr=>⟨(nr:Int),rfl,by omega,by omega,?_⟩⟩
  rw[Int.toNat_natCast]
  refine j6 (lo:=0) (n:=nr) (fun i σ' H'=>Same H H'∧(∃ kv,σ' = [some (.int x),some (.int (c:Nat)),some (.ref B),ov,kv,none,none])∧∃ ps:List Nat,H' B=some (.lst (nums ps))∧ps.length≤36+i∧∀ p∈ps,p < 2 ^ c)
   ⟨s1,⟨none,rfl⟩,ps,hB1,hpl,hps⟩ ?_ ?_
  ·rintro i σ' H2 hi ⟨s2,⟨kv,rfl⟩,ps2,hB2,hpl2,hps2⟩
   rw[Int.zero_add]
   refine⟨_,rfl,.inl ⟨rfl,_,SqL.of hB2⟩,_,rfl,_,rfl,977,(i:Int),rfl,rfl,.inl ⟨by decide,by decide⟩,_,_,rfl,rfl,_,rfl,_,c,rfl,hc6,fun s hs=>⟨B,nums ps2,.int (s:Nat),rfl,rfl,hB2,aP (by rw[aY];omega),?_⟩⟩
   refine⟨Same.up s2 hB,⟨_,rfl⟩,ps2++[s],by rw[au,gq],by rw[List.length_append];show ps2.length+1≤_;omega,fun p hp=>?_⟩
   rcases List.mem_append.mp hp with z | z
   ·exact hps2 p z
   ·rw[List.mem_singleton.mp z];exact hs
  rintro σ' H2 ⟨s2,⟨kv,rfl⟩,ps2,hB2,hpl2,hps2⟩
  refine⟨_,rfl,B,rfl,⟨_,SqL.of hB2⟩,fun D hD=>cO (xs:=nums ps2) (fun i ys H'=>Same H2 H'∧i≤ps2.length∧ys=nums ((ps2.take i).filter fun p=>decide (0 < p))) ⟨Same.new hD,Nat.zero_le _,rfl⟩ (fun i ys H' _ ⟨e,_⟩=>SqL.of (e _ _ hB2)) ?_ ?_⟩
  ·rintro i v ys H' hx ⟨se,hi,rfl⟩ hDl
   obtain⟨n,hn,rfl⟩:=tV hx
   have hi':i<ps2.length:=(List.getElem?_eq_some_iff.mp hn).1
   have et:(ps2.take (i+1)).filter (fun p=>decide (0 < p))=(ps2.take i).filter (fun p=>decide (0 < p))++(if 0 < n then [n] else []):=by
    rw[List.take_succ,hn,List.filter_append]
    congr 1
    by_cases e:0 < n
    ·simp [e]
    ·simp [e]
   have hll:((ps2.take i).filter fun p=>decide (0 < p)).length≤64:=Nat.le_trans (List.length_filter_le _ _) (by rw[List.length_take];omega)
   refine⟨_,rfl,(n:Int),0,rfl,rfl,_,rfl,?_⟩
   refine ite2 (fun e=>?_) (fun e=>?_)
   ·have e':0 < n:=by have:=of_decide_eq_true e;omega
    refine⟨_,rfl,CE1.mk hDl (aP (by rw[aY];omega)) ⟨Same.up se hD,hi',?_⟩⟩
    rw[et,if_pos e',gq]
   ·have e':¬ 0 < n:=fun z=>e (decide_eq_true (by omega))
    refine CN.mk hDl ⟨se,hi',?_⟩
    rw[et,if_neg e',List.append_nil]
  rintro ys H3 ⟨s3,_,rfl⟩ hD3
  rw[aY,List.take_length] at hD3
  have hqs:∀ p∈ps2.filter (fun p=>decide (0 < p)),1≤p∧p < 2 ^ c:=fun p hp=>by
   obtain⟨a,b⟩:=List.mem_filter.mp hp
   have:=of_decide_eq_true b
   exact⟨by omega,hps2 p a⟩
  have hql:(ps2.filter fun p=>decide (0 < p)).length≤40:=Nat.le_trans (List.length_filter_le _ _) (by omega)
  generalize ps2.filter (fun p=>decide (0 < p))=qs at hD3 hqs hql
  have s03:Same H H3:=s2.trans s3
  have hDn:H D=none:=s2.free hD
  have hor:=ao0 qs (2 ^ c - 1) 0 (by simp) fun p hp=>alc (hqs p hp).2
  have hlt:=anG qs (2 ^ c - 1) (Nat.le_refl _)
  refine⟨_,rfl,1,(c:Int),rfl,rfl,⟨Int.natCast_nonneg c,by omega,by decide⟩,_,1,rfl,rfl,?_⟩
  have e0:(1:Int) * 2 ^ ((c:Int)).toNat - 1=((lf (2 ^ c - 1) []:Nat):Int):=by rw[DP,ajV];rfl
  refine⟨_,rfl,D,rfl,⟨_,SqL.of hD3⟩,f9 (K:=K) (a:=D) (xs:=nums qs) (fun i σ' H'=>H' = H3∧∃ pv,σ' = [some (.int x),some (.int (c:Nat)),some (.ref D),ov,kv,some (.int (lf (2 ^ c - 1) (qs.take i):Nat)),pv])
   ⟨rfl,none,by
    show[_,_,_,_,_,some (V.int ((1:Int) * 2 ^ ((c:Int)).toNat - 1)),none] = _
    rw[e0];rfl⟩ (fun i σ' H' _ ⟨e,_⟩=>by subst e;exact SqL.of hD3) ?_ ?_⟩
  ·rintro i v σ' H' hx ⟨rfl,pv,rfl⟩
   obtain⟨p,hpi,rfl⟩:=tV hx
   have hpb:=(hqs p (List.mem_of_getElem? hpi)).2
   have hlb:lf (2 ^ c - 1) (qs.take i)≤2 ^ c - 1:=anG _ _ (Nat.le_refl _)
   refine⟨_,rfl,_,rfl,(p:Int),rfl,_,_,rfl,rfl,rfl,some (.int (p:Nat)),?_⟩
   rw[aoC hpi,← apL _ (by omega) _ (by omega)];rfl
  ·rintro σ' H' ⟨rfl,pv,rfl⟩
   rw[aY,List.take_length]
   have hlf:lf (2 ^ c - 1) qs≤2 ^ c - 1:=hlt
   have hlo:lf (2 ^ c - 1) qs ||| qs.foldl (· ||| ·) 0=2 ^ c - 1:=hor
   generalize lf (2 ^ c - 1) qs=L at hlf hlo ⊢
   suffices app:∀ H4,Same H' H4→aoL _ { nx:=_,rt:=Q } [some (.int x),some (.int (c:Nat)),some (.ref D),ov,kv,some (.int (L:Nat)),pv] H4 by
    refine⟨_,rfl,_,0,rfl,rfl,_,rfl,?_⟩
    refine ite2 (fun e=>?_) (fun e=>?_)
    ·exact iteT (app H' (Same.refl _))
    ·have hL0:L=0:=by
      have:¬ (0:Int)<(L:Int):=fun z=>e (decide_eq_true z)
      omega
     refine⟨_,rfl,Nat.zero_le _,fun E hE=>⟨.list (qs.map fun n=>PyData.int (n:Nat)),.list [],.lst (Same.new hE _ _ hD3) (RW qs),.lst au .nil,Cq qs,rfl,?_,_,rfl,?_⟩⟩
     ·show PyData.depthAll _+1≤60
      have:=wU qs
      omega
     ·have ee:PyData.eqv (.list (qs.map fun n=>PyData.int (n:Nat))) (.list [])=decide (qs = []):=Lf qs []
      rw[ee]
      refine ite2 (fun e2=>?_) (fun e2=>?_)
      ·exact app _ (Same.new hE)
      ·have hne:¬ qs = []:=fun z=>by rw[decide_eq_true z] at e2;exact e2 rfl
       have h1:1≤qs.length:=Nat.one_le_iff_ne_zero.mpr fun z=>hne (List.eq_nil_of_length_eq_zero z)
       rw[hL0,Nat.zero_or] at hlo
       exact⟨_,rfl,k D qs _ hDn (s03.trans (Same.new hE)) (Same.new hE _ _ hD3) h1 (by omega) hqs hlo⟩
   intro H4 s4
   obtain⟨r,hr⟩:=Int.eq_ofNat_of_zero_le (Int.emod_nonneg x (show((c:Nat):Int)≠0 by omega))
   have hrc:r<c:=by have:=Int.emod_lt_of_pos x (show(0:Int)<((c:Nat):Int) by omega);omega
   have hr2:2 ^ r < 2 ^ c:=Nat.pow_lt_pow_right (by decide) hrc
   refine⟨_,rfl,.inl ⟨rfl,_,SqL.of (s4 _ _ hD3)⟩,_,rfl,_,rfl,_,rfl,x,(c:Int),rfl,rfl,by show(0:Int)<(c:Int);omega,1,(r:Int),rfl,by show V.int (x % (c:Int))=_;rw[hr],⟨Int.natCast_nonneg r,by omega,by decide⟩,_,_,rfl,rfl,D,nums qs,.int (L ||| 2 ^ r:Nat),rfl,?_,s4 _ _ hD3,aP (by rw[aY];omega),?_⟩
   ·rw[← Ay,← DP]
   ·have hp2:1≤L ||| 2 ^ r∧L ||| 2 ^ r < 2 ^ c:=⟨Nat.le_trans (Nat.one_le_two_pow) Nat.right_le_or,Nat.or_lt_two_pow (by omega) hr2⟩
    refine⟨_,rfl,k D (qs++[L ||| 2 ^ r]) _ hDn (Same.up (s03.trans s4) hDn) (by rw[au,gq]) (by rw[List.length_append];show 1≤qs.length+1;omega) (by rw[List.length_append];show qs.length+1 < 64;omega) (fun p hp=>?_) ?_⟩
    ·rcases List.mem_append.mp hp with z | z
     ·exact hqs p z
     ·rw[List.mem_singleton.mp z];exact hp2
    ·rw[List.foldl_append]
     show qs.foldl (· ||| ·) 0 ||| (L ||| 2 ^ r)=2 ^ c - 1
     rw[← Nat.or_assoc,Nat.or_comm (qs.foldl (· ||| ·) 0) L,hlo,Nat.or_comm]
     exact alc hr2
end
end K12
namespace K12
open PySem L2 TC
theorem adb:W.kitOne K (.type "bool") (.type "bool")=some true:=by kernel_rfl
def aoD:Sp:=fun vs H Q _=>∃ a:Bool,vs = [.bl a,.bl a]∧Q (.bl true) H
def aoE:Sp:=fun vs H Q _=>∃ (x:Int) (c:Nat),vs = [.int x,.int (c:Nat)]∧1≤c∧c≤6∧∀ (d:Addr) (r:List Nat) (H':Hp),H d=none→Same H H'→H' d=some (.lst (nums r))→r.length≤7→(∀ n∈r,n < 2)→Q (.ref d) H'
def apM:Sp:=fun vs H Q _=>∃ (a b:Addr) (xs ys:List V),vs = [.ref a,.ref b]∧H a=some (.lst xs)∧H b=some (.lst ys)∧a≠b∧ys.length≤3000000∧Q .non (upd H a (.lst ys))
theorem anH (r:Nat) (h:r < 6):∃ e:Int,(e=0∨e=1∨e = -1)∧atI [V.int 0,V.int 0,V.int 0,V.int 0,V.int 1,V.int (-1)] ((r:Nat):Int)=some (.int e):=by
 have h:r=0∨r=1∨r=2∨r=3∨r=4∨r=5:=by omega
 rcases h with rfl | rfl | rfl | rfl | rfl | rfl
 ·exact⟨0,.inl rfl,rfl⟩
 ·exact⟨0,.inl rfl,rfl⟩
 ·exact⟨0,.inl rfl,rfl⟩
 ·exact⟨0,.inl rfl,rfl⟩
 ·exact⟨1,.inr (.inl rfl),rfl⟩
 ·exact⟨-1,.inr (.inr rfl),rfl⟩
section
variable {P:Program} {w:World} {K:W.Frag} {mg:Str→Option Value} {base:Heap} {A:Adr}
theorem nQ (T:Txt K mg A):FnOk P w K mg base CX0 1 A.nF A.Qg ["_law_said", "_law_due"] aoD:=by
 refine T.iC.ok ahJ (fun vs H Q E h=>?_) (fun cdv A' outer s H vs Q E hr h=>?_)
 ·obtain⟨a,rfl,_⟩:=h;rfl
 ·obtain⟨a,rfl,k⟩:=h
  refine⟨_,(aB (aM (pX (aW (d7 K) rfl T.bU cj (aj (pv 0) (aj (pL (v:=.ty "bool") rfl T.Qm afi rfl) ao))) (qF (mj mO (pv 0) (pv 1) (bF _)))))),?_⟩
  refine⟨_,rfl,_,_,_,true,rfl,.bl a,adb,true,rfl,iteT ⟨_,rfl,_,rfl,rfl,?_⟩⟩
  rw[decide_eq_true rfl]
  exact k
theorem wY (T:Txt K mg A):FnOk P w K mg base CX0 3 A.qw A.VL ["_law_cell", "_law_columns"] aoE:=by
 have cL:=lE (P:=P) (w:=w) (base:=base) T
 refine T.nY.ok ajC (fun vs H Q E h=>?_) (fun cdv A' outer s H vs Q E hr h=>?_)
 ·obtain⟨x,c,rfl,_⟩:=h;rfl
 ·obtain⟨x,c,rfl,hc1,hc6,k⟩:=h
  refine⟨_,(aB (aM (cP ["_law_cell", "_law_columns"] (ak kh) ["_law_k", "_law_cell"] [none,some 0] ⟨rfl,by decide +kernel,by decide +kernel,by decide +kernel,by decide +kernel,by decide +kernel⟩ rfl (cN rfl T.dO (aj (bw eF (pv 1) (bh (bQ K) (Ab (aj aA (aj aA (aj aA (aj aA (aj aA (aj (akF ajj aA) ao))))))) (aC cL (hr.mono (by decide)) rfl T.gm T.fU.kp T.gj .nil aH (aj (pv 0) (aj aA (aj aA ao)))) (fun _ _=>rfl))) ao)) (fun _ _ _ _ _=>(aO (i:=0) (by show List.Nodup (["_law_k", "_law_cell"]:List Str);decide +kernel) rfl (Or.inl rfl) (Or.inr rfl))) (fun _ _ _ _ _=>cG) (fun _ _ _ _ _=>(aC cL (hr.mono (by decide)) rfl T.gm T.fU.kp T.gj .nil aH (aj (bw eF (pv 1) (bw uY aA (pv 0))) (aj aA (aj aA ao)))))))),?_⟩
  refine⟨_,rfl,(1:Int),rfl,by show 6≤sizeLine;decide,fun tp htp=>⟨_,rfl,x,6,6,rfl,by decide,by decide,fun r hr6=>?_⟩⟩
  obtain⟨e,he,ea⟩:=anH r hr6
  have st:Same H (upd H tp (.tup [V.int 0,V.int 0,V.int 0,V.int 0,V.int 1,V.int (-1)])):=Same.new htp
  refine⟨tp,_,_,_,rfl,rfl,SqT.of au,ea,(c:Int),e,rfl,rfl,(c:Int)+e,rfl,by omega,by omega,fun D hD=>?_⟩
  have hn:((c:Int)+e).toNat≤7:=by omega
  generalize ((c:Int)+e).toNat=n at hn
  refine jm (lo:=0) (n:=n) (fun i ys H'=>Same H H'∧i≤n∧∃ rr:List Nat,ys=nums rr∧rr.length=i∧∀ n∈rr,n < 2) ⟨Same.up st (st.free hD),Nat.zero_le _,[],rfl,rfl,fun n hn=>by simp at hn⟩ ?_ ?_
  ·rintro i ys H' hi ⟨se,_,rr,rfl,hrl,hr2⟩ hDl
   rw[Int.zero_add]
   refine dF ?_
   refine⟨_,rfl,_,rfl,7,(i:Int),rfl,rfl,.inl ⟨by decide,by decide⟩,x,_,rfl,rfl,_,5,2,rfl,by decide,by decide,fun q hq=>?_⟩
   refine CE1.mk hDl (aP (by rw[aY];omega)) ⟨Same.up se (st.free hD),hi,rr++[q],by rw[gq],by rw[List.length_append,hrl];rfl,fun m hm=>?_⟩
   rcases List.mem_append.mp hm with z | z
   ·exact hr2 m z
   ·rw[List.mem_singleton.mp z];exact hq
  ·rintro ys H' ⟨se,_,rr,rfl,hrl,hr2⟩ hDl
   exact k D rr H' (st.free hD) se hDl (by omega) hr2
theorem Qt (T:Txt K mg A):FnOk P w K mg base CX0 1 A.qx A.VN ["_law_some", "_law_others"] apM:=by
 refine T.wJ.ok ajD (fun vs H Q E h=>?_) (fun cdv A' outer s H vs Q E hr h=>?_)
 ·obtain⟨a,b,xs,ys,rfl,_⟩:=h;rfl
 ·obtain⟨a,b,xs,ys,rfl,ha,hb,nab,hl,k⟩:=h
  refine⟨_,(aq (cQ (alP K (pv 0)))
   (aB (cQ (ZC K (pv 0) (aj (pv 1) ao))))),?_⟩
  refine⟨_,rfl,.inl ⟨rfl,_,SqL.of ha⟩,a,_,rfl,rfl,ha,?_⟩
  have hb2:(upd H a (.lst [])) b=some (.lst ys):=by rw[aG nab.symm];exact hb
  refine⟨_,rfl,.inl ⟨rfl,_,SqL.of au⟩,_,rfl,?_⟩
  refine⟨a,b,[],ys,rfl,rfl,au,hb2,by show 0+ys.length≤2 ^ 24;omega,?_⟩
  rw[an2]
  exact k
end
end K12
namespace K12
open PySem L2 TC
def But2 (a b:Addr) (H H':Hp):Prop:=∀ q o,H q=some o→q≠a→q≠b→H' q=some o
theorem But2.refl (a b:Addr) (H:Hp):But2 a b H H:=fun _ _ h _ _=>h
theorem But2.trans {a b:Addr} {H H1 H2:Hp} (x:But2 a b H H1) (y:But2 a b H1 H2):But2 a b H H2:=fun q o h n1 n2=>y q o (x q o h n1 n2) n1 n2
theorem But2.same {a b:Addr} {H H1:Hp} (e:Same H H1):But2 a b H H1:=fun q o h _ _=>e q o h
theorem But2.updA {a b:Addr} {H H1:Hp} {o:HO} (x:But2 a b H H1):But2 a b H (upd H1 a o):=fun q u h n1 n2=>by rw[aG n1];exact x q u h n1 n2
theorem But2.updB {a b:Addr} {H H1:Hp} {o:HO} (x:But2 a b H H1):But2 a b H (upd H1 b o):=fun q u h n1 n2=>by rw[aG n2];exact x q u h n1 n2
theorem Tps.but2 {a b:Addr} {H H':Hp} {xs ys:List V} (ha:H a=some (.lst xs)) (hb:H b=some (.lst ys)) (e:But2 a b H H'):∀ {ts:List Addr} {ps:List (Nat×Nat)},Tps H ts ps→Tps H' ts ps
 | [],[],_=>trivial
 | _::_,_::_,⟨h,t⟩=>⟨e _ _ h (iG h ha (by intro z;cases z)) (iG h hb (by intro z;cases z)),Tps.but2 ha hb e t⟩
 | [],_::_,h=>h.elim
 | _::_,[],h=>h.elim
theorem dg.but2 {a b l:Addr} {H H':Hp} {xs ys:List V} {ps:List (Nat×Nat)} (ha:H a=some (.lst xs)) (hb:H b=some (.lst ys)) (e:But2 a b H H') (n1:l≠a) (n2:l≠b):dg H l ps→dg H' l ps:=fun ⟨ts,h,t⟩=>⟨ts,e _ _ h n1 n2,t.but2 ha hb e⟩
theorem bV.but2 {C a b p m:Addr} {H H':Hp} {xs ys:List V} {c:Nat} {ps:List (Nat×Nat)} (ha:H a=some (.lst xs)) (hb:H b=some (.lst ys)) (e:But2 a b H H') (n1:m≠a) (n2:m≠b):bV C H p m c ps→bV C H' p m c ps:=fun ⟨⟨dx,h⟩,t⟩ =>
 ⟨⟨dx,e _ _ h (iG h ha (by intro z;cases z)) (iG h hb (by intro z;cases z))⟩,t.but2 ha hb e n1 n2⟩
def aoF (CR CW:Addr):Sp:=fun vs H Q _=>∃ (p m x d1 d2:Addr) (cell:Int) (c l r:Nat) (ps:List (Nat×Nat)) (r1 r2:List Nat),vs = [.ref p,.ref x,.int cell,.int (c:Nat),.int (l:Nat),.int (r:Nat)]∧bV CR H p m c ps∧Good c ps∧l < 2 ^ c∧r < 2 ^ c∧Ba CW H x d1 d2 r1 r2∧d1≠d2∧m≠d1∧m≠d2∧r1.length≤64∧r2.length≤64 ∧
 ∀ H',But2 d1 d2 H H'→Q (.bl true) H'
section
variable {P:Program} {w:World} {K:W.Frag} {mg:Str→Option Value} {base:Heap} {A:Adr}
theorem R9 (T:Txt K mg A):FnOk P w K mg base CX0 11 A.eO A.rO ["_law_rules", "_law_answer", "_law_cell", "_law_columns", "_law_left", "_law_right"] (aoF A.bB A.cI):=by
 have aV:=cB (P:=P) (w:=w) (base:=base) T
 have jB:=wY (P:=P) (w:=w) (base:=base) T
 have sH:=Qt (P:=P) (w:=w) (base:=base) T
 have sI:=Jb (P:=P) (w:=w) (base:=base) T
 have dB:=nQ (P:=P) (w:=w) (base:=base) T
 have vG:=M6 (P:=P) (w:=w) (base:=base) T
 refine T.Cj.ok jE (fun vs H Q E h=>?_) (fun cdv A' outer s H vs Q E hr h=>?_)
 ·obtain⟨p,m,x,d1,d2,cell,c,l,r,ps,r1,r2,rfl,_⟩:=h;rfl
 ·obtain⟨p,m,x,d1,d2,cell,c,l,r,ps,r1,r2,rfl,hR,hG,hl,hr',hRw,n12,nm1,nm2,hl1,hl2,k⟩:=h
  obtain⟨⟨dp,hp⟩,_⟩:=id hR
  obtain⟨⟨dx,hx⟩,hd1,hd2⟩:=id hRw
  have h64:2 ^ c≤64:=Nat.pow_le_pow_right (by decide) hG.2.1
  refine⟨_,(aq (aQ (i:=6) jE.nd rfl (Or.inl rfl) (eG (pv 0) T.bL T.bH aV (hr.mono (by decide)) T.bO .nil aH))
   (aq (aQ (i:=7) jE.nd rfl (Or.inl rfl) (cD (aj (aC jB (hr.mono (by decide)) rfl T.qD T.nY.kp T.qC .nil aH (aj (bw sY (pv 2) aA) (aj (pv 3) ao))) ao)))
   (aq (dR PassesOwn.never rfl (cN rfl T.dO (aj aA ao)) (aO (i:=8) jE.nd rfl (Or.inl rfl))
   (aq (bN (bA mO (pv 8) aA (bF _)) (aB (cQ (aC sH (hr.mono (by decide)) rfl T.Ci T.wJ.kp T.Cg .nil aH (aj (aR K (pv 1)) (aj (bh (aN K) (pv 7) aA (fun _ _=>rfl)) ao))))) (aB (bN (bA mO (pv 8) aA (bF _)) (aB (cQ (aC sH (hr.mono (by decide)) rfl T.Ci T.wJ.kp T.Cg .nil aH (aj (aR K (pv 1)) (aj (bh (aN K) (pv 7) aA (fun _ _=>rfl)) ao))))) (aB (bN (bA (oR hr.units) (aR K (pv 1)) (cD ao) (bF _)) (aB (Ph (bw mL (bw eF (bh (aN K) (aR K (pv 1)) aA (fun _ _=>rfl)) aA) aA) (aeS (aR K (pv 1)) aA set_list))) aU)))))
   (aq (aQ (i:=9) jE.nd rfl (Or.inl rfl) (aC sI (hr.mono (by decide)) rfl T.DK T.wR.kp T.DG .nil aH (aj (pv 6) (aj (pv 3) (aj (pv 4) (aj (pv 5) (aj (aR K (pv 1)) (aj (aR K (pv 1)) ao))))))))
   (aB (bN (bY (bG (aC dB (hr.mono (by decide)) rfl T.jw T.iC.kp T.ju .nil aH (aj (nU (pv 1) T.gP T.Aw vG (hr.mono (by decide)) T.Dz .nil aH (aj (pv 0) (aj (pv 4) (aj (pv 5) ao)))) (aj (pv 9) ao))))) (aB (aM cH)) aU)))))
   (aB (aM cH))))),?_⟩
  refine⟨_,rfl,p,dp,_,rfl,hp,iB _ _ (by decide +kernel) (by decide +kernel),p,m,c,ps,rfl,hR,fun f tf hf htf=>?_⟩
  have s1:Same H (upd H f (.lst (tf.map V.ref))):=Same.new hf
  have hf1:(upd H f (.lst (tf.map V.ref))) f=some (.lst (tf.map V.ref)):=au
  have htf1:=htf.same s1
  generalize upd H f (.lst (tf.map V.ref))=H1 at s1 hf1 htf1 ⊢
  have nf1:f≠d1:=fun z=>by rw[z,hd1] at hf;cases hf
  have nf2:f≠d2:=fun z=>by rw[z,hd2] at hf;cases hf
  refine⟨_,rfl,cell,3,rfl,rfl,⟨by decide,by decide⟩,_,rfl,_,c,rfl,hG.1,hG.2.1,fun e0 r0 H2 he0 s2 h0 hr0 hr02=>⟨by show 1≤sizeLine;decide,fun q hq=>?_⟩⟩
  have sq:Same H2 (upd H2 q (.lst [.ref e0])):=Same.new hq
  have hq3:(upd H2 q (.lst [.ref e0])) q=some (.lst [.ref e0]):=au
  have s3:=s1.trans (s2.trans sq)
  have hf3:=sq _ _ (s2 _ _ hf1)
  have htf3:=(htf1.same s2).same sq
  have h03:=sq _ _ h0
  have ne1:e0≠d1:=fun z=>by rw[z,s1 _ _ hd1] at he0;cases he0
  have ne2:e0≠d2:=fun z=>by rw[z,s1 _ _ hd2] at he0;cases he0
  have nq1:q≠d1:=fun z=>by rw[z,s2 _ _ (s1 _ _ hd1)] at hq;cases hq
  have nq2:q≠d2:=fun z=>by rw[z,s2 _ _ (s1 _ _ hd2)] at hq;cases hq
  generalize upd H2 q (.lst [.ref e0])=H3 at sq hq3 s3 hf3 htf3 h03 ⊢
  refine⟨3,rfl,by decide,by decide,j6 (lo:=0) (n:=3) (fun i σ' H'=>∃ (r1 r2:List Nat) (o8 o9:Option V),But2 d1 d2 H3 H'∧H' d1=some (.lst (nums r1))∧H' d2=some (.lst (nums r2))∧r1.length≤64∧r2.length≤64 ∧ σ' = [some (.ref p),some (.ref x),some (.int cell),some (.int (c:Nat)),some (.int (l:Nat)),some (.int (r:Nat)),some (.ref f),some (.ref q),o8,o9])
   ⟨r1,r2,none,none,But2.refl _ _ _,s3 _ _ hd1,s3 _ _ hd2,hl1,hl2,rfl⟩ ?_ ?_⟩
  ·rintro i σ' H4 hi ⟨r1,r2,o8,o9,b4,g1,g2,hl1,hl2,rfl⟩
   rw[Int.zero_add]
   have nx1:x≠d1:=iG hx hd1 (by intro z;cases z)
   have nx2:x≠d2:=iG hx hd2 (by intro z;cases z)
   have hx4:=b4 _ _ (s3 _ _ hx) nx1 nx2
   have hq4:=b4 _ _ hq3 nq1 nq2
   have h04:=b4 _ _ h03 ne1 ne2
   have hd13:=s3 _ _ hd1
   have hd23:=s3 _ _ hd2
   suffices rest:∀ (r1 r2:List Nat) (H5:Hp),But2 d1 d2 H3 H5→H5 d1=some (.lst (nums r1))→H5 d2=some (.lst (nums r2))→r1.length≤64→r2.length≤64→tSeq _ _ _ [some (.ref p),some (.ref x),some (.int cell),some (.int (c:Nat)),some (.int (l:Nat)),some (.int (r:Nat)),some (.ref f),some (.ref q),some (.int (i:Nat)),o9] H5 by
    refine⟨_,rfl,rfl,_,rfl,?_⟩
    refine ite2 (fun e=>?_) (fun e=>?_)
    ·refine⟨_,rfl,x,A.cI,dx,_,_,rfl,hx4,T.gP,T.jj,Iz _ _,_,rfl,q,_,0,_,rfl,rfl,SqL.of hq4,rfl,d1,e0,_,_,rfl,g1,h04,ne1.symm,by rw[aY];omega,?_⟩
     exact rest r0 r2 _ b4.updA au (by rw[aG n12.symm];exact g2) (by omega) hl2
    refine⟨_,rfl,rfl,_,rfl,?_⟩
    refine ite2 (fun e=>?_) (fun e=>?_)
    ·refine⟨_,rfl,x,A.cI,dx,_,_,rfl,hx4,T.gP,T.cX,nP _ _,_,rfl,q,_,0,_,rfl,rfl,SqL.of hq4,rfl,d2,e0,_,_,rfl,g2,h04,ne2.symm,by rw[aY];omega,?_⟩
     exact rest r1 r0 _ b4.updB (by rw[aG n12];exact g1) au hl1 (by omega)
    refine⟨_,rfl,x,A.cI,dx,_,_,rfl,hx4,T.gP,T.cX,nP _ _,Nat.zero_le _,fun z hz=>?_⟩
    have s5:Same H4 (upd H4 z (.lst [])):=Same.new hz
    refine⟨rowD r2,rowD [],fZ (s5 _ _ g2),fZ au,eZ _,eZ _,iD _,_,rfl,?_⟩
    rw[if_pos rfl,pG]
    refine ite2 (fun e=>?_) (fun e=>?_)
    ·have e':r2≠[]:=by simpa using e
     obtain⟨n,r2',rfl⟩ : ∃ n r2',r2=n::r2':=by cases r2 with | nil=>exact absurd rfl e' | cons n r=>exact⟨n,r,rfl⟩
     refine⟨_,rfl,x,A.cI,dx,_,_,rfl,s5 _ _ hx4,T.gP,T.cX,nP _ _,d2,_,0,_,rfl,rfl,SqL.of (s5 _ _ g2),(show atI (nums (n::r2')) ((0:Nat):Int)=some (.int (n:Nat)) from bJ rfl),(n:Int),1,rfl,rfl,_,100,rfl,rfl,(by show(0:Int) < 100;decide),?_⟩
     refine⟨_,rfl,x,A.cI,dx,_,_,rfl,s5 _ _ hx4,T.gP,T.cX,nP _ _,d2,_,(0:Int),0,rfl,rfl,s5 _ _ g2,(Zb (n:=(nums (n::r2')).length) (j:=0) (by rw[aY];exact Nat.succ_pos _)),?_⟩
     have ev:(V.int (((n:Nat):Int)+1):V) = .int ((n+1:Nat):Int):=by congr 1
     have em:(((n:Nat):Int)+1) % 100=(((n+1) % 100:Nat):Int):=by omega
     have es:(nums (n::r2')).set 0 (.int ((((n:Nat):Int)+1) % 100))=nums (((n+1) % 100)::r2'):=by rw[em,aaQ];rfl
     have z5:=rest r1 (((n+1) % 100)::r2') (upd (upd H4 z (.lst [])) d2 (.lst (nums (((n+1) % 100)::r2')))) ((b4.trans (But2.same s5)).updB) (by rw[aG n12];exact s5 _ _ g1) au hl1 hl2
     rw[← es] at z5
     exact z5
    ·exact rest r1 r2 _ (b4.trans (But2.same s5)) (s5 _ _ g1) (s5 _ _ g2) hl1 hl2
   intro r1 r2 H5 b5 g1 g2 hl1 hl2
   have hx5:=b5 _ _ (s3 _ _ hx) nx1 nx2
   have hf5:=b5 _ _ hf3 nf1 nf2
   have htf5:=htf3.but2 hd13 hd23 b5
   have hR5:=(hR.same s3).but2 hd13 hd23 b5 nm1 nm2
   refine⟨_,rfl,_,rfl,_,rfl,_,rfl,_,rfl,x,A.cI,dx,_,_,rfl,hx5,T.gP,T.jj,Iz _ _,_,rfl,x,A.cI,dx,_,_,rfl,hx5,T.gP,T.cX,nP _ _,f,d1,d2,c,l,r,ps,r1,r2,rfl,hG.2.1,⟨tf,hf5,htf5⟩,hG.2.2.1,fun p hp=>⟨by have:=(hG.2.2.2 p hp).1;omega,by have:=(hG.2.2.2 p hp).2;omega⟩,g1,g2,by omega,by omega,by omega,by omega,fun H6 s6=>?_⟩
   refine⟨_,rfl,x,dx,_,rfl,s6 _ _ hx5,ak3 _ _ (by decide +kernel) (by decide +kernel),_,rfl,_,rfl,_,rfl,x,d1,d2,p,m,c,l,r,ps,r1,r2,rfl,⟨⟨dx,s6 _ _ hx5⟩,s6 _ _ g1,s6 _ _ g2⟩,hR5.same s6,hG,by omega,by omega,fun H7 s7=>⟨_,rfl,lrB c ps l r r1 r2,(show([V.bl (brkB c [r1,r2] ps (l,r)),V.bl (lrB c ps l r r1 r2)]:List V) = [.bl (lrB c ps l r r1 r2),.bl (lrB c ps l r r1 r2)] by rw[aj8]),_,rfl,iteF ?_⟩⟩
   exact⟨r1,r2,_,_,b5.trans (But2.same (s6.trans s7)),s7 _ _ (s6 _ _ g1),s7 _ _ (s6 _ _ g2),hl1,hl2,rfl⟩
  ·rintro σ' H4 ⟨r1,r2,o8,o9,b4,g1,g2,hl1,hl2,rfl⟩
   exact k H4 ((But2.same s3).trans b4)
end
end K12
namespace K12
open PySem L2 TC
theorem Sd (xs:List V):cutV xs none none=xs:=by
 unfold cutV HT.sIx
 simp
def amm (CR:Addr):Sp:=fun vs H Q _=>∃ (p m:Addr) (cell:Int) (c:Nat) (ps:List (Nat×Nat)),vs = [.ref p,.int cell,.int (c:Nat)]∧bV CR H p m c ps∧Good c ps∧ps.length≤8∧∀ H',Same H H'→Q (.bl true) H'
section
variable {P:Program} {w:World} {K:W.Frag} {mg:Str→Option Value} {base:Heap} {A:Adr}
theorem Jd (T:Txt K mg A):FnOk P w K mg base CX0 13 A.cY A.oU ["_law_rules", "_law_cell", "_law_columns"] (amm A.bB):=by
 have aV:=cB (P:=P) (w:=w) (base:=base) T
 have sG:=Qs (P:=P) (w:=w) (base:=base) T
 have cL:=lE (P:=P) (w:=w) (base:=base) T
 have Wb:=aaF (P:=P) (w:=w) (base:=base) T
 have DR:=M5 (P:=P) (w:=w) (base:=base) T
 have IK:=R3 (P:=P) (w:=w) (base:=base) T
 have Nb:=aaD (P:=P) (w:=w) (base:=base) T
 have vG:=M6 (P:=P) (w:=w) (base:=base) T
 have dB:=nQ (P:=P) (w:=w) (base:=base) T
 have Je:=R7 (P:=P) (w:=w) (base:=base) T
 have sI:=Jb (P:=P) (w:=w) (base:=base) T
 have jB:=wY (P:=P) (w:=w) (base:=base) T
 have Wc:=R9 (P:=P) (w:=w) (base:=base) T
 refine T.vg.ok bC (fun vs H Q E h=>?_) (fun cdv A' outer s H vs Q E hr h=>?_)
 ·obtain⟨p,m,cell,c,ps,rfl,_⟩:=h;rfl
 ·obtain⟨p,m,cell,c,ps,rfl,hR,hG,hp8,k⟩:=h
  obtain⟨⟨dp,hp⟩,hPm⟩:=id hR
  have h64:2 ^ c≤64:=Nat.pow_le_pow_right (by decide) hG.2.1
  have aqj:∀ p∈ps,p.1 < 64∧p.2 < 64:=fun p hp=>⟨by have:=(hG.2.2.2 p hp).1;omega,by have:=(hG.2.2.2 p hp).2;omega⟩
  refine⟨_,(aq (aQ (i:=3) bC.nd rfl (Or.inr rfl) (eG (pv 0) T.bL T.bH aV (hr.mono (by decide)) T.bO .nil aH))
   (aq (aQ (i:=4) bC.nd rfl (Or.inl rfl) (aC sG (hr.mono (by decide)) rfl T.Ce T.wI.kp T.Cd .nil aH (aj (pv 1) (aj (pv 2) ao))))
   (aq (aQ (i:=5) bC.nd rfl (Or.inl rfl) (aC sG (hr.mono (by decide)) rfl T.Ce T.wI.kp T.Cd .nil aH (aj (bw eF (bw sY (pv 1) aA) aA) (aj (pv 2) ao))))
   (aq (Ri (i:=6) ["_law_rules", "_law_cell", "_law_columns", "_law_pairs_here", "_law_left", "_law_right", "_law_places_here", "_law_found", "_law_handed", "_law_answer", "_law_said", "_law_one", "_law_other"] (ak bZ) ["_law_k", "_law_cell", "_law_pairs_here"] [none,some 1,some 3] ⟨rfl,by decide +kernel,by decide +kernel,by decide +kernel,by decide +kernel,by decide +kernel⟩ rfl bC.nd rfl rfl (cN rfl T.dO (aj (bw mL (pv 1) aA) ao)) (fun _ _ _ _ _=>(aO (i:=0) (by show List.Nodup (["_law_k", "_law_cell", "_law_pairs_here"]:List Str);decide +kernel) rfl (Or.inl rfl) (Or.inr rfl))) (fun _ _ _ _ _=>cG) (fun _ _ _ _ _=>(aC cL (hr.mono (by decide)) rfl T.gm T.fU.kp T.gj .nil aH (aj (bw eF (pv 1) (bw uY aA (pv 0))) (aj aA (aj (bw eF (aW (bM K) rfl T.gh dH (aj (pv 2) ao)) aA) ao))))))
   (aq (aQ (i:=7) bC.nd rfl (Or.inl rfl) (aC Wb (hr.mono (by decide)) rfl T.aeg T.VP.kp T.aef .nil aH (aj (pv 0) (aj (pv 4) (aj (pv 5) ao)))))
   (aq (bN (PW.pt (z8 (bG (aW (oX K) rfl T.bU cj (aj (pv 7) (aj (sW (v:=.ref A.c7) rfl T.Y8 rfl) ao)))) (sX (bA mO (bw mL (pv 1) aA) aA (bF _))))) (aB (aQ (i:=6) bC.nd rfl (Or.inl rfl) (Hg (Ho K) (aR K (pv 7)) sZ sZ))) aU)
   (aq (aQ (i:=8) bC.nd rfl (Or.inl rfl) (cC (cg K) rfl T.dZ dh (aj (pv 6) ao)))
   (aq (aQ (i:=9) bC.nd rfl (Or.inl rfl) (pN T.BZ DR (hr.mono (by decide)) rfl T.Y8 T.RB .nil aH (aj (pv 8) ao)))
   (aq (cQ (cF K (pv 8) (aj aA ao)))
   (aq (bN (bA (oR hr.units) (aR K (pv 9)) (pv 6) (bF _)) (aB (aM cH)) aU)
   (aq (aQ (i:=10) bC.nd rfl (Or.inl rfl) (ad5 (nU (pv 9) T.pC T.HS Nb (hr.mono (by decide)) T.Mz .nil aH (aj (pv 0) (aj (pv 4) (aj (pv 5) ao)))) (nU (pv 9) T.gP T.Aw vG (hr.mono (by decide)) T.Dz .nil aH (aj (pv 0) (aj (pv 4) (aj (pv 5) ao))))))
   (aq (bN (bY (bG (aC dB (hr.mono (by decide)) rfl T.jw T.iC.kp T.ju .nil aH (aj (pv 10) (aj (aC Je (hr.mono (by decide)) rfl T.W8 T.Ik.kp T.W7 .nil aH (aj (pv 3) (aj (pv 4) (aj (pv 5) (aj (pv 6) ao))))) ao))))) (aB (aM cH)) aU)
   (aq (Vt (i:=11) (j:=12) rfl bC.nd rfl rfl (by decide) rfl rfl (aj (aC jB (hr.mono (by decide)) rfl T.qD T.nY.kp T.qC .nil aH (aj (pv 1) (aj (pv 2) ao))) (aj (aC jB (hr.mono (by decide)) rfl T.qD T.nY.kp T.qC .nil aH (aj (bw eF (bw sY (pv 1) aA) aA) (aj (pv 2) ao))) ao)) rfl)
   (aq (bN (PW.pt (z8 (bG (aW (oX K) rfl T.bU cj (aj (pv 7) (aj (sW (v:=.ref A.cI) rfl T.ajM rfl) ao)))) (sX (bA mO (bw mL (pv 1) aA) aA (bF _))))) (aB (Vt (i:=11) (j:=12) rfl bC.nd rfl rfl (by decide) rfl rfl (aj (Hg (Ho K) (aR K (pv 7)) sZ sZ) (aj (Hg (Ho K) (aR K (pv 7)) sZ sZ) ao)) rfl)) aU)
   (aq (aQ (i:=8) bC.nd rfl (Or.inl rfl) (cD (aj (cC (cg K) rfl T.dZ dh (aj (pv 11) ao)) (aj (cC (cg K) rfl T.dZ dh (aj (pv 12) ao)) ao))))
   (aq (aQ (i:=9) bC.nd rfl (Or.inl rfl) (pN T.Lb IK (hr.mono (by decide)) rfl T.ajM T.WX .nil aH (aj (bh (aN K) (pv 8) aA (fun _ _=>rfl)) (aj (bh (aN K) (pv 8) aA (fun _ _=>rfl)) ao))))
   (aq (cQ (cF K (bh (aN K) (pv 8) aA (fun _ _=>rfl)) (aj aA ao)))
   (aq (cQ (cF K (bh (aN K) (pv 8) aA (fun _ _=>rfl)) (aj aA ao)))
   (aq (bN (PW.pt (kI (bA (oR hr.units) (aR K (pv 9)) (pv 11) (bF _)) (lF (bA (oR hr.units) (aR K (pv 9)) (pv 12) (bF _))))) (aB (aM cH)) aU)
   (aq (aQ (i:=10) bC.nd rfl (Or.inl rfl) (ad5 (nU (pv 9) T.pC T.HS Nb (hr.mono (by decide)) T.Mz .nil aH (aj (pv 0) (aj (pv 4) (aj (pv 5) ao)))) (nU (pv 9) T.gP T.Aw vG (hr.mono (by decide)) T.Dz .nil aH (aj (pv 0) (aj (pv 4) (aj (pv 5) ao))))))
   (aq (bN (bY (bG (aC dB (hr.mono (by decide)) rfl T.jw T.iC.kp T.ju .nil aH (aj (pv 10) (aj (aC sI (hr.mono (by decide)) rfl T.DK T.wR.kp T.DG .nil aH (aj (pv 3) (aj (pv 2) (aj (pv 4) (aj (pv 5) (aj (pv 11) (aj (pv 12) ao))))))) ao))))) (aB (aM cH)) aU)
   (aB (aM (aC Wc (hr.mono (by decide)) rfl T.V0 T.Cj.kp T.VR .nil aH (aj (pv 0) (aj (pv 9) (aj (pv 1) (aj (pv 2) (aj (pv 4) (aj (pv 5) ao)))))))))))))))))))))))))))))),?_⟩
  refine⟨_,rfl,p,dp,_,rfl,hp,iB _ _ (by decide +kernel) (by decide +kernel),p,m,c,ps,rfl,hR,fun f tf hf htf=>?_⟩
  have s1:Same H (upd H f (.lst (tf.map V.ref))):=Same.new hf
  have hP1:dg (upd H f (.lst (tf.map V.ref))) f ps:=⟨tf,au,htf.same s1⟩
  have hf1:(upd H f (.lst (tf.map V.ref))) f=some (.lst (tf.map V.ref)):=au
  have hlf:(tf.map V.ref).length=ps.length:=by rw[List.length_map];exact htf.len
  generalize upd H f (.lst (tf.map V.ref))=H1 at s1 hP1 hf1 ⊢
  refine⟨_,rfl,_,rfl,cell,c,rfl,hG.2.1,fun l hl=>?_⟩
  refine⟨_,rfl,cell,3,rfl,rfl,⟨by decide,by decide⟩,_,5,rfl,rfl,_,rfl,_,c,rfl,hG.2.1,fun r hr'=>?_⟩
  refine⟨_,rfl,cell,4,rfl,rfl,(by show(0:Int) < 4;decide),cell % 4,rfl,by omega,by omega,fun D hD=>?_⟩
  have hn:(cell % 4).toNat≤3:=by omega
  generalize (cell % 4).toNat=n at hn
  refine jm (lo:=0) (n:=n) (fun i ys H'=>Same H1 H'∧i≤n∧∃ pl:List Nat,ys=nums pl∧pl.length=i) ⟨Same.new hD,Nat.zero_le _,[],rfl,rfl⟩ ?_ ?_
  ·rintro i ys H' hi ⟨se,_,pl,rfl,hpl⟩ hDl
   rw[Int.zero_add]
   refine dF ?_
   refine⟨_,rfl,_,rfl,31,(i:Int),rfl,rfl,.inl ⟨by decide,by decide⟩,cell,_,rfl,rfl,_,rfl,f,_,rfl,.inl (SqL.of (se _ _ hf1)),_,1,rfl,rfl,_,7,ps.length+1,by rw[hlf];rfl,by omega,by omega,fun q hq=>?_⟩
   exact CE1.mk hDl (aP (by rw[aY];omega)) ⟨Same.up se hD,hi,pl++[q],by rw[gq],by rw[List.length_append,hpl];rfl⟩
  rintro ys H2 ⟨s2,_,pl0,rfl,hpl0⟩ hDl
  have s02:=s1.trans s2
  suffices aqk:∀ (H5:Hp) (fo:Addr) (o6 o8 o9 o10:Option V),Same H H5→dg H5 f ps→((∃ d pl,vD A.c7 H5 fo d pl) ∨ ∃ e1 e2 r1 r2,Ba A.cI H5 fo e1 e2 r1 r2∧r1.length≤64∧r2.length≤64)→tSeq _ _ { nx:=fun x H'=>Q V.non H',rt:=Q } [some (.ref p),some (.int cell),some (.int (c:Nat)),some (.ref f),some (.int (l:Nat)),some (.int (r:Nat)),o6,some (.ref fo),o8,o9,o10,none,none] H5 by
   suffices anI:∀ (H4:Hp) (fo D:Addr) (pl:List Nat),Same H H4→dg H4 f ps→H4 D=some (.lst (nums pl))→pl.length≤64→((∃ d pl,vD A.c7 H4 fo d pl) ∨ ∃ e1 e2 r1 r2,Ba A.cI H4 fo e1 e2 r1 r2∧r1.length≤64∧r2.length≤64)→tSeq _ _ { nx:=fun x H'=>Q V.non H',rt:=Q } [some (.ref p),some (.int cell),some (.int (c:Nat)),some (.ref f),some (.int (l:Nat)),some (.int (r:Nat)),some (.ref D),some (.ref fo),none,none,none,none,none] H4 by
    refine⟨_,rfl,_,rfl,_,rfl,p,m,c,l,r,ps,rfl,hR.same s02,hG,hl,hr',fun hs x d pl H3 hx hd s3 hSt hld hpli hpn=>?_,fun hs x e1 e2 H3 hx he1 he2 nee s3 hRw=>?_⟩
    ·obtain⟨⟨dx,hxx⟩,hdd⟩:=id hSt
     refine⟨_,rfl,_,_,_,true,rfl,T.aaw.ty T.pC hxx,T.kE,true,rfl,iteT ⟨_,rfl,cell,3,rfl,rfl,(by show(0:Int) < 3;decide),rfl,_,rfl,?_⟩⟩
     refine ite2 (fun e=>?_) (fun e=>?_)
     ·refine⟨_,rfl,x,A.c7,dx,_,_,rfl,hxx,T.pC,T.eE,yq _,d,_,rfl,SqL.of hdd,fun g hg=>?_⟩
      have s4:Same H3 (upd H3 g (.lst (cutV (nums pl) none none))):=Same.new hg
      exact anI _ x g pl (s02.trans (s3.trans s4)) ((hP1.same s2).same (s3.trans s4)) (by rw[au,Sd]) hpn (.inl ⟨d,pl,hSt.same s4⟩)
     ·exact anI H3 x D pl0 (s02.trans s3) ((hP1.same s2).same s3) (s3 _ _ hDl) (by omega) (.inl ⟨d,pl,hSt⟩)
    ·obtain⟨⟨dx,hxx⟩,_⟩:=id hRw
     refine⟨_,rfl,_,_,_,false,rfl,T.afA.ty T.gP hxx,T.lZ,false,rfl,iteF (iteF ?_)⟩
     exact anI H3 x D pl0 (s02.trans s3) ((hP1.same s2).same s3) (s3 _ _ hDl) (by omega) (.inr ⟨e1,e2,_,_,hRw,by rw[BW];have:=hG.2.1;omega,by rw[BW];have:=hG.2.1;omega⟩)
   intro H4 fo D pl s4 hP4 hD4 hpn hfo
   refine⟨_,rfl,D,nums pl,rfl,.inl (SqL.of hD4),fun hd hhd=>?_⟩
   have t1:Same H4 (upd H4 hd (.lst (nums pl))):=Same.new hhd
   refine⟨_,rfl,fun x dx nx ndx nex=>?_⟩
   have t2:Same (upd H4 hd (.lst (nums pl))) (upd (upd (upd H4 hd (.lst (nums pl))) dx (.own x)) x (.ins A.c7 dx [])):=Same.up (Same.new ndx) nx
   refine⟨x,dx,hd,pl,rfl,au,t2 _ _ au,fun d H6 hdn hSt kp=>⟨rfl,?_⟩⟩
   have t3:Same (upd H4 hd (.lst (nums pl))) H6:=fun b o e=>kp b o (t2 b o e) (aL e nx)
   have hhd6:=t3 _ _ (au (H:=H4) (a:=hd) (o:=.lst (nums pl)))
   have t4:Same H4 H6:=t1.trans t3
   refine⟨_,rfl,.inl ⟨rfl,_,SqL.of hhd6⟩,hd,_,_,rfl,rfl,hhd6,aP (by rw[aY];omega),?_⟩
   obtain⟨⟨dxx,hxx⟩,hdd⟩:=id hSt
   have ndh:d≠hd:=fun z=>by rw[z] at hdn;rw[t2 _ _ au] at hdn;cases hdn
   have nxh:x≠hd:=iG hxx hhd6 (by intro z;cases z)
   have t5:Same H4 (upd H6 hd (.lst (nums pl++[.int 0]))):=Same.up t4 hhd
   have hSt7:vD A.c7 (upd H6 hd (.lst (nums pl++[.int 0]))) x d pl:=⟨⟨dxx,by rw[aG nxh];exact hxx⟩,by rw[aG ndh];exact hdd⟩
   generalize upd H6 hd (.lst (nums pl++[.int 0]))=H7 at t5 hSt7 ⊢
   obtain⟨⟨dx7,hx7⟩,hd7⟩:=id hSt7
   refine⟨_,rfl,x,A.c7,dx7,_,_,rfl,hx7,T.pC,T.eE,yq _,_,rfl,rowD pl,rowD pl,fZ hd7,fZ (t5 _ _ hD4),eZ _,eZ _,iD _,_,rfl,?_⟩
   rw[if_pos rfl,pG,decide_eq_true rfl]
   refine iteF ?_
   have s7:=s4.trans t5
   refine .inl ⟨_,rfl,x,dx7,_,rfl,hx7,aou _ (by decide +kernel),_,rfl,_,rfl,_,rfl,x,d,p,m,c,l,r,ps,pl,rfl,hSt7,hR.same s7,fun H8 s8=>?_⟩
   refine⟨_,rfl,_,rfl,_,rfl,_,rfl,_,rfl,f,D,l,r,ps,pl,rfl,hP4.same (t5.trans s8),s8 _ _ (t5 _ _ hD4),by omega,fun H9 s9=>⟨rK ps pl l r,rfl,_,rfl,iteF ?_⟩⟩
   have t9:=t5.trans (s8.trans s9)
   refine aqk H9 fo _ _ _ _ (s4.trans t9) (hP4.same t9) ?_
   rcases hfo with ⟨d',pl',h⟩ | ⟨e1,e2,r1,r2,h,h'⟩
   ·exact .inl ⟨d',pl',h.same t9⟩
   ·exact .inr ⟨e1,e2,r1,r2,h.same t9,h'⟩
  intro H5 fo o6 o8 o9 o10 s5 hP5 hfo
  suffices third:∀ (H8:Hp) (e1 e2:Addr) (r1 r2:List Nat),Same H H8→dg H8 f ps→H8 e1=some (.lst (nums r1))→H8 e2=some (.lst (nums r2))→r1.length≤64→r2.length≤64→tSeq _ _ { nx:=fun x H'=>Q V.non H',rt:=Q } [some (.ref p),some (.int cell),some (.int (c:Nat)),some (.ref f),some (.int (l:Nat)),some (.int (r:Nat)),o6,some (.ref fo),o8,o9,o10,some (.ref e1),some (.ref e2)] H8 by
   refine⟨_,rfl,_,rfl,cell,c,rfl,hG.1,hG.2.1,fun e1 r1 H6 he1 s6 h1 hl1 hv1=>?_⟩
   refine⟨_,rfl,cell,5,rfl,rfl,⟨by decide,by decide⟩,_,3,rfl,rfl,_,rfl,_,c,rfl,hG.1,hG.2.1,fun e2 r2 H7 he2 s7 h2 hl2 hv2=>⟨_,_,rfl,?_⟩⟩
   have t7:=s6.trans s7
   rcases hfo with ⟨d',pl',h⟩ | ⟨a1,a2,q1,q2,h,hq1,hq2⟩
   ·obtain⟨⟨dx,hx⟩,_⟩:=h.same t7
    refine⟨_,rfl,_,_,_,false,rfl,T.aaw.ty T.pC hx,T.pD,false,rfl,iteF (iteF ?_)⟩
    exact third H7 e1 e2 r1 r2 (s5.trans t7) (hP5.same t7) (s7 _ _ h1) h2 (by omega) (by omega)
   ·obtain⟨⟨dx,hx⟩,g1,g2⟩:=h.same t7
    refine⟨_,rfl,_,_,_,true,rfl,T.afA.ty T.gP hx,T.qO,true,rfl,iteT ⟨_,rfl,cell,3,rfl,rfl,(by show(0:Int) < 3;decide),rfl,_,rfl,?_⟩⟩
    refine ite2 (fun e=>?_) (fun e=>?_)
    ·refine⟨_,rfl,fo,A.cI,dx,_,_,rfl,hx,T.gP,T.jj,Iz _ _,a1,_,rfl,SqL.of g1,fun b1 hb1=>?_⟩
     have u1:Same H7 (upd H7 b1 (.lst (cutV (nums q1) none none))):=Same.new hb1
     refine⟨_,rfl,fo,A.cI,dx,_,_,rfl,u1 _ _ hx,T.gP,T.cX,nP _ _,a2,_,rfl,SqL.of (u1 _ _ g2),fun b2 hb2=>⟨_,_,rfl,?_⟩⟩
     have u2:Same (upd H7 b1 (.lst (cutV (nums q1) none none))) (upd (upd H7 b1 (.lst (cutV (nums q1) none none))) b2 (.lst (cutV (nums q2) none none))):=Same.new hb2
     have t8:=t7.trans (u1.trans u2)
     exact third _ b1 b2 q1 q2 (s5.trans t8) (hP5.same t8) (by rw[u2 _ _ au,Sd]) (by rw[au,Sd]) hq1 hq2
    ·exact third H7 e1 e2 r1 r2 (s5.trans t7) (hP5.same t7) (s7 _ _ h1) h2 (by omega) (by omega)
  intro H8 e1 e2 r1 r2 s8 hP8 h1 h2 hl1 hl2
  refine⟨_,rfl,e1,nums r1,rfl,.inl (SqL.of h1),fun g1 hg1=>?_⟩
  have u1:Same H8 (upd H8 g1 (.lst (nums r1))):=Same.new hg1
  have k1:(upd H8 g1 (.lst (nums r1))) g1=some (.lst (nums r1)):=au
  generalize upd H8 g1 (.lst (nums r1))=H9 at u1 k1 ⊢
  refine⟨_,rfl,e2,nums r2,rfl,.inl (SqL.of (u1 _ _ h2)),fun g2 hg2=>⟨by show 2≤sizeLine;decide,fun q hq=>?_⟩⟩
  have u2:Same H9 (upd H9 g2 (.lst (nums r2))):=Same.new hg2
  have k2:(upd H9 g2 (.lst (nums r2))) g2=some (.lst (nums r2)):=au
  have n12:g1≠g2:=aL k1 hg2
  generalize upd H9 g2 (.lst (nums r2))=H10 at u2 k2 hq ⊢
  have u3:Same H10 (upd H10 q (.lst [.ref g1,.ref g2])):=Same.new hq
  have k3:(upd H10 q (.lst [.ref g1,.ref g2])) q=some (.lst [.ref g1,.ref g2]):=au
  have nq1:q≠g1:=fun z=>by rw[z,u2 _ _ k1] at hq;cases hq
  have nq2:q≠g2:=fun z=>by rw[z,k2] at hq;cases hq
  generalize upd H10 q (.lst [.ref g1,.ref g2])=H11 at u3 k3 ⊢
  have hg1H:H8 g1=none:=hg1
  have hg2H:H8 g2=none:=u1.free hg2
  have u11:=u1.trans (u2.trans u3)
  have k1':=u3 _ _ (u2 _ _ k1)
  have k2':=u3 _ _ k2
  refine⟨_,rfl,q,_,0,_,rfl,rfl,SqL.of k3,rfl,_,rfl,q,_,1,_,rfl,rfl,SqL.of k3,rfl,fun x dx nx ndx nex=>?_⟩
  have v1:Same H11 (upd (upd H11 dx (.own x)) x (.ins A.cI dx [])):=Same.up (Same.new ndx) nx
  refine⟨x,dx,g1,g2,r1,r2,rfl,au,v1 _ _ k1',v1 _ _ k2',fun a b H12 ha hb nab hRw kp=>⟨rfl,?_⟩⟩
  have v2:Same H11 H12:=fun b o e=>kp b o (v1 b o e) (aL e nx)
  obtain⟨⟨dxx,hxx⟩,haa,hbb⟩:=id hRw
  have na1:a≠g1:=fun z=>by rw[z,v1 _ _ k1'] at ha;cases ha
  have na2:a≠g2:=fun z=>by rw[z,v1 _ _ k2'] at ha;cases ha
  have nb1:b≠g1:=fun z=>by rw[z,v1 _ _ k1'] at hb;cases hb
  have nb2:b≠g2:=fun z=>by rw[z,v1 _ _ k2'] at hb;cases hb
  have k1'':=v2 _ _ k1'
  have k2'':=v2 _ _ k2'
  have k3'':=v2 _ _ k3
  have nx1:x≠g1:=iG hxx k1'' (by intro z;cases z)
  have nx2:x≠g2:=iG hxx k2'' (by intro z;cases z)
  refine⟨_,rfl,q,_,0,_,rfl,rfl,SqL.of k3'',rfl,.inl ⟨rfl,_,SqL.of k1''⟩,g1,_,_,rfl,rfl,k1'',aP (by rw[aY];omega),?_⟩
  have kq:(upd H12 g1 (.lst (nums r1++[.int 0]))) q=some (.lst [.ref g1,.ref g2]):=by rw[aG nq1];exact k3''
  refine⟨_,rfl,q,[.ref g1,.ref g2],1,.ref g2,rfl,rfl,SqL.of kq,rfl,.inl ⟨rfl,_,SqL.of (show(upd H12 g1 (.lst (nums r1++[.int 0]))) g2=_ by rw[aG n12.symm];exact k2'')⟩,g2,_,_,rfl,rfl,(show(upd H12 g1 (.lst (nums r1++[.int 0]))) g2=_ by rw[aG n12.symm];exact k2''),aP (by rw[aY];omega),?_⟩
  have w1:Same H8 (upd (upd H12 g1 (.lst (nums r1++[.int 0]))) g2 (.lst (nums r2++[.int 0]))):=Same.up (Same.up (u11.trans v2) hg1H) hg2H
  have ald:Ba A.cI (upd (upd H12 g1 (.lst (nums r1++[.int 0]))) g2 (.lst (nums r2++[.int 0]))) x a b r1 r2:=⟨⟨dxx,by rw[aG nx2,aG nx1];exact hxx⟩,by rw[aG na2,aG na1];exact haa,by rw[aG nb2,aG nb1];exact hbb⟩
  generalize upd (upd H12 g1 (.lst (nums r1++[.int 0]))) g2 (.lst (nums r2++[.int 0]))=H13 at w1 ald ⊢
  obtain⟨⟨dx3,hx3⟩,ha3,hb3⟩:=id ald
  refine⟨_,rfl,x,A.cI,dx3,_,_,rfl,hx3,T.gP,T.jj,Iz _ _,_,rfl,rowD r1,rowD r1,fZ ha3,fZ (w1 _ _ h1),eZ _,eZ _,iD _,_,rfl,?_⟩
  rw[if_pos rfl,pG,decide_eq_true rfl]
  refine iteF ⟨_,rfl,x,A.cI,dx3,_,_,rfl,hx3,T.gP,T.cX,nP _ _,_,rfl,rowD r2,rowD r2,fZ hb3,fZ (w1 _ _ h2),eZ _,eZ _,iD _,_,rfl,?_⟩
  rw[if_pos rfl,pG,decide_eq_true rfl]
  refine iteF ?_
  have s13:=s8.trans w1
  refine .inr ⟨_,rfl,x,dx3,_,rfl,hx3,ak3 _ _ (by decide +kernel) (by decide +kernel),_,rfl,_,rfl,_,rfl,x,a,b,p,m,c,l,r,ps,r1,r2,rfl,ald,hR.same s13,hG,by omega,by omega,fun H14 s14=>?_⟩
  refine⟨_,rfl,_,rfl,_,rfl,_,rfl,_,rfl,_,rfl,_,rfl,f,e1,e2,c,l,r,ps,r1,r2,rfl,hG.2.1,hP8.same (w1.trans s14),hG.2.2.1,aqj,s14 _ _ (w1 _ _ h1),s14 _ _ (w1 _ _ h2),by omega,by omega,by omega,by omega,fun H15 s15=>⟨lrB c ps l r r1 r2,(show([V.bl (brkB c [r1,r2] ps (l,r)),V.bl (lrB c ps l r r1 r2)]:List V) = [.bl (lrB c ps l r r1 r2),.bl (lrB c ps l r r1 r2)] by rw[aj8]),_,rfl,iteF ?_⟩⟩
  have s135:=s14.trans s15
  have haH:H a=none:=s8.free (u11.free (v1.free ha))
  have hbH:H b=none:=s8.free (u11.free (v1.free hb))
  obtain⟨tm,hmm,_⟩:=id hPm
  refine⟨_,rfl,_,rfl,_,rfl,_,rfl,_,rfl,_,rfl,p,m,x,a,b,cell,c,l,r,ps,r1,r2,rfl,hR.same (s13.trans s135),hG,hl,hr',ald.same s135,nab,aL hmm haH,aL hmm hbH,hl1,hl2,fun H16 b16=>?_⟩
  exact k H16 fun q o hq=>b16 q o ((s13.trans s135) q o hq) (aL hq haH) (aL hq hbH)
end
end K12
namespace K12
open PySem L2 TC
theorem anJ {q:Nat×Nat×Nat} (h:q.1 < 64∧q.2.1 < 64∧q.2.2 < 64):ltB 64 [q.1,q.2.1,q.2.2] = true:=by
 unfold ltB
 simp [h.1,h.2.1,h.2.2]
def amn:Sp:=fun vs H Q _=>∃ (l pl d:Addr) (c:Nat) (ps:List (Nat×Nat)) (pts:List Nat) (L:List (Nat×Nat×Nat)),vs = [.ref l,.int (c:Nat),.ref pl,.ref d]∧dg H l ps∧Good c ps∧H pl=some (.lst (nums pts))∧pts.length≤64∧(∀ p∈pts,p < 64)∧Xf H d L∧(∀ q∈L,q.1 < 64∧q.2.1 < 64∧q.2.2 < 64) ∧
 ∀ H',Same H H'→Q (.bl (R4 c ps pts L)) H'
def amo:Sp:=fun vs H Q _=>∃ (l pl a b:Addr) (c:Nat) (ps:List (Nat×Nat)) (pts:List Nat) (S:List (List Nat)) (r:List Nat),vs = [.ref l,.int (c:Nat),.ref pl,.ref a,.ref b]∧dg H l ps∧Good c ps∧H pl=some (.lst (nums pts))∧pts.length≤64∧(∀ p∈pts,p < 64)∧iw H a S∧S.length≤64∧(∀ x∈S,x.length≤64)∧H b=some (.lst (nums r))∧r.length≤64 ∧
 ∀ H',Same H H'→Q (.bl (oO c ps pts S r)) H'
section
variable {P:Program} {w:World} {K:W.Frag} {mg:Str→Option Value} {base:Heap} {A:Adr}
theorem Xg (T:Txt K mg A):FnOk P w K mg base CX0 3 A.nA A.Qe ["_law_pairs_here", "_law_columns", "_law_parts_here", "_law_steps_here"] amn:=by
 have aij:=afS (P:=P) (w:=w) (base:=base) T
 have lG:=yt (P:=P) (w:=w) (base:=base) T
 have ade:=aaR (P:=P) (w:=w) (base:=base) T
 have gR:=qX (P:=P) (w:=w) (base:=base) T
 refine T.Qk.ok mW (fun vs H Q E h=>?_) (fun cdv A' outer s H vs Q E hr h=>?_)
 ·obtain⟨l,pl,d,c,ps,pts,L,rfl,_⟩:=h;rfl
 ·obtain⟨l,pl,d,c,ps,pts,L,rfl,⟨tl,hl,htl⟩,⟨hc1,hc6,hlen,hps⟩,hpl,hpn,hpts,⟨tL,hd,hT⟩,hlt,k⟩:=h
  have h64:2 ^ c≤64:=Nat.pow_le_pow_right (by decide) hc6
  have hlL:(tL.map V.ref).length=L.length:=by rw[List.length_map];exact hT.len
  have hlp:(tl.map V.ref).length=ps.length:=by rw[List.length_map];exact htl.len
  refine⟨_,(aq (aQ (i:=4) mW.nd rfl (Or.inl rfl) (aC aij (hr.mono (by decide)) rfl T.ahW T.Xa.kp T.ahV .nil aH (aj (pv 2) (aj (pv 1) ao))))
   (aq (bN (bY (bG (aW (d7 K) rfl T.bU cj (aj (pv 3) (aj (pL (v:=.ty "list") rfl T.dZ dh rfl) ao))))) (aB (aM cH)) aU)
   (aq (dR PassesOwn.never rfl (bI K (pv 3)) (aO (i:=5) mW.nd rfl (Or.inl rfl))
   (aq (bN (PW.pt (kI (bY (bG (aW (d7 K) rfl T.bU cj (aj (pv 5) (aj (pL (v:=.ty "tuple") rfl T.yp Rt rfl) ao))))) (kI (bA GP (aW (bM K) rfl T.gh dH (aj (pv 5) ao)) aA (bF _)) (lF (bY (bG (aC gR (hr.mono (by decide)) rfl T.lY T.jW.kp T.lX .nil aH (aj (cC (cg K) rfl T.dZ dh (aj (pv 5) ao)) (aj aA ao))))))))) (aB (aM cH)) aU)
   (aq (Ph (pv 5) (qH K (n:=3) rfl (cZ (aO (i:=6) mW.nd rfl (Or.inl rfl)) (cZ (aO (i:=7) mW.nd rfl (Or.inl rfl)) (cZ (aO (i:=8) mW.nd rfl (Or.inl rfl)) qG)))))
   (aq (bN (PW.pt (kI (bA amN (pv 6) (aW (bM K) rfl T.gh dH (aj (pv 0) ao)) (bF _)) (kI (bA amN (pv 7) (aW (bM K) rfl T.gh dH (aj (pv 4) ao)) (bF _)) (lF (bA amN (pv 8) (aW (bM K) rfl T.gh dH (aj (pv 4) ao)) (bF _)))))) (aB (aM cH)) aU)
   (aq (bN (bY (bG (aC lG (hr.mono (by decide)) rfl T.rY T.pY.kp T.rW .nil aH (aj (bh (aN K) (pv 4) (pv 7) (fun _ _=>rfl)) (aj (bh (aN K) (pv 4) (pv 8) (fun _ _=>rfl)) (aj (bh (bQ K) (bh (aN K) (pv 0) (pv 6) (fun _ _=>rfl)) aA (fun _ _=>rfl)) ao)))))) (aB (aM cH)) aU)
   (aB (aQ (i:=4) mW.nd rfl (Or.inl rfl) (aC ade (hr.mono (by decide)) rfl T.acX T.M4.kp T.acW .nil aH (aj (pv 4) (aj (pv 7) (aj (pv 8) (aj (bh (bQ K) (bh (aN K) (pv 0) (pv 6) (fun _ _=>rfl)) aA (fun _ _=>rfl)) ao))))))))))))
   (aB (aM (mj (ZD hr.units) (cP ["_law_pairs_here", "_law_columns", "_law_parts_here", "_law_steps_here", "_law_sheet_here", "_law_step", "_law_place", "_law_one", "_law_other"] (ak jt) ["_law_column"] [none] ⟨rfl,by decide +kernel,by decide +kernel,by decide +kernel,by decide +kernel,by decide +kernel⟩ rfl (cN rfl T.dO (aj (pv 1) ao)) (fun _ _ _ _ _=>(aO (i:=0) (by show List.Nodup (["_law_column"]:List Str);decide +kernel) rfl (Or.inl rfl) (Or.inr rfl))) (fun _ _ _ _ _=>cG) (fun _ _ _ _ _=>aA)) (pv 4) (by with_unfolding_all rfl))))))),?_⟩
  refine⟨_,rfl,_,rfl,pl,c,pts,rfl,hpl,hc6,hpn,hpts,fun g ts H1 hg s1 hS1=>?_⟩
  have fr:∀ {H' H'':Hp},Same H H'→But ts H' H''→Same H H'':=fun s' b=>But.fresh s' b fun t ht=>(hS1.n t ht).1
  have hd1:=s1 _ _ hd
  refine⟨_,rfl,_,_,_,true,rfl,.lst hd1,tR,true,rfl,iteF ?_⟩
  have no:∀ H',Same H H'→runS c ps L (fO c pts)=none→Q (.bl false) H':=fun H' s' e=>by
   have z:=k H' s'
   rw[aib e] at z
   exact z
  refine⟨_,rfl,d,rfl,⟨_,SqL.of hd1⟩,f9 (K:=K) (a:=d) (xs:=tL.map V.ref) (fun i σ' H'=>∃ S:List (List Nat),Same H H'∧Cv H H' g ts c S∧runS c ps (L.take i) (fO c pts)=some S∧∃ o5 o6 o7 o8:Option V,σ' = [some (.ref l),some (.int (c:Nat)),some (.ref pl),some (.ref d),some (.ref g),o5,o6,o7,o8])
   ⟨_,s1,hS1,rfl,none,none,none,none,rfl⟩ (fun i σ' H' _ ⟨_,e,_⟩=>SqL.of (e _ _ hd)) ?_ ?_⟩
  ·rintro i v σ' H2 hv ⟨S,s2,hS2,hrun,o5,o6,o7,o8,rfl⟩
   obtain⟨t,q,rfl,hq,ht⟩:=(hT.same s2).get hv
   have hqm:=List.mem_of_getElem? hq
   have hsh:=Shp.run (Shp.ahB c pts) hrun
   have hrt:=aeo (c:=c) (ps:=ps) (S:=fO c pts) hq
   rw[hrun] at hrt
   have hrt':runS c ps (L.take (i+1)) (fO c pts)=runS c ps [q] S:=hrt
   have bad:okS ps S q=false→runS c ps L (fO c pts)=none:=fun e=>ak6 (i:=i+1) (by rw[hrt'];show(if okS ps S q=true then _ else none)=none;rw[e];exact if_neg (by decide))
   refine⟨_,rfl,_,_,_,true,rfl,.tup ht,u5,true,rfl,iteF ⟨_,rfl,t,_,rfl,.inr (SqT.of ht),rfl,_,rfl,iteF ?_⟩⟩
   refine⟨_,rfl,t,trip q,rfl,.inr (SqT.of ht),fun e he=>?_⟩
   have s3:Same H2 (upd H2 e (.lst (trip q))):=Same.new he
   refine⟨e,[q.1,q.2.1,q.2.2],64,rfl,au,by show 3≤900;decide,fun H4 s4=>⟨_,rfl,?_⟩⟩
   rw[anJ (hlt q hqm)]
   refine iteF ?_
   have s24:=s3.trans s4
   have s04:=s2.trans s24
   have hS4:=hS2.same s24
   have ht4:=s24 _ _ ht
   refine⟨_,rfl,t,_,rfl,SqT.of ht4,rfl,_,_,rfl,_,_,rfl,_,_,rfl,rfl,?_⟩
   have hl4:=s04 _ _ hl
   have htl4:=htl.same s04
   refine⟨_,rfl,_,rfl,l,_,rfl,.inl (SqL.of hl4),(q.1:Int),_,rfl,rfl,_,rfl,?_⟩
   refine ite2 (fun e=>iteT (no H4 s04 (bad ?_))) (fun e=>?_)
   ·have e':=of_decide_eq_true e
    rw[hlp] at e'
    unfold okS
    rw[decide_eq_false (by omega),Bool.false_and]
   have b1:q.1 < ps.length:=by have e':¬ ((ps.length:Int)≤(q.1:Int)):=fun z=>e (decide_eq_true (by rw[hlp];exact z));omega
   refine⟨_,rfl,_,rfl,g,_,rfl,.inl (SqL.of hS4.l),(q.2.1:Int),_,rfl,rfl,_,rfl,?_⟩
   refine ite2 (fun e=>iteT (no H4 s04 (bad ?_))) (fun e=>?_)
   ·have e':=of_decide_eq_true e
    rw[List.length_map,hS4.len] at e'
    unfold okS
    rw[decide_eq_false (show ¬ q.2.1 < S.length by omega),Bool.false_and,Bool.and_false]
   have b2:q.2.1 < S.length:=by have e':¬ ((S.length:Int)≤(q.2.1:Int)):=fun z=>e (decide_eq_true (by rw[List.length_map,hS4.len];exact z));omega
   refine⟨_,rfl,_,rfl,g,_,rfl,.inl (SqL.of hS4.l),(q.2.2:Int),_,rfl,rfl,_,rfl,?_⟩
   refine ite2 (fun e=>no H4 s04 (bad ?_)) (fun e=>?_)
   ·have e':=of_decide_eq_true e
    rw[List.length_map,hS4.len] at e'
    unfold okS
    rw[decide_eq_false (show ¬ q.2.2 < S.length by omega),Bool.false_and,Bool.and_false,Bool.and_false]
   have b3:q.2.2 < S.length:=by have e':¬ ((S.length:Int)≤(q.2.2:Int)):=fun z=>e (decide_eq_true (by rw[List.length_map,hS4.len];exact z));omega
   have hpt:(tl.map V.ref)[q.1]? = some (.ref (tl[q.1]'(by rw[List.length_map] at hlp;omega))):=by rw[List.getElem?_map,List.getElem?_eq_getElem (by rw[List.length_map] at hlp;omega)];rfl
   obtain⟨tp,p,ep,hp,htp⟩:=htl4.get hpt
   rw[ep] at hpt
   have hgp:ps.getD q.1 (0,0)=p:=by simp [List.getD,hp]
   have hpb:=hps p (List.mem_of_getElem? hp)
   obtain⟨t1,_,_,e1,h1'⟩:=hS4.at (getD_mem b2)
   obtain⟨t2,_,_,e2,h2'⟩:=hS4.at (getD_mem b3)
   have w1:=hsh.2 _ (List.mem_of_getElem? (getD_mem b2))
   have w2:=hsh.2 _ (List.mem_of_getElem? (getD_mem b3))
   refine⟨_,rfl,_,rfl,g,_,(q.2.1:Int),_,rfl,rfl,SqL.of hS4.l,bJ e1,_,rfl,_,rfl,g,_,(q.2.2:Int),_,rfl,rfl,SqL.of hS4.l,bJ e2,_,rfl,_,rfl,l,_,(q.1:Int),_,rfl,rfl,SqL.of hl4,bJ hpt,tp,_,0,_,rfl,rfl,SqT.of htp,rfl,t1,t2,S.getD q.2.1 [],S.getD q.2.2 [],p.1,rfl,h1',h2',by rw[w1,w2],by rw[w1];exact hc6,by omega,_,rfl,?_⟩
   by_cases b4':aK (S.getD q.2.1 []) p.1=aK (S.getD q.2.2 []) p.1
   case neg =>
    rw[decide_eq_false b4']
    refine iteT (no H4 s04 (bad ?_))
    unfold okS
    rw[hgp,decide_eq_false b4',Bool.and_false,Bool.and_false,Bool.and_false]
   rw[decide_eq_true b4']
   refine iteF ?_
   have hok:okS ps S q=true:=by
    unfold okS
    rw[hgp,decide_eq_true b1,decide_eq_true b2,decide_eq_true b3,decide_eq_true b4']
    rfl
   refine⟨_,rfl,_,rfl,_,rfl,_,rfl,_,rfl,l,_,(q.1:Int),_,rfl,rfl,SqL.of hl4,bJ hpt,tp,_,1,_,rfl,rfl,SqT.of htp,rfl,H,g,ts,c,q.2.1,q.2.2,p.2,S,rfl,hS4,hc6,b2,b3,hpb.2,fun H5 b5 hS5=>?_⟩
   refine⟨_,fr s04 b5,hS5,?_,_,_,_,_,rfl⟩
   rw[hrt',aaN hok]
   unfold doS
   rw[hgp]
  ·rintro σ' H2 ⟨S,s2,hS2,hrun,o5,o6,o7,o8,rfl⟩
   rw[hlL,List.take_length] at hrun
   refine⟨_,rfl,(c:Int),rfl,by omega,by omega,fun D hD=>?_⟩
   rw[Int.toNat_natCast]
   refine jm (lo:=0) (n:=c) (fun j ys H'=>Same H2 H'∧ys=nums (List.replicate j 0)) ⟨Same.new hD,rfl⟩ ?_ ?_
   ·rintro j ys H3 hj ⟨s3,rfl⟩ hDl
    refine dF ?_
    refine CE1.mk hDl (aP (by rw[aY,List.length_replicate];omega)) ⟨Same.up s3 hD,?_⟩
    rw[List.replicate_succ',gq];rfl
   ·rintro ys H3 ⟨s3,rfl⟩ hDl
    have hS3:=hS2.same s3
    refine⟨_,rfl,rowD (List.replicate c 0),S.map rowD,fZ hDl,su ⟨ts,hS3.l,hS3.r⟩,eZ _,iz _,iD _,?_⟩
    rw[if_neg (by decide),Cu]
    have z:=k H3 (s2.trans s3)
    rw[aaO hrun] at z
    exact z
end
end K12
namespace K12
open PySem L2 TC
theorem Sg (c:Nat) (y:List Nat):rowB c y=(ltB 100 y && decide (y.length=c)):=by
 unfold rowB
 rw[aj9,Bool.and_comm]
section
variable {P:Program} {w:World} {K:W.Frag} {mg:Str→Option Value} {base:Heap} {A:Adr}
theorem Xh (T:Txt K mg A):FnOk P w K mg base CX0 5 A.nC A.Qf ["_law_pairs_here", "_law_columns", "_law_parts_here", "_law_table", "_law_row_here"] amo:=by
 have lG:=yt (P:=P) (w:=w) (base:=base) T
 have Jc:=R6 (P:=P) (w:=w) (base:=base) T
 have gR:=qX (P:=P) (w:=w) (base:=base) T
 refine T.Ql.ok ahI (fun vs H Q E h=>?_) (fun cdv A' outer s H vs Q E hr h=>?_)
 ·obtain⟨l,pl,a,b,c,ps,pts,S,r,rfl,_⟩:=h;rfl
 ·obtain⟨l,pl,a,b,c,ps,pts,S,r,rfl,⟨tl,hl,htl⟩,⟨hc1,hc6,hlen,hps⟩,hpl,hpn,hpts,⟨ts,ha,hR⟩,hS64,hSr,hb,hr64,k⟩:=h
  have h64:2 ^ c≤64:=Nat.pow_le_pow_right (by decide) hc6
  have hlS:(ts.map V.ref).length=S.length:=by rw[List.length_map];exact hR.len
  have hlp:(tl.map V.ref).length=ps.length:=by rw[List.length_map];exact htl.len
  have no:∀ H',Same H H'→oO c ps pts S r=false→Q (.bl false) H':=fun H' s' e=>by
   have z:=k H' s'
   rw[e] at z
   exact z
  refine⟨_,(aq (bN (PW.pt (kI (bY (bG (aC gR (hr.mono (by decide)) rfl T.lY T.jW.kp T.lX .nil aH (aj (pv 4) (aj aA ao))))) (kI (bA GP (aW (bM K) rfl T.gh dH (aj (pv 4) ao)) (pv 1) (bF _)) (lF (bY (bG (aW (d7 K) rfl T.bU cj (aj (pv 3) (aj (pL (v:=.ty "list") rfl T.dZ dh rfl) ao))))))))) (aB (aM cH)) aU)
   (aq (bN (bY (bG (aW (lK K rfl) rfl T.yo Ae (aj (cP ["_law_pairs_here", "_law_columns", "_law_parts_here", "_law_table", "_law_row_here"] (ak fQ) ["_law_one", "_law_columns"] [none,some 1] ⟨rfl,by decide +kernel,by decide +kernel,by decide +kernel,by decide +kernel,by decide +kernel⟩ rfl (bI K (pv 3)) (fun _ _ _ _ _=>(aO (i:=0) (by show List.Nodup (["_law_one", "_law_columns"]:List Str);decide +kernel) rfl (Or.inl rfl) (Or.inr rfl))) (fun _ _ _ _ _=>cG) (fun _ _ _ _ _=>(pX (aC gR (hr.mono (by decide)) rfl T.lY T.jW.kp T.lX .nil aH (aj (pv 0) (aj aA ao))) (qF (mj mO (aW (bM K) rfl T.gh dH (aj (pv 0) ao)) (pv 1) (bF _)))))) ao)))) (aB (aM cH)) aU)
   (aq (bN (PW.pt (kI (bA (ZD hr.units) (pv 4) (pv 3) (by with_unfolding_all rfl)) (lF (bY (bG (aW (lK K rfl) rfl T.yo Ae (aj (cP ["_law_pairs_here", "_law_columns", "_law_parts_here", "_law_table", "_law_row_here"] (ak fQ) ["_law_rule", "_law_table"] [none,some 3] ⟨rfl,by decide +kernel,by decide +kernel,by decide +kernel,by decide +kernel,by decide +kernel⟩ rfl (bI K (pv 0)) (fun _ _ _ _ _=>(aO (i:=0) (by show List.Nodup (["_law_rule", "_law_table"]:List Str);decide +kernel) rfl (Or.inl rfl) (Or.inr rfl))) (fun _ _ _ _ _=>cG) (fun _ _ _ _ _=>(aC Jc (hr.mono (by decide)) rfl T.W6 T.Ij.kp T.W5 .nil aH (aj (pv 1) (aj (pv 0) ao))))) ao))))))) (aB (aM cH)) aU)
   (aB (aM (aW (lK K rfl) rfl T.yo Ae (aj (cP ["_law_pairs_here", "_law_columns", "_law_parts_here", "_law_table", "_law_row_here"] (ak fQ) ["_law_part", "_law_table", "_law_row_here"] [none,some 3,some 4] ⟨rfl,by decide +kernel,by decide +kernel,by decide +kernel,by decide +kernel,by decide +kernel⟩ rfl (bI K (pv 2)) (fun _ _ _ _ _=>(aO (i:=0) (by show List.Nodup (["_law_part", "_law_table", "_law_row_here"]:List Str);decide +kernel) rfl (Or.inr rfl) (Or.inl rfl))) (fun _ _ _ _ _=>cG) (fun _ _ _ _ _=>(aW (alH K rfl) rfl T.ahX apI (aj (cP ["_law_part", "_law_table", "_law_row_here"] (ahr apG (ak fQ)) ["_law_one", "_law_row_here", "_law_part"] [none,some 2,some 0] ⟨rfl,by decide +kernel,by decide +kernel,by decide +kernel,by decide +kernel,by decide +kernel⟩ rfl (bI K (pv 1)) (fun _ _ _ _ _=>(aO (i:=0) (by show List.Nodup (["_law_one", "_law_row_here", "_law_part"]:List Str);decide +kernel) rfl (Or.inl rfl) (Or.inr rfl))) (fun _ _ _ _ _=>cG) (fun _ _ _ _ _=>(aC lG (hr.mono (by decide)) rfl T.rY T.pY.kp T.rW .nil aH (aj (pv 1) (aj (pv 0) (aj (pv 2) ao)))))) ao)))) ao))))))),?_⟩
  refine⟨_,rfl,b,r,100,rfl,hb,by omega,fun H1 s1=>⟨_,rfl,?_⟩⟩
  cases e100:ltB 100 r with
  | false =>
   refine iteT (iteT (no H1 s1 ?_))
   unfold oO
   rw[Sg,e100,Bool.false_and,Bool.false_and,Bool.and_false]
  | true =>
  refine iteF ⟨_,rfl,b,_,rfl,.inl (SqL.of (s1 _ _ hb)),_,rfl,rfl,_,rfl,?_⟩
  rw[aY]
  by_cases hrl:r.length=c
  case neg =>
   refine ite2 (fun _=>iteT (no H1 s1 ?_)) (fun e=>absurd (show V.int ((r.length:Nat):Int)=V.int ((c:Nat):Int) by simpa using e) fun z=>hrl (by injection z with z;omega))
   unfold oO
   rw[Sg,decide_eq_false hrl,Bool.and_false,Bool.false_and,Bool.and_false]
  rw[hrl]
  refine ite2 (fun e=>absurd e (by simp)) (fun _=>?_)
  have erow:rowB c r=true:=by rw[Sg,e100,decide_eq_true hrl];rfl
  have ha1:=s1 _ _ ha
  refine⟨_,rfl,_,_,_,true,rfl,.lst ha1,tR,true,rfl,iteF ?_⟩
  refine⟨_,rfl,a,rfl,⟨_,SqL.of ha1⟩,fun D hD=>cO (xs:=ts.map V.ref) (fun i ys H'=>Same H1 H'∧ys=bls ((S.take i).map (rowB c))∧i≤S.length) ⟨Same.new hD,rfl,Nat.zero_le _⟩ (fun i ys H' _ ⟨e,_⟩=>SqL.of (e _ _ ha1)) ?_ ?_⟩
  ·rintro i v ys H' hx ⟨se,rfl,hi⟩ hDl
   obtain⟨t,y,rfl,hy,ht⟩:=((hR.same s1).same se).get hx
   have hi':i<S.length:=(List.getElem?_eq_some_iff.mp hy).1
   have hyr:=hSr y (List.mem_of_getElem? hy)
   have sm:(bls ((S.take i).map (rowB c))).length<sizeLine:=aP (by rw[tW,List.length_map,List.length_take];omega)
   refine dF ?_
   refine⟨_,rfl,t,y,100,rfl,ht,by omega,fun H7 s7=>⟨_,rfl,?_⟩⟩
   refine ite2 (fun e1=>?_) (fun e1=>?_)
   ·refine⟨_,rfl,t,_,rfl,.inl (SqL.of (s7 _ _ ht)),_,rfl,rfl,?_⟩
    have e2:decide (V.int ((nums y).length:Int)=V.int (c:Nat))=rowB c y:=by
     rw[Sg,e1,Bool.true_and,aY]
     exact decide_eq_decide.mpr ⟨fun z=>by injection z with z;omega,fun z=>by rw[z]⟩
    rw[e2]
    refine CE1.mk (s7 _ _ hDl) sm ⟨Same.up (se.trans s7) hD,?_,hi'⟩
    rw[map_take _ hy,nO]
   ·have e1':ltB 100 y=false:=by simpa using e1
    have e2:rowB c y=false:=by rw[Sg,e1',Bool.false_and]
    refine CE1.mk (s7 _ _ hDl) sm ⟨Same.up (se.trans s7) hD,?_,hi'⟩
    rw[map_take _ hy,nO,e2]
  rintro ys H2 ⟨s2,rfl,_⟩ hDl
  rw[hlS,List.take_length] at hDl
  have s02:=s1.trans s2
  refine⟨D,_,rfl,SqL.of hDl,_,rfl,?_⟩
  rw[all_map]
  have etab:tabB c S=S.all (rowB c):=by unfold tabB;rw[decide_eq_true hS64,Bool.true_and]
  cases eall:S.all (rowB c) with
  | false =>
   refine iteT (no H2 s02 ?_)
   unfold oO
   rw[etab,eall,Bool.false_and]
  | true =>
  refine iteF ?_
  have gd:=Lg (c:=c) (rs:=S) (by rw[etab,eall])
  refine⟨_,rfl,_,rfl,rowD r,S.map rowD,fZ (s02 _ _ hb),su ⟨ts,s02 _ _ ha,hR.same s02⟩,eZ _,iz _,iD _,_,rfl,?_⟩
  rw[if_neg (by decide),Cu]
  by_cases hin:r∈S
  case pos =>
   rw[decide_eq_true hin]
   refine iteT (iteT (no H2 s02 ?_))
   unfold oO
   rw[decide_eq_true hin]
   simp
  rw[decide_eq_false hin]
  refine iteF ?_
  have hl2:=s02 _ _ hl
  refine⟨_,rfl,l,rfl,⟨_,SqL.of hl2⟩,fun D2 hD2=>cO (xs:=tl.map V.ref) (fun i ys H'=>Same H2 H'∧ys=bls ((ps.take i).map fun p=>decide (Keeps S p))∧i≤ps.length) ⟨Same.new hD2,rfl,Nat.zero_le _⟩ (fun i ys H' _ ⟨e,_⟩=>SqL.of (e _ _ hl2)) ?_ ?_⟩
  ·rintro i v ys H' hx ⟨se,rfl,hi⟩ hDl2
   have s0:=s02.trans se
   obtain⟨t,p,rfl,hp,ht⟩:=(htl.same s0).get hx
   have hi':i<ps.length:=(List.getElem?_eq_some_iff.mp hp).1
   have hpb:=hps p (List.mem_of_getElem? hp)
   refine dF ?_
   refine⟨_,rfl,_,rfl,a,t,c,S,p,rfl,⟨ts,s0 _ _ ha,hR.same s0⟩,hc6,fun y hy=>(gd.2 y hy).1,ht,by omega,by omega,?_⟩
   refine CE1.mk hDl2 (aP (by rw[tW,List.length_map,List.length_take];omega)) ⟨Same.up se hD2,?_,hi'⟩
   rw[map_take _ hp,nO]
  rintro ys H3 ⟨s3,rfl,_⟩ hDl2
  rw[hlp,List.take_length] at hDl2
  have s03:=s02.trans s3
  refine⟨D2,_,rfl,SqL.of hDl2,_,rfl,?_⟩
  rw[all_map]
  cases ao1:(ps.all fun p=>decide (Keeps S p)) with
  | false =>
   refine iteT (no H3 s03 ?_)
   unfold oO
   rw[ao1,Bool.false_and,Bool.and_false,Bool.and_false,Bool.and_false]
  | true =>
  refine iteF ?_
  have efin:oO c ps pts S r=mkB S pts r:=by
   unfold oO
   rw[etab,eall,erow,decide_eq_false hin,ao1]
   rfl
  have hpl3:=s03 _ _ hpl
  refine⟨_,rfl,pl,rfl,⟨_,SqL.of hpl3⟩,fun D3 hD3=>cO (xs:=nums pts) (fun i ys H'=>Same H3 H'∧ys=bls ((pts.take i).map fun p=>decide (aK r p∈S.map fun x=>aK x p))∧i≤pts.length) ⟨Same.new hD3,rfl,Nat.zero_le _⟩ (fun i ys H' _ ⟨e,_⟩=>SqL.of (e _ _ hpl3)) ?_ ?_⟩
  ·rintro i v ys H' hx ⟨se,rfl,hi⟩ hDl3
   obtain⟨p,hp,rfl⟩:=tV hx
   have hpm:=List.mem_of_getElem? hp
   have s0:=s03.trans se
   have ha4:=s0 _ _ ha
   refine dF ?_
   refine⟨_,rfl,a,rfl,⟨_,SqL.of ha4⟩,fun D4 hD4=>cO (xs:=ts.map V.ref) (fun j ys H''=>Same H' H''∧ys=bls ((S.take j).map fun y=>decide (aK r p=aK y p))∧j≤S.length) ⟨Same.new hD4,rfl,Nat.zero_le _⟩ (fun j ys H'' _ ⟨e,_⟩=>SqL.of (e _ _ ha4)) ?_ ?_⟩
   ·rintro j v ys H5 hv ⟨s5,rfl,hj⟩ hDl4
    have s05:=s0.trans s5
    obtain⟨t,y,rfl,hy,ht⟩:=(hR.same s05).get hv
    have hj':j<S.length:=(List.getElem?_eq_some_iff.mp hy).1
    have hyl:=(gd.2 y (List.mem_of_getElem? hy)).1
    refine dF ?_
    refine⟨_,rfl,_,rfl,_,rfl,b,t,r,y,p,rfl,s05 _ _ hb,ht,by rw[hrl,hyl],by omega,hpts p hpm,?_⟩
    refine CE1.mk hDl4 (aP (by rw[tW,List.length_map,List.length_take];omega)) ⟨Same.up s5 hD4,?_,hj'⟩
    rw[map_take _ hy,nO]
   ·rintro ys H5 ⟨s5,rfl,_⟩ hDl4
    rw[hlS,List.take_length] at hDl4
    have hany:((S.map fun y=>decide (aK r p=aK y p)).any id)=decide (aK r p∈S.map fun x=>aK x p):=by
     rw[Bool.eq_iff_iff,List.any_eq_true,decide_eq_true_iff]
     constructor
     ·rintro ⟨x,hx,e⟩
      obtain⟨y,hy,rfl⟩:=List.mem_map.mp hx
      exact List.mem_map.mpr ⟨y,hy,(of_decide_eq_true e).symm⟩
     ·intro h
      obtain⟨y,hy,e⟩:=List.mem_map.mp h
      exact⟨true,List.mem_map.mpr ⟨y,hy,decide_eq_true e.symm⟩,rfl⟩
    refine⟨D4,_,rfl,SqL.of hDl4,?_⟩
    rw[hany]
    refine CE1.mk (s5 _ _ hDl3) (aP (by rw[tW,List.length_map,List.length_take];omega)) ⟨Same.up (se.trans s5) hD3,?_,(List.getElem?_eq_some_iff.mp hp).1⟩
    rw[map_take _ hp,nO]
  ·rintro ys H4 ⟨s4,rfl,_⟩ hDl3
   rw[aY,List.take_length] at hDl3
   refine⟨D3,_,rfl,SqL.of hDl3,?_⟩
   rw[all_map]
   have z:=k H4 (s03.trans s4)
   rw[efin] at z
   exact z
end
end K12
namespace K12
open PySem L2 TC
def adf (C:Addr):Sp:=fun vs H Q _=>∃ (p dx l m:Addr) (S:List (List Nat)) (r:List Nat),vs = [.ref p,.ref l,.ref m]∧H p=some (.ins C dx [])∧iw H l S∧S.length≤64∧H m=some (.lst (nums r)) ∧
 ∀ (a b:Addr) (ts:List Addr) (H':Hp),H a=none→H b=none→a≠b→(∀ t∈ts,H t=none∧t≠a∧t≠b)→ts.Nodup→(∃ dx,H' p=some (.ins C dx (fldL a b)))→H' a=some (.lst (ts.map V.ref))→Rws H' ts S→H' b=some (.lst (nums r))→(∀ b o,H b=some o→b≠p→H' b=some o)→Q .non H'
section
variable {P:Program} {w:World} {K:W.Frag} {mg:Str→Option Value} {base:Heap} {A:Adr}
theorem adg (T:Txt K mg A):FnOk P w K mg base CX0 1 A.je A.yg ["self", "table", "row"] (adf A.bT):=by
 refine T.W0.ok Rq (fun vs H Q E h=>?_) (fun cdv A' outer s H vs Q E hr h=>?_)
 ·obtain⟨p,dx,l,m,S,r,rfl,_⟩:=h;rfl
 ·obtain⟨p,dx,l,m,S,r,rfl,hp,⟨ts,hl,hR⟩,h64,hm,k⟩:=h
  have hln:(ts.map V.ref).length=S.length:=by rw[List.length_map];exact hR.len
  refine⟨_,(aq (jY K (pv 0) (cP ["self", "table", "row"] (ak fV) ["line"] [none] ⟨rfl,by decide +kernel,by decide +kernel,by decide +kernel,by decide +kernel,by decide +kernel⟩ rfl (bI K (pv 1)) (fun _ _ _ _ _=>(aO (i:=0) (by show List.Nodup (["line"]:List Str);decide +kernel) rfl (Or.inl rfl) (Or.inr rfl))) (fun _ _ _ _ _=>cG) (fun _ _ _ _ _=>(cC (cg K) rfl T.dZ dh (aj (pv 0) ao)))))
   (aB (jY K (pv 0) (cC (cg K) rfl T.dZ dh (aj (pv 2) ao))))),?_⟩
  refine⟨_,rfl,l,rfl,⟨_,SqL.of hl⟩,fun D hD=>cO (xs:=ts.map V.ref) (fun i ys H'=>Same H H'∧i≤S.length∧∃ us:List Addr,ys=us.map V.ref∧Rws H' us (S.take i)∧(∀ t∈us,t≠D∧H t=none)∧us.Nodup) ⟨Same.new hD,Nat.zero_le _,[],rfl,trivial,(fun t ht=>by simp at ht),List.nodup_nil⟩ (fun i ys H' _ ⟨e,_⟩=>SqL.of (e _ _ hl)) ?_ ?_⟩
  ·rintro i x ys H' hx ⟨se,hi,us,rfl,hU,hn,hnd⟩ hDl
   obtain⟨t,y,rfl,hy,ht⟩:=(hR.same se).get hx
   have hi':i<S.length:=(List.getElem?_eq_some_iff.mp hy).1
   refine dF ?_
   refine⟨_,rfl,t,nums y,rfl,.inl (SqL.of ht),fun e he=>?_⟩
   have s2:Same H' (upd H' e (.lst (nums y))):=Same.new he
   have neD:e≠D:=fun z=>by rw[z,hDl] at he;cases he
   refine CE1.mk (s2 _ _ hDl) (aP (by rw[List.length_map,hU.len,List.length_take];omega)) ⟨Same.up (se.trans s2) hD,hi',us++[e],by rw[List.map_append];rfl,?_,fun t ht=>?_,?_⟩
   ·rw[List.take_add_one,hy]
    refine Rws.upd (Rws.snoc au (hU.same s2)) fun z=>?_
    rcases List.mem_append.mp z with z | z
    ·exact(hn _ z).1 rfl
    ·exact neD (List.mem_singleton.mp z).symm
   ·rcases List.mem_append.mp ht with z | z
    ·exact hn t z
    ·rw[List.mem_singleton.mp z];exact⟨neD,se.free he⟩
   ·rw[List.nodup_append]
    refine⟨hnd,by simp,fun a ha b hb z=>?_⟩
    rw[List.mem_singleton.mp hb] at z
    obtain⟨q',hq'⟩:=List.mem_iff_getElem?.mp ha
    obtain⟨t',r',e1,e2,e3⟩:=hU.get (i:=q') (v:=.ref a) (by rw[List.getElem?_map,hq'];rfl)
    injection e1 with e1
    rw[← e1,z,he] at e3
    cases e3
  ·rintro ys H1 ⟨s1,_,us,rfl,hU,hn,hnd⟩ hDl
   rw[hln,List.take_length] at hU
   have hp1:=s1 _ _ hp
   have npD:D≠p:=fun z=>by rw[z,hp] at hD;cases hD
   refine⟨_,rfl,p,A.bT,dx,[],rfl,hp1,T.dN,T.cu,by show 0 < 1000;decide,?_⟩
   have nmp:m≠p:=iG hm hp (by intro z;cases z)
   have hm2:(upd H1 p (.ins A.bT dx (putF "table" (.ref D) []))) m=some (.lst (nums r)):=by rw[aG nmp];exact s1 _ _ hm
   have hD2:(upd H1 p (.ins A.bT dx (putF "table" (.ref D) []))) D=some (.lst (us.map V.ref)):=by rw[aG npD];exact hDl
   have hU2:Rws (upd H1 p (.ins A.bT dx (putF "table" (.ref D) []))) us S:=Rws.upd hU fun z=>by
    obtain⟨j,hj⟩:=List.mem_iff_getElem?.mp z
    obtain⟨t',r',e1,e2,e3⟩:=hU.get (i:=j) (v:=.ref p) (by rw[List.getElem?_map,hj];rfl)
    injection e1 with e1
    rw[← e1,hp1] at e3
    cases e3
   refine⟨_,rfl,m,nums r,rfl,.inl (SqL.of hm2),fun b hb=>⟨_,rfl,p,A.bT,dx,_,rfl,Same.new hb _ _ au,T.dN,T.eY,by show 1 < 1000;decide,?_⟩⟩
   have nbp:b≠p:=fun z=>by rw[z,au] at hb;cases hb
   have nDb:D≠b:=aL hD2 hb
   have hbH1:H1 b=none:=by rw[aG nbp] at hb;exact hb
   have sb:Same (upd H1 p (.ins A.bT dx (putF "table" (.ref D) []))) (upd (upd H1 p (.ins A.bT dx (putF "table" (.ref D) []))) b (.lst (nums r))):=Same.new hb
   have hU3:=hU2.same sb
   have npu:p∉us:=fun z=>by have:=(hn p z).2;rw[hp] at this;cases this
   have nbu:b∉us:=fun z=>by
    obtain⟨j,hj⟩:=List.mem_iff_getElem?.mp z
    obtain⟨t',r',e1,e2,e3⟩:=hU.get (i:=j) (v:=.ref b) (by rw[List.getElem?_map,hj];rfl)
    injection e1 with e1
    rw[← e1,hbH1] at e3
    cases e3
   refine k D b us _ hD (s1.free hbH1) nDb (fun t ht=>⟨(hn t ht).2,(hn t ht).1,fun z=>nbu (by rw[← z];exact ht)⟩) hnd ⟨dx,au⟩ (by rw[aG npD];exact sb _ _ hD2) (Rws.upd hU3 npu) (by rw[aG nbp,au]) fun q o hq hqp=>?_
   rw[aG hqp,aG (aL hq (s1.free hbH1)),aG hqp]
   exact s1 _ _ hq
end
end K12
namespace K12
open PySem L2 TC
def wZ (H:Hp) (zs:List Addr):Prop:=∀ q∈zs,∃ xs,H q=some (.lst xs)
theorem wZ.out {H:Hp} {zs:List Addr} (hz:wZ H zs) {q:Addr} {o:HO} (h:H q=some o) (n:∀ xs,o ≠ .lst xs):q∉zs:=fun z=>by
 obtain⟨xs,e⟩:=hz q z
 rw[h] at e
 cases e
 exact n xs rfl
theorem Tps.butL {zs:List Addr} {H H':Hp} (hz:wZ H zs) (e:But zs H H'):∀ {ts:List Addr} {ps:List (Nat×Nat)},Tps H ts ps→Tps H' ts ps
 | [],[],_=>trivial
 | _::_,_::_,⟨h,t⟩=>⟨e _ _ h (hz.out h (by intro xs z;cases z)),Tps.butL hz e t⟩
 | [],_::_,h=>h.elim
 | _::_,[],h=>h.elim
theorem Trs.butL {zs:List Addr} {H H':Hp} (hz:wZ H zs) (e:But zs H H'):∀ {ts:List Addr} {L:List (Nat×Nat×Nat)},Trs H ts L→Trs H' ts L
 | [],[],_=>trivial
 | _::_,_::_,⟨h,t⟩=>⟨e _ _ h (hz.out h (by intro xs z;cases z)),Trs.butL hz e t⟩
 | [],_::_,h=>h.elim
 | _::_,[],h=>h.elim
theorem dg.butL {zs:List Addr} {H H':Hp} {l:Addr} {ps:List (Nat×Nat)} (hz:wZ H zs) (e:But zs H H') (n:l∉zs):dg H l ps→dg H' l ps:=fun ⟨ts,h,t⟩=>⟨ts,e _ _ h n,t.butL hz e⟩
theorem bV.butL {C p m:Addr} {zs:List Addr} {H H':Hp} {c:Nat} {ps:List (Nat×Nat)} (hz:wZ H zs) (e:But zs H H') (n:m∉zs):bV C H p m c ps→bV C H' p m c ps:=fun ⟨⟨dx,h⟩,t⟩=>⟨⟨dx,e _ _ h (hz.out h (by intro xs z;cases z))⟩,t.butL hz e n⟩
theorem Trs.rev {H:Hp}:∀ {ts:List Addr} {L:List (Nat×Nat×Nat)},Trs H ts L→Trs H ts.reverse L.reverse
 | [],[],_=>trivial
 | t::ts,q::L,⟨h,r⟩=>by
  rw[List.reverse_cons,List.reverse_cons]
  exact Trs.snoc h (Trs.rev r)
 | [],_::_,h=>h.elim
 | _::_,[],h=>h.elim
theorem Cw (S:List (List Nat)):(PyData.list (S.map rowD)).depth≤60:=by
 show PyData.depthAll _+1≤60
 have:=DX S
 omega
theorem Rws.Wd {H:Hp} {ts:List Addr} {S:List (List Nat)} (h:Rws H ts S):wZ H ts:=fun q hq=>h.there hq
def anK (CR CB CL:Addr):Sp:=fun vs H Q _=>∃ (p m l y d x a b:Addr) (us ts:List Addr) (cell:Int) (c:Nat) (ps:List (Nat×Nat)) (pts:List Nat) (L:List (Nat×Nat×Nat)) (S:List (List Nat)) (r:List Nat),vs = [.ref p,.ref l,.ref y,.ref x,.int cell,.int (c:Nat)]∧bV CR H p m c ps∧Good c ps∧H l=some (.lst (nums pts))∧pts.length≤64∧(∀ q∈pts,q < 64) ∧
 (∃ dy,H y=some (.ins CB dy (fldB d)))∧H d=some (.lst (us.map V.ref))∧Trs H us L∧L.length≤2000000∧(∀ q∈L,q.1 < 64∧q.2.1 < 64∧q.2.2 < 64) ∧
 (∃ dx,H x=some (.ins CL dx (fldL a b)))∧H a=some (.lst (ts.map V.ref))∧Rws H ts S∧S.length≤64∧(∀ y∈S,y.length≤64)∧H b=some (.lst (nums r))∧r.length≤64∧ts.Nodup∧b∉ts∧d∉ts∧b≠d∧a∉b::d::ts∧m∉b::d::ts∧l∉b::d::ts ∧
 ∀ H',But (b::d::ts) H H'→Q (.bl true) H'
section
variable {P:Program} {w:World} {K:W.Frag} {mg:Str→Option Value} {base:Heap} {A:Adr}
theorem Sh (T:Txt K mg A):FnOk P w K mg base CX0 11 A.eU A.rP ["_law_rules", "_law_parts_here", "_law_answer", "_law_other", "_law_cell", "_law_columns"] (anK A.bB A.fu A.bT):=by
 have aV:=cB (P:=P) (w:=w) (base:=base) T
 have jB:=wY (P:=P) (w:=w) (base:=base) T
 have sH:=Qt (P:=P) (w:=w) (base:=base) T
 have Qu:=Xh (P:=P) (w:=w) (base:=base) T
 have Qv:=Xg (P:=P) (w:=w) (base:=base) T
 have dB:=nQ (P:=P) (w:=w) (base:=base) T
 have Ea:=M8 (P:=P) (w:=w) (base:=base) T
 have Eb:=M9 (P:=P) (w:=w) (base:=base) T
 refine T.Ck.ok mq (fun vs H Q E h=>?_) (fun cdv A' outer s H vs Q E hr h=>?_)
 ·obtain⟨p,m,l,y,d,x,a,b,us,ts,cell,c,ps,pts,L,S,r,rfl,_⟩:=h;rfl
 ·obtain⟨p,m,l,y,d,x,a,b,us,ts,cell,c,ps,pts,L,S,r,rfl,hR,hG,hl,hpl,hpts,⟨dy,hy⟩,hd,hT,hLn,hLt,⟨dx,hx⟩,ha,hRw,hS64,hSr,hb,hr64,hnd,nbt,ndt,nbd,naz,nmz,nlz,k⟩:=h
  obtain⟨⟨dp,hp⟩,_⟩:=id hR
  refine⟨_,(aq (aQ (i:=6) mq.nd rfl (Or.inl rfl) (eG (pv 0) T.bL T.bH aV (hr.mono (by decide)) T.bO .nil aH))
   (aq (cQ (aC sH (hr.mono (by decide)) rfl T.Ci T.wJ.kp T.Cg .nil aH (aj (aR K (pv 3)) (aj (aC jB (hr.mono (by decide)) rfl T.qD T.nY.kp T.qC .nil aH (aj (bw eF (bw sY (pv 4) aA) aA) (aj (pv 5) ao))) ao))))
   (aq (dR PassesOwn.never rfl (cN rfl T.dO (aj aA ao)) (aO (i:=7) mq.nd rfl (Or.inl rfl))
   (aq (aQ (i:=8) mq.nd rfl (Or.inl rfl) (aC Qu (hr.mono (by decide)) rfl T.aav T.Ql.kp T.aau .nil aH (aj (pv 6) (aj (pv 5) (aj (pv 1) (aj (aR K (pv 3)) (aj (aR K (pv 3)) ao)))))))
   (aq (bN (bY (bG (aC dB (hr.mono (by decide)) rfl T.jw T.iC.kp T.ju .nil aH (aj (nU (pv 3) T.dN T.MN Eb (hr.mono (by decide)) T.RG .nil aH (aj (pv 0) (aj (pv 1) ao))) (aj (pv 8) ao))))) (aB (aM cH)) aU)
   (aB (bN (PW.pt (z8 (bA (oR hr.units) (aR K (pv 3)) (cD ao) (bF _)) (sX (bA (oR hr.units) (bh (aN K) (aR K (pv 3)) aA (fun _ _=>rfl)) (cD ao) (bF _))))) (aB (Ph (bw mL (bw eF (bh (aN K) (bh (aN K) (aR K (pv 3)) aA (fun _ _=>rfl)) aA (fun _ _=>rfl)) aA) aA) (aeS (bh (aN K) (aR K (pv 3)) aA (fun _ _=>rfl)) aA set_list))) aU)))))
   (aq (cQ (aC sH (hr.mono (by decide)) rfl T.Ci T.wJ.kp T.Cg .nil aH (aj (aR K (pv 2)) (aj (aok K (aR K (pv 2)) (an9 (akF ajj aA))) ao))))
   (aB (aM (aC dB (hr.mono (by decide)) rfl T.jw T.iC.kp T.ju .nil aH (aj (nU (pv 2) T.qN T.MK Ea (hr.mono (by decide)) T.RD .nil aH (aj (pv 0) (aj (pv 1) ao))) (aj (aC Qv (hr.mono (by decide)) rfl T.aat T.Qk.kp T.aas .nil aH (aj (pv 6) (aj (pv 5) (aj (pv 1) (aj (aR K (pv 2)) ao))))) ao))))))))),?_⟩
  have hzs:wZ H (b::d::ts):=fun q hq=>by
   rcases List.mem_cons.mp hq with rfl | hq
   ·exact⟨_,hb⟩
   ·rcases List.mem_cons.mp hq with rfl | hq
    ·exact⟨_,hd⟩
    ·exact hRw.Wd q hq
  refine⟨_,rfl,p,dp,_,rfl,hp,iB _ _ (by decide +kernel) (by decide +kernel),p,m,c,ps,rfl,hR,fun f tf hf htf=>?_⟩
  have s1:Same H (upd H f (.lst (tf.map V.ref))):=Same.new hf
  have hP1:dg (upd H f (.lst (tf.map V.ref))) f ps:=⟨tf,au,htf.same s1⟩
  have nfz:f∉b::d::ts:=fun z=>by obtain⟨xs,e⟩:=hzs f z;rw[hf] at e;cases e
  generalize upd H f (.lst (tf.map V.ref))=H1 at s1 hP1 ⊢
  refine⟨_,rfl,x,A.bT,dx,_,_,rfl,s1 _ _ hx,T.dN,T.eY,wX _ _,_,rfl,cell,5,rfl,rfl,⟨by decide,by decide⟩,_,1,rfl,rfl,_,rfl,_,c,rfl,hG.1,hG.2.1,fun e0 r0 H2 he0 s2 h0 hl0 hv0=>?_⟩
  have s12:=s1.trans s2
  have nbe:b≠e0:=aL (s1 _ _ hb) he0
  refine⟨b,e0,_,_,rfl,s12 _ _ hb,h0,nbe,by rw[aY];omega,?_⟩
  have hz2:wZ H2 (b::d::ts):=fun q hq=>let ⟨xs,e⟩:=hzs q hq;⟨xs,s12 _ _ e⟩
  have b3:But (b::d::ts) H2 (upd H2 b (.lst (nums r0))):=(But.refl _ _).upd List.mem_cons_self
  refine⟨2,rfl,by decide,by decide,j6 (lo:=0) (n:=2) (fun i σ' H'=>∃ (S:List (List Nat)) (r:List Nat) (o7 o8:Option V),But (b::d::ts) H2 H'∧H' d=some (.lst (us.map V.ref))∧Rws H' ts S∧S.length≤64∧(∀ y∈S,y.length≤64)∧H' b=some (.lst (nums r))∧r.length≤64 ∧ σ' = [some (.ref p),some (.ref l),some (.ref y),some (.ref x),some (.int cell),some (.int (c:Nat)),some (.ref f),o7,o8])
   ⟨S,r0,none,none,b3,by rw[aG nbd.symm];exact s12 _ _ hd,Rws.upd (hRw.same s12) nbt,hS64,hSr,au,by omega,rfl⟩ ?_ ?_⟩
  ·rintro i σ' H4 hi ⟨S,r,o7,o8,b4,hd4,hRw4,hS64,hSr,hb4,hr64,rfl⟩
   have hx4:=b4 _ _ (s12 _ _ hx) (hz2.out (s12 _ _ hx) (by intro xs z;cases z))
   have ha4:=b4 _ _ (s12 _ _ ha) naz
   have hl4:=b4 _ _ (s12 _ _ hl) nlz
   have hP4:=(hP1.same s2).butL hz2 b4 nfz
   have hR4:=(hR.same s12).butL hz2 b4 nmz
   refine⟨_,rfl,_,rfl,_,rfl,_,rfl,x,A.bT,dx,_,_,rfl,hx4,T.dN,T.cu,jy _ _,_,rfl,x,A.bT,dx,_,_,rfl,hx4,T.dN,T.eY,wX _ _,f,l,a,b,c,ps,pts,S,r,rfl,hP4,hG,hl4,hpl,hpts,⟨ts,ha4,hRw4⟩,hS64,hSr,hb4,hr64,fun H5 s5=>?_⟩
   refine⟨_,rfl,x,dx,_,rfl,s5 _ _ hx4,ak9 _ _ (by decide +kernel) (by decide +kernel),_,rfl,_,rfl,x,a,b,p,m,l,c,ps,pts,S,r,rfl,⟨⟨dx,s5 _ _ hx4⟩,⟨ts,s5 _ _ ha4,hRw4.same s5⟩,s5 _ _ hb4⟩,hR4.same s5,hG,s5 _ _ hl4,hpts,fun H6 s6=>⟨_,rfl,oO c ps pts S r,rfl,_,rfl,iteF ?_⟩⟩
   have s46:=s5.trans s6
   have b6:=b4.trans (But.same s46)
   have hx6:=s46 _ _ hx4
   have ha6:=s46 _ _ ha4
   have hRw6:=hRw4.same s46
   have hd6:=s46 _ _ hd4
   have hb6:=s46 _ _ hb4
   refine⟨_,rfl,x,A.bT,dx,_,_,rfl,hx6,T.dN,T.cu,jy _ _,Nat.zero_le _,fun z hz=>?_⟩
   have s7:Same H6 (upd H6 z (.lst [])):=Same.new hz
   refine⟨.list (S.map rowD),.list (([]:List (List Nat)).map rowD),su ⟨ts,s7 _ _ ha6,hRw6.same s7⟩,.lst au .nil,iz _,rfl,Cw S,_,rfl,?_⟩
   rw[if_pos rfl,p7]
   have b7:=b6.trans (But.same s7)
   have stay:∀ {H':Hp},Same H6 H'→∃ (S:List (List Nat)) (r:List Nat) (o7 o8:Option V),But (b::d::ts) H2 H'∧H' d=some (.lst (us.map V.ref))∧Rws H' ts S∧S.length≤64∧(∀ y∈S,y.length≤64)∧H' b=some (.lst (nums r))∧r.length≤64∧([some (.ref p),some (.ref l),some (.ref y),some (.ref x),some (.int cell),some (.int (c:Nat)),some (.ref f),some (.int (0+(i:Nat))),some (.bl (oO c ps pts S r))]:St) = [some (.ref p),some (.ref l),some (.ref y),some (.ref x),some (.int cell),some (.int (c:Nat)),some (.ref f),o7,o8]:=fun {H'} e=>⟨S,r,_,_,b6.trans (But.same e),e _ _ hd6,hRw6.same e,hS64,hSr,e _ _ hb6,hr64,rfl⟩
   by_cases hS0:S = []
   ·rw[decide_eq_true hS0]
    exact iteF (iteF ⟨S,r,_,_,b7,s7 _ _ hd6,hRw6.same s7,hS64,hSr,s7 _ _ hb6,hr64,rfl⟩)
   rw[decide_eq_false hS0]
   refine iteT ?_
   obtain⟨y0,S',rfl⟩ : ∃ y0 S',S=y0::S':=by cases S with | nil=>exact absurd rfl hS0 | cons y S=>exact⟨y,S,rfl⟩
   obtain⟨t0,ts',rfl⟩ : ∃ t0 ts',ts=t0::ts':=by cases ts with | nil=>exact hRw6.elim | cons t ts=>exact⟨t,ts,rfl⟩
   have ht0:H6 t0=some (.lst (nums y0)):=hRw6.1
   have e00:atI ((t0::ts').map V.ref) ((0:Nat):Int)=some (.ref t0):=bJ rfl
   refine⟨_,rfl,x,A.bT,dx,_,_,rfl,s7 _ _ hx6,T.dN,T.cu,jy _ _,a,_,0,_,rfl,rfl,SqL.of (s7 _ _ ha6),e00,Nat.zero_le _,fun z2 hz2=>?_⟩
   have s8:Same (upd H6 z (.lst [])) (upd (upd H6 z (.lst [])) z2 (.lst [])):=Same.new hz2
   have s68:=s7.trans s8
   refine⟨rowD y0,rowD [],fZ (s68 _ _ ht0),fZ au,eZ _,eZ _,iD _,_,rfl,?_⟩
   rw[if_pos rfl,pG]
   have b8:=b6.trans (But.same s68)
   by_cases hy0:y0 = []
   ·rw[decide_eq_true hy0]
    exact iteF ⟨y0::S',r,_,_,b8,s68 _ _ hd6,hRw6.same s68,hS64,hSr,s68 _ _ hb6,hr64,rfl⟩
   rw[decide_eq_false hy0]
   refine iteT ?_
   obtain⟨n,y0',rfl⟩ : ∃ n y0',y0=n::y0':=by cases y0 with | nil=>exact absurd rfl hy0 | cons n y=>exact⟨n,y,rfl⟩
   have hx8:=s68 _ _ hx6
   have ha8:=s68 _ _ ha6
   have ht8:=s68 _ _ ht0
   have e01:atI (nums (n::y0')) ((0:Nat):Int)=some (.int (n:Nat)):=bJ rfl
   refine⟨_,rfl,x,A.bT,dx,_,_,rfl,hx8,T.dN,T.cu,jy _ _,a,_,0,_,rfl,rfl,SqL.of ha8,e00,t0,_,0,_,rfl,rfl,SqL.of ht8,e01,(n:Int),1,rfl,rfl,_,100,rfl,rfl,(by show(0:Int) < 100;decide),?_⟩
   refine⟨_,rfl,x,A.bT,dx,_,_,rfl,hx8,T.dN,T.cu,jy _ _,a,_,0,_,rfl,rfl,SqL.of ha8,e00,t0,_,(0:Int),0,rfl,rfl,ht8,(Zb (n:=(nums (n::y0')).length) (j:=0) (by rw[aY];exact Nat.succ_pos _)),?_⟩
   have em:(((n:Nat):Int)+1) % 100=(((n+1) % 100:Nat):Int):=by omega
   have es:(nums (n::y0')).set 0 (.int ((((n:Nat):Int)+1) % 100))=nums (((n+1) % 100)::y0'):=by rw[em,aaQ];rfl
   have ntd:d≠t0:=fun z=>ndt (by rw[z];exact List.mem_cons_self)
   have ntb:b≠t0:=fun z=>nbt (by rw[z];exact List.mem_cons_self)
   refine⟨(((n+1) % 100)::y0')::S',r,_,_,b8.upd (List.mem_cons_of_mem _ (List.mem_cons_of_mem _ List.mem_cons_self)),by rw[aG ntd];exact s68 _ _ hd6,?_,hS64,fun y hy=>?_,by rw[aG ntb];exact s68 _ _ hb6,hr64,rfl⟩
   ·have z9:=Rws.set (r:=((n+1) % 100)::y0') (m:=0) (hRw6.same s68) hnd (show(t0::ts')[0]? = some t0 from rfl)
    rw[← es] at z9
    exact z9
   ·rcases List.mem_cons.mp hy with rfl | hy
    ·exact hSr (n::y0') List.mem_cons_self
    ·exact hSr y (List.mem_cons_of_mem _ hy)
  ·rintro σ' H4 ⟨S,r,o7,o8,b4,hd4,hRw4,hS64,hSr,hb4,hr64,rfl⟩
   have hy4:=b4 _ _ (s12 _ _ hy) (hz2.out (s12 _ _ hy) (by intro xs z;cases z))
   have hT4:=(hT.same s12).butL hz2 b4
   refine⟨_,rfl,y,A.fu,dy,_,_,rfl,hy4,T.qN,T.dY,sE _,_,rfl,y,A.fu,dy,_,_,rfl,hy4,T.qN,T.dY,sE _,(1:Int),rfl,(-1:Int),rfl,rfl,d,_,rfl,SqL.of hd4,fun g hg=>?_⟩
   have s5:Same H4 (upd H4 g (.lst (us.map V.ref).reverse)):=Same.new hg
   have ndg:d≠g:=aL hd4 hg
   refine⟨d,g,_,_,rfl,s5 _ _ hd4,au,ndg,by rw[List.length_reverse,List.length_map,hT4.len];omega,?_⟩
   have b6:But (b::d::ts) H2 (upd (upd H4 g (.lst (us.map V.ref).reverse)) d (.lst (us.map V.ref).reverse)):=(b4.trans (But.same s5)).upd (List.mem_cons_of_mem _ List.mem_cons_self)
   have hd6:(upd (upd H4 g (.lst (us.map V.ref).reverse)) d (.lst (us.map V.ref).reverse)) d=some (.lst (us.reverse.map V.ref)):=by rw[au,List.map_reverse]
   generalize upd (upd H4 g (.lst (us.map V.ref).reverse)) d (.lst (us.map V.ref).reverse)=H6 at b6 hd6 ⊢
   have hy6:=b6 _ _ (s12 _ _ hy) (hz2.out (s12 _ _ hy) (by intro xs z;cases z))
   have hT6:=((hT.same s12).butL hz2 b6).rev
   have hl6:=b6 _ _ (s12 _ _ hl) nlz
   have hP6:=(hP1.same s2).butL hz2 b6 nfz
   have hR6:=(hR.same s12).butL hz2 b6 nmz
   refine⟨_,rfl,y,dy,_,rfl,hy6,ak8 _ (by decide +kernel),_,rfl,_,rfl,y,d,p,m,l,c,ps,pts,L.reverse,rfl,⟨⟨dy,hy6⟩,⟨us.reverse,hd6,hT6⟩⟩,hR6,hG,hl6,hpl,hpts,fun H7 s7=>?_⟩
   refine⟨_,rfl,_,rfl,_,rfl,_,rfl,y,A.fu,dy,_,_,rfl,s7 _ _ hy6,T.qN,T.dY,sE _,f,l,d,c,ps,pts,L.reverse,rfl,hP6.same s7,hG,s7 _ _ hl6,hpl,hpts,⟨us.reverse,s7 _ _ hd6,hT6.same s7⟩,fun q hq=>hLt q (List.mem_reverse.mp hq),fun H8 s8=>⟨R4 c ps pts L.reverse,rfl,?_⟩⟩
   exact k H8 ((But.same s12).trans (b6.trans (But.same (s7.trans s8))))
end
end K12
namespace K12
open PySem L2 TC
def rM (q:Nat×Nat×Nat):PyData:=.tuple [.int (q.1:Nat),.int (q.2.1:Nat),.int (q.2.2:Nat)]
theorem akb {H:Hp}:∀ {ts:List Addr} {L:List (Nat×Nat×Nat)},Trs H ts L→Dts H (ts.map V.ref) (L.map rM)
 | [],[],_=>.nil
 | _::_,_::_,⟨h,t⟩=>.cons (.tup h (.cons (.int _) (.cons (.int _) (.cons (.int _) .nil)))) (akb t)
 | [],_::_,h=>h.elim
 | _::_,[],h=>h.elim
theorem Wf:∀ L:List (Nat×Nat×Nat),PyData.canLayAll0 (L.map rM)=true
 | []=>rfl
 | _::L=>by
  show(PyData.canLay0 (rM _) && PyData.canLayAll0 (L.map rM))=true
  rw[Wf L];rfl
theorem Xi:∀ L:List (Nat×Nat×Nat),PyData.depthAll (L.map rM)≤1
 | []=>Nat.zero_le _
 | _::L=>Nat.max_le.mpr ⟨by show 1≤1;decide,Xi L⟩
theorem aep:∀ L:List (Nat×Nat×Nat),PyData.eqvAll (L.map rM) (L.map rM)=true
 | []=>rfl
 | q::L=>by
  show(PyData.eqv (rM q) (rM q) && PyData.eqvAll (L.map rM) (L.map rM))=true
  rw[aep L]
  have:PyData.eqv (rM q) (rM q)=true:=by
   show(((q.1:Int) == (q.1:Int)) && (((q.2.1:Int) == (q.2.1:Int)) && (((q.2.2:Int) == (q.2.2:Int)) && true)))=true
   simp
  rw[this];rfl
theorem Rws.butL {zs:List Addr} {H H':Hp} (e:But zs H H'):∀ {ts:List Addr} {S:List (List Nat)},(∀ t∈ts,t∉zs)→Rws H ts S→Rws H' ts S
 | [],[],_,_=>trivial
 | _::_,_::_,n,⟨h,t⟩=>⟨e _ _ h (n _ List.mem_cons_self),Rws.butL e (fun t ht=>n t (List.mem_cons_of_mem _ ht)) t⟩
 | [],_::_,_,h=>h.elim
 | _::_,[],_,h=>h.elim
def amq (CR:Addr):Sp:=fun vs H Q _=>∃ (p m:Addr) (cell:Int) (c:Nat) (ps:List (Nat×Nat)),vs = [.ref p,.int cell,.int (c:Nat)]∧bV CR H p m c ps∧Good c ps∧ps.length≤8∧∀ H',Same H H'→Q (.bl true) H'
section
variable {P:Program} {w:World} {K:W.Frag} {mg:Str→Option Value} {base:Heap} {A:Adr}
theorem Qw (T:Txt K mg A):FnOk P w K mg base CX0 13 A.dJ A.qL ["_law_rules", "_law_cell", "_law_columns"] (amq A.bB):=by
 have aV:=cB (P:=P) (w:=w) (base:=base) T
 have aik:=afT (P:=P) (w:=w) (base:=base) T
 have cL:=lE (P:=P) (w:=w) (base:=base) T
 have jB:=wY (P:=P) (w:=w) (base:=base) T
 have afU:=ada (P:=P) (w:=w) (base:=base) T
 have IW:=R5 (P:=P) (w:=w) (base:=base) T
 have Ja:=adg (P:=P) (w:=w) (base:=base) T
 have Ea:=M8 (P:=P) (w:=w) (base:=base) T
 have Eb:=M9 (P:=P) (w:=w) (base:=base) T
 have dB:=nQ (P:=P) (w:=w) (base:=base) T
 have Qv:=Xg (P:=P) (w:=w) (base:=base) T
 have Qu:=Xh (P:=P) (w:=w) (base:=base) T
 have Wg:=Sh (P:=P) (w:=w) (base:=base) T
 refine T.yh.ok bD (fun vs H Q E h=>?_) (fun cdv A' outer s H vs Q E hr h=>?_)
 ·obtain⟨p,m,cell,c,ps,rfl,_⟩:=h;rfl
 ·obtain⟨p,m,cell,c,ps,rfl,hR,hG,hp8,k⟩:=h
  obtain⟨⟨dp,hp⟩,hPm⟩:=id hR
  have h64:2 ^ c≤64:=Nat.pow_le_pow_right (by decide) hG.2.1
  refine⟨_,(aq (aQ (i:=3) bD.nd rfl (Or.inl rfl) (eG (pv 0) T.bL T.bH aV (hr.mono (by decide)) T.bO .nil aH))
   (aq (aQ (i:=4) bD.nd rfl (Or.inl rfl) (aC aik (hr.mono (by decide)) rfl T.ahU T.W9.kp T.ahT .nil aH (aj (pv 1) (aj (pv 2) ao))))
   (aq (aQ (i:=5) bD.nd rfl (Or.inl rfl) (cD ao))
   (aq (dR PassesOwn.never rfl (cN rfl T.dO (aj (bw mL (pv 1) aA) ao)) (aO (i:=6) bD.nd rfl (Or.inl rfl))
   (aB (cQ (cF K (pv 5) (aj (Ab (aj (aC cL (hr.mono (by decide)) rfl T.gm T.fU.kp T.gj .nil aH (aj (bw eF (pv 1) (pv 6)) (aj aA (aj (bw eF (aW (bM K) rfl T.gh dH (aj (pv 3) ao)) aA) ao)))) (aj (aC cL (hr.mono (by decide)) rfl T.gm T.fU.kp T.gj .nil aH (aj (bw eF (pv 1) (pv 6)) (aj aA (aj aA ao)))) (aj (aC cL (hr.mono (by decide)) rfl T.gm T.fU.kp T.gj .nil aH (aj (bw eF (pv 1) (pv 6)) (aj aA (aj aA ao)))) ao)))) ao)))))
   (aq (Ri (i:=7) ["_law_rules", "_law_cell", "_law_columns", "_law_pairs_here", "_law_parts_here", "_law_steps_here", "_law_k", "_law_table", "_law_row_here", "_law_found", "_law_handed", "_law_answer", "_law_other", "_law_one", "_law_said"] (ak bW) ["_law_k", "_law_cell", "_law_columns"] [none,some 1,some 2] ⟨rfl,by decide +kernel,by decide +kernel,by decide +kernel,by decide +kernel,by decide +kernel⟩ rfl bD.nd rfl rfl (cN rfl T.dO (aj (bw mL (bw sY (pv 1) aA) aA) ao)) (fun _ _ _ _ _=>(aO (i:=0) (by show List.Nodup (["_law_k", "_law_cell", "_law_columns"]:List Str);decide +kernel) rfl (Or.inl rfl) (Or.inr rfl))) (fun _ _ _ _ _=>cG) (fun _ _ _ _ _=>(aC jB (hr.mono (by decide)) rfl T.qD T.nY.kp T.qC .nil aH (aj (bw eF (pv 1) (bw uY aA (pv 0))) (aj (pv 2) ao)))))
   (aq (aQ (i:=8) bD.nd rfl (Or.inl rfl) (aC jB (hr.mono (by decide)) rfl T.qD T.nY.kp T.qC .nil aH (aj (bw sY (pv 1) aA) (aj (pv 2) ao))))
   (aq (aQ (i:=9) bD.nd rfl (Or.inl rfl) (aC afU (hr.mono (by decide)) rfl T.afz T.RK.kp T.afy .nil aH (aj (pv 0) (aj (pv 4) ao))))
   (aq (bN (PW.pt (z8 (bG (aW (oX K) rfl T.bU cj (aj (pv 9) (aj (sW (v:=.ref A.fu) rfl T.ajN rfl) ao)))) (sX (bA mO (bw mL (pv 1) aA) aA (bF _))))) (aB (aQ (i:=5) bD.nd rfl (Or.inl rfl) (Hg (Ho K) (aR K (pv 9)) sZ sZ))) aU)
   (aq (bN (PW.pt (z8 (bG (aW (oX K) rfl T.bU cj (aj (pv 9) (aj (sW (v:=.ref A.bT) rfl T.ajO rfl) ao)))) (sX (bA mO (bw mL (pv 1) aA) aA (bF _))))) (aB (Vt (i:=7) (j:=8) rfl bD.nd rfl rfl (by decide) rfl rfl (aj (cP ["_law_rules", "_law_cell", "_law_columns", "_law_pairs_here", "_law_parts_here", "_law_steps_here", "_law_k", "_law_table", "_law_row_here", "_law_found", "_law_handed", "_law_answer", "_law_other", "_law_one", "_law_said"] (ak bW) ["_law_one"] [none] ⟨rfl,by decide +kernel,by decide +kernel,by decide +kernel,by decide +kernel,by decide +kernel⟩ rfl (bI K (aR K (pv 9))) (fun _ _ _ _ _=>(aO (i:=0) (by show List.Nodup (["_law_one"]:List Str);decide +kernel) rfl (Or.inl rfl) (Or.inr rfl))) (fun _ _ _ _ _=>cG) (fun _ _ _ _ _=>(cC (cg K) rfl T.dZ dh (aj (pv 0) ao)))) (aj (Hg (Ho K) (aR K (pv 9)) sZ sZ) ao)) rfl)) aU)
   (aq (aQ (i:=10) bD.nd rfl (Or.inl rfl) (cD (aj (cC (cg K) rfl T.dZ dh (aj (pv 5) ao)) (aj (cP ["_law_rules", "_law_cell", "_law_columns", "_law_pairs_here", "_law_parts_here", "_law_steps_here", "_law_k", "_law_table", "_law_row_here", "_law_found", "_law_handed", "_law_answer", "_law_other", "_law_one", "_law_said"] (ak bW) ["_law_one"] [none] ⟨rfl,by decide +kernel,by decide +kernel,by decide +kernel,by decide +kernel,by decide +kernel⟩ rfl (bI K (pv 7)) (fun _ _ _ _ _=>(aO (i:=0) (by show List.Nodup (["_law_one"]:List Str);decide +kernel) rfl (Or.inl rfl) (Or.inr rfl))) (fun _ _ _ _ _=>cG) (fun _ _ _ _ _=>(cC (cg K) rfl T.dZ dh (aj (pv 0) ao)))) (aj (cC (cg K) rfl T.dZ dh (aj (pv 8) ao)) ao)))))
   (aq (aQ (i:=11) bD.nd rfl (Or.inl rfl) (pN T.Ld IW (hr.mono (by decide)) rfl T.ajN T.WY .nil aH (aj (bh (aN K) (pv 10) aA (fun _ _=>rfl)) ao)))
   (aq (aQ (i:=12) bD.nd rfl (Or.inl rfl) (pN T.Le Ja (hr.mono (by decide)) rfl T.ajO T.W2 .nil aH (aj (bh (aN K) (pv 10) aA (fun _ _=>rfl)) (aj (bh (aN K) (pv 10) aA (fun _ _=>rfl)) ao))))
   (aq (cQ (cF K (bh (aN K) (pv 10) aA (fun _ _=>rfl)) (aj (Ab (aj aA (aj aA (aj aA ao)))) ao)))
   (aq (dR PassesOwn.never rfl (bI K (bh (aN K) (pv 10) aA (fun _ _=>rfl))) (aO (i:=13) bD.nd rfl (Or.inl rfl))
   (aB (cQ (cF K (pv 13) (aj aA ao)))))
   (aq (cQ (cF K (bh (aN K) (pv 10) aA (fun _ _=>rfl)) (aj (cD ao) ao)))
   (aq (cQ (cF K (bh (aN K) (pv 10) aA (fun _ _=>rfl)) (aj aA ao)))
   (aq (bN (PW.pt (kI (bA (oR hr.units) (aR K (pv 11)) (pv 5) (bF _)) (kI (bA (oR hr.units) (aR K (pv 12)) (pv 7) (bF _)) (lF (bA (oR hr.units) (aR K (pv 12)) (pv 8) (bF _)))))) (aB (aM cH)) aU)
   (aq (aQ (i:=14) bD.nd rfl (Or.inl rfl) (nU (pv 11) T.qN T.MK Ea (hr.mono (by decide)) T.RD .nil aH (aj (pv 0) (aj (pv 4) ao))))
   (aq (bN (bY (bG (aC dB (hr.mono (by decide)) rfl T.jw T.iC.kp T.ju .nil aH (aj (pv 14) (aj (aC Qv (hr.mono (by decide)) rfl T.aat T.Qk.kp T.aas .nil aH (aj (pv 3) (aj (pv 2) (aj (pv 4) (aj (pv 5) ao))))) ao))))) (aB (aM cH)) aU)
   (aq (aQ (i:=14) bD.nd rfl (Or.inl rfl) (nU (pv 12) T.dN T.MN Eb (hr.mono (by decide)) T.RG .nil aH (aj (pv 0) (aj (pv 4) ao))))
   (aq (bN (bY (bG (aC dB (hr.mono (by decide)) rfl T.jw T.iC.kp T.ju .nil aH (aj (pv 14) (aj (aC Qu (hr.mono (by decide)) rfl T.aav T.Ql.kp T.aau .nil aH (aj (pv 3) (aj (pv 2) (aj (pv 4) (aj (pv 7) (aj (pv 8) ao)))))) ao))))) (aB (aM cH)) aU)
   (aB (aM (aC Wg (hr.mono (by decide)) rfl T.V2 T.Ck.kp T.V1 .nil aH (aj (pv 0) (aj (pv 4) (aj (pv 11) (aj (pv 12) (aj (pv 1) (aj (pv 2) ao)))))))))))))))))))))))))))))),?_⟩
  refine⟨_,rfl,p,dp,_,rfl,hp,iB _ _ (by decide +kernel) (by decide +kernel),p,m,c,ps,rfl,hR,fun f tf hf htf=>?_⟩
  have s1:Same H (upd H f (.lst (tf.map V.ref))):=Same.new hf
  have hP1:dg (upd H f (.lst (tf.map V.ref))) f ps:=⟨tf,au,htf.same s1⟩
  have hf1:(upd H f (.lst (tf.map V.ref))) f=some (.lst (tf.map V.ref)):=au
  have hlf:(tf.map V.ref).length=ps.length:=by rw[List.length_map];exact htf.len
  generalize upd H f (.lst (tf.map V.ref))=H1 at s1 hP1 hf1 ⊢
  refine⟨_,rfl,_,rfl,cell,c,rfl,hG.1,hG.2.1,fun pl pts H2 hpl0 s2 hpl hpl1 aql hpts hall=>?_⟩
  have s02:=s1.trans s2
  have ail:∀ p∈pts,p < 64:=fun p hp=>by have:=(hpts p hp).2;omega
  refine⟨Nat.zero_le _,fun B hB=>?_⟩
  have sB:Same H2 (upd H2 B (.lst [])):=Same.new hB
  refine⟨_,rfl,cell,3,rfl,rfl,(by show(0:Int) < 3;decide),cell % 3,rfl,by omega,by omega,?_⟩
  have hn:(cell % 3).toNat≤2:=by omega
  generalize (cell % 3).toNat=n at hn
  refine j6 (lo:=0) (n:=n) (fun i σ' H'=>Same H2 H'∧i≤n∧(∃ (us:List Addr) (L:List (Nat×Nat×Nat)),H' B=some (.lst (us.map V.ref))∧Trs H' us L∧L.length=i∧∀ q∈L,q.1 < 64∧q.2.1 < 64∧q.2.2 < 64)∧∃ o6:Option V,σ' = [some (.ref p),some (.int cell),some (.int (c:Nat)),some (.ref f),some (.ref pl),some (.ref B),o6,none,none,none,none,none,none,none,none])
   ⟨sB,Nat.zero_le _,⟨[],[],au,trivial,rfl,fun q hq=>by simp at hq⟩,none,rfl⟩ ?_ ?_
  ·rintro i σ' H3 hi ⟨s3,_,⟨us,L,hB3,hU,hLl,hLt⟩,o6,rfl⟩
   rw[Int.zero_add]
   refine⟨_,rfl,.inl ⟨rfl,_,SqL.of hB3⟩,_,rfl,_,rfl,cell,(i:Int),rfl,rfl,_,rfl,f,_,rfl,.inl (SqL.of (s3 _ _ (s2 _ _ hf1))),_,1,rfl,rfl,_,1,ps.length+1,by rw[hlf];rfl,by omega,by omega,fun q1 hq1=>?_⟩
   refine⟨_,rfl,_,rfl,cell,(i:Int),rfl,rfl,_,2,3,rfl,by decide,by decide,fun q2 hq2=>?_⟩
   refine⟨_,rfl,_,rfl,cell,(i:Int),rfl,rfl,_,3,3,rfl,by decide,by decide,fun q3 hq3=>⟨by show 3≤sizeLine;decide,fun t ht=>?_⟩⟩
   have st:Same H3 (upd H3 t (.tup (trip (q1,q2,q3)))):=Same.new ht
   refine⟨B,_,_,rfl,rfl,st _ _ hB3,aP (by rw[List.length_map,hU.len];omega),?_⟩
   refine⟨Same.up (s3.trans st) hB,hi,⟨us++[t],L++[(q1,q2,q3)],by rw[au,List.map_append];rfl,Trs.upd (st _ _ hB3) (Trs.snoc au (hU.same st)),by rw[List.length_append,hLl];rfl,fun q hq=>?_⟩,_,rfl⟩
   rcases List.mem_append.mp hq with z | z
   ·exact hLt q z
   ·rw[List.mem_singleton.mp z];exact⟨by show q1 < 64;omega,by show q2 < 64;omega,by show q3 < 64;omega⟩
  rintro σ' H3 ⟨s3,_,⟨us0,L0,hB3,hU0,hLl0,hLt0⟩,o6,rfl⟩
  have s03:=s02.trans s3
  refine⟨_,rfl,cell,3,rfl,rfl,⟨by decide,by decide⟩,_,4,rfl,rfl,(by show(0:Int) < 4;decide),cell / 3 % 4,rfl,by omega,by omega,fun D0 hD0=>?_⟩
  have hn4:(cell / 3 % 4).toNat≤3:=by omega
  generalize (cell / 3 % 4).toNat=n4 at hn4
  refine jm (lo:=0) (n:=n4) (fun i ys H'=>Same H3 H'∧i≤n4∧∃ (ts:List Addr) (S:List (List Nat)),ys=ts.map V.ref∧Rws H' ts S∧(∀ t∈ts,t≠D0)∧S.length=i∧∀ y∈S,y.length≤64) ⟨Same.new hD0,Nat.zero_le _,[],[],rfl,trivial,(fun t ht=>by simp at ht),rfl,fun y hy=>by simp at hy⟩ ?_ ?_
  ·rintro i ys H' hi ⟨se,_,ts,S,rfl,hRw,hne,hSl,hSr⟩ hDl
   rw[Int.zero_add]
   refine dF ?_
   refine⟨_,rfl,_,rfl,31,(i:Int),rfl,rfl,.inl ⟨by decide,by decide⟩,cell,_,rfl,rfl,_,rfl,_,c,rfl,hG.1,hG.2.1,fun e r H'' he s'' h hl hv=>?_⟩
   have neD:e≠D0:=fun z=>by rw[z,hDl] at he;cases he
   refine CE1.mk (s'' _ _ hDl) (aP (by rw[List.length_map,hRw.len];omega)) ⟨Same.up (se.trans s'') hD0,hi,ts++[e],S++[r],by rw[List.map_append];rfl,?_,fun t ht=>?_,by rw[List.length_append,hSl];rfl,fun y hy=>?_⟩
   ·refine Rws.upd (Rws.snoc h (hRw.same s'')) fun z=>?_
    rcases List.mem_append.mp z with z | z
    ·exact hne _ z rfl
    ·exact neD (List.mem_singleton.mp z).symm
   ·rcases List.mem_append.mp ht with z | z
    ·exact hne t z
    ·rw[List.mem_singleton.mp z];exact neD
   ·rcases List.mem_append.mp hy with z | z
    ·exact hSr y z
    ·rw[List.mem_singleton.mp z];omega
  rintro ys H4 ⟨s4,_,ts0,S0,rfl,hRw0,_,hSl0,hSr0⟩ hDl0
  have s04:=s03.trans s4
  refine⟨_,rfl,cell,7,rfl,rfl,⟨by decide,by decide⟩,_,rfl,_,c,rfl,hG.1,hG.2.1,fun e0 r0 H5 he0 s5 h0 hl0 hv0=>?_⟩
  have s05:=s04.trans s5
  have hpl5:=s5 _ _ (s4 _ _ (s3 _ _ hpl))
  have hP5:=((hP1.same s2).same s3).same (s4.trans s5)
  have hB5:=s5 _ _ (s4 _ _ hB3)
  have hU5:=(hU0.same s4).same s5
  suffices rest:∀ (H7:Hp) (fo B D e:Addr) (us:List Addr) (L:List (Nat×Nat×Nat)) (S:List (List Nat)) (r:List Nat),Same H H7→dg H7 f ps→H7 pl=some (.lst (nums pts))→H7 B=some (.lst (us.map V.ref))→Trs H7 us L→L.length≤2000000→(∀ q∈L,q.1 < 64∧q.2.1 < 64∧q.2.2 < 64)→iw H7 D S→S.length≤64→(∀ y∈S,y.length≤64)→H7 e=some (.lst (nums r))→r.length≤64 →
    tSeq _ _ { nx:=fun x H'=>Q V.non H',rt:=Q } [some (.ref p),some (.int cell),some (.int (c:Nat)),some (.ref f),some (.ref pl),some (.ref B),o6,some (.ref D),some (.ref e),some (.ref fo),none,none,none,none,none] H7 by
   refine⟨_,rfl,_,rfl,p,m,pl,c,ps,pts,rfl,hR.same s05,hG,hp8,hpl5,hpl1,aql,hpts,hall,fun fo d L H6 hfo hd s6 hBk hbk hLl hLt=>?_,fun fo a b S H6 hfo ha hb s6 hLo hlo hSl=>?_⟩
   ·obtain⟨⟨dx,hx⟩,⟨tL,hdd,hTL⟩⟩:=id hBk
    have hU6:=hU5.same s6
    suffices two:∀ (H7:Hp) (B:Addr) (us:List Addr) (L:List (Nat×Nat×Nat)),Same H6 H7→H7 B=some (.lst (us.map V.ref))→Trs H7 us L→L.length≤2000000→(∀ q∈L,q.1 < 64∧q.2.1 < 64∧q.2.2 < 64)→tSeq _ _ { nx:=fun x H'=>Q V.non H',rt:=Q } [some (.ref p),some (.int cell),some (.int (c:Nat)),some (.ref f),some (.ref pl),some (.ref B),o6,some (.ref D0),some (.ref e0),some (.ref fo),none,none,none,none,none] H7 by
     refine⟨_,rfl,_,_,_,true,rfl,T.ak0.ty T.qN hx,T.qP,true,rfl,iteT ⟨_,rfl,cell,4,rfl,rfl,(by show(0:Int) < 4;decide),rfl,_,rfl,?_⟩⟩
     refine ite2 (fun e=>?_) (fun e=>?_)
     ·refine⟨_,rfl,fo,A.fu,dx,_,_,rfl,hx,T.qN,T.dY,sE _,d,_,rfl,SqL.of hdd,fun g hg=>?_⟩
      have s7:Same H6 (upd H6 g (.lst (cutV (tL.map V.ref) none none))):=Same.new hg
      exact two _ g tL L s7 (by rw[au,Sd]) (hTL.same s7) hLl hLt
     ·exact two H6 B us0 L0 (Same.refl _) (s6 _ _ hB5) hU6 (by omega) hLt0
    intro H7 B us L s7 hB7 hU7 hLl hLt
    refine⟨_,rfl,_,_,_,false,rfl,T.ak0.ty T.qN (s7 _ _ hx),T.qQ,false,rfl,iteF (iteF ?_)⟩
    have s57:=s6.trans s7
    exact rest H7 fo B D0 e0 us L S0 r0 (s05.trans s57) (hP5.same s57) (s57 _ _ hpl5) hB7 hU7 hLl hLt ⟨ts0,s57 _ _ (s5 _ _ hDl0),(hRw0.same s5).same s57⟩ (by omega) hSr0 (s57 _ _ h0) (by omega)
   ·obtain⟨⟨dx,hx⟩,⟨ts,haa,hRw⟩,hbb⟩:=id hLo
    refine⟨_,rfl,_,_,_,false,rfl,T.ak1.ty T.dN hx,T.qR,false,rfl,iteF (iteF ?_)⟩
    refine⟨_,rfl,_,_,_,true,rfl,T.ak1.ty T.dN hx,T.qT,true,rfl,iteT ⟨_,rfl,cell,4,rfl,rfl,(by show(0:Int) < 4;decide),rfl,_,rfl,?_⟩⟩
    refine ite2 (fun e=>?_) (fun e=>?_)
    ·have hlS:(ts.map V.ref).length=S.length:=by rw[List.length_map];exact hRw.len
     have hSc:∀ y∈S,y.length=c:=by
      unfold oO at hlo
      rw[Bool.and_eq_true] at hlo
      exact fun y hy=>((Lg hlo.1).2 y hy).1
     refine⟨_,rfl,fo,A.bT,dx,_,_,rfl,hx,T.dN,T.cu,jy _ _,a,rfl,⟨_,SqL.of haa⟩,fun D hD=>cO (xs:=ts.map V.ref) (fun i ys H'=>Same H6 H'∧i≤S.length∧∃ us:List Addr,ys=us.map V.ref∧Rws H' us (S.take i)∧∀ t∈us,t≠D) ⟨Same.new hD,Nat.zero_le _,[],rfl,trivial,fun t ht=>by simp at ht⟩ (fun i ys H' _ ⟨e,_⟩=>SqL.of (e _ _ haa)) ?_ ?_⟩
     ·rintro i v ys H' hv ⟨se,hi,us,rfl,hU,hn⟩ hDl
      obtain⟨t,y,rfl,hy,ht⟩:=(hRw.same se).get hv
      have hi':i<S.length:=(List.getElem?_eq_some_iff.mp hy).1
      refine dF ?_
      refine⟨_,rfl,t,nums y,rfl,.inl (SqL.of ht),fun e he=>?_⟩
      have s2:Same H' (upd H' e (.lst (nums y))):=Same.new he
      have neD:e≠D:=fun z=>by rw[z,hDl] at he;cases he
      refine CE1.mk (s2 _ _ hDl) (aP (by rw[List.length_map,hU.len,List.length_take];omega)) ⟨Same.up (se.trans s2) hD,hi',us++[e],by rw[List.map_append];rfl,?_,fun t ht=>?_⟩
      ·rw[List.take_add_one,hy]
       refine Rws.upd (Rws.snoc au (hU.same s2)) fun z=>?_
       rcases List.mem_append.mp z with z | z
       ·exact hn _ z rfl
       ·exact neD (List.mem_singleton.mp z).symm
      ·rcases List.mem_append.mp ht with z | z
       ·exact hn t z
       ·rw[List.mem_singleton.mp z];exact neD
     ·rintro ys H7 ⟨s7,_,us,rfl,hU,_⟩ hDl
      rw[hlS,List.take_length] at hU
      refine⟨_,rfl,fo,A.bT,dx,_,_,rfl,s7 _ _ hx,T.dN,T.eY,wX _ _,b,_,rfl,SqL.of (s7 _ _ hbb),fun g hg=>⟨_,_,rfl,?_⟩⟩
      have s8:Same H7 (upd H7 g (.lst (cutV (nums (List.replicate c 0)) none none))):=Same.new hg
      have s58:=s6.trans (s7.trans s8)
      have hc6:=hG.2.1
      exact rest _ fo B D g us0 L0 S (List.replicate c 0) (s05.trans s58) (hP5.same s58) (s58 _ _ hpl5) (s58 _ _ hB5) (hU5.same s58) (by omega) hLt0 ⟨us,s8 _ _ hDl,hU.same s8⟩ (by omega) (fun y hy=>by rw[hSc y hy];omega) (by rw[au,Sd]) (by rw[List.length_replicate];omega)
    ·exact rest H6 fo B D0 e0 us0 L0 S0 r0 (s05.trans s6) (hP5.same s6) (s6 _ _ hpl5) (s6 _ _ hB5) (hU5.same s6) (by omega) hLt0 ⟨ts0,s6 _ _ (s5 _ _ hDl0),(hRw0.same s5).same s6⟩ (by omega) hSr0 (s6 _ _ h0) (by omega)
  intro H7 fo B D e us L S r s7 hP7 hpl7 hB7 hU7 hLl hLt hT7 hS64 hSr he7 hr64
  obtain⟨ts,hD7,hRw7⟩:=id hT7
  have hlS:(ts.map V.ref).length=S.length:=by rw[List.length_map];exact hRw7.len
  refine⟨_,rfl,B,us.map V.ref,rfl,.inl (SqL.of hB7),fun h1 hh1=>?_⟩
  have u1:Same H7 (upd H7 h1 (.lst (us.map V.ref))):=Same.new hh1
  have k1:(upd H7 h1 (.lst (us.map V.ref))) h1=some (.lst (us.map V.ref)):=au
  generalize upd H7 h1 (.lst (us.map V.ref))=H8 at u1 k1 ⊢
  refine⟨_,rfl,D,rfl,⟨_,SqL.of (u1 _ _ hD7)⟩,fun h2 hh2=>cO (xs:=ts.map V.ref) (fun i ys H'=>Same H8 H'∧i≤S.length∧∃ vs:List Addr,ys=vs.map V.ref∧Rws H' vs (S.take i)∧∀ t∈vs,t≠h2∧H8 t=none) ⟨Same.new hh2,Nat.zero_le _,[],rfl,trivial,fun t ht=>by simp at ht⟩ (fun i ys H' _ ⟨e,_⟩=>SqL.of (e _ _ (u1 _ _ hD7))) ?_ ?_⟩
  ·rintro i v ys H' hv ⟨se,hi,vs,rfl,hU,hn⟩ hDl
   obtain⟨t,y,rfl,hy,ht⟩:=((hRw7.same u1).same se).get hv
   have hi':i<S.length:=(List.getElem?_eq_some_iff.mp hy).1
   refine dF ?_
   refine⟨_,rfl,t,nums y,rfl,.inl (SqL.of ht),fun e he=>?_⟩
   have s2:Same H' (upd H' e (.lst (nums y))):=Same.new he
   have neD:e≠h2:=fun z=>by rw[z,hDl] at he;cases he
   refine CE1.mk (s2 _ _ hDl) (aP (by rw[List.length_map,hU.len,List.length_take];omega)) ⟨Same.up (se.trans s2) hh2,hi',vs++[e],by rw[List.map_append];rfl,?_,fun t ht=>?_⟩
   ·rw[List.take_add_one,hy]
    refine Rws.upd (Rws.snoc au (hU.same s2)) fun z=>?_
    rcases List.mem_append.mp z with z | z
    ·exact(hn _ z).1 rfl
    ·exact neD (List.mem_singleton.mp z).symm
   ·rcases List.mem_append.mp ht with z | z
    ·exact hn t z
    ·rw[List.mem_singleton.mp z];exact⟨neD,se.free he⟩
  rintro ys H9 ⟨u2,_,vs,rfl,hV,hvn⟩ k2
  rw[hlS,List.take_length] at hV
  refine⟨_,rfl,e,nums r,rfl,.inl (SqL.of (u2 _ _ (u1 _ _ he7))),fun h3 hh3=>⟨by show 3≤sizeLine;decide,fun q hq=>?_⟩⟩
  have u3:Same H9 (upd H9 h3 (.lst (nums r))):=Same.new hh3
  have k3:(upd H9 h3 (.lst (nums r))) h3=some (.lst (nums r)):=au
  generalize upd H9 h3 (.lst (nums r))=H10 at u3 k3 hq ⊢
  have u4:Same H10 (upd H10 q (.lst [.ref h1,.ref h2,.ref h3])):=Same.new hq
  have kq:(upd H10 q (.lst [.ref h1,.ref h2,.ref h3])) q=some (.lst [.ref h1,.ref h2,.ref h3]):=au
  have k1q:=u3 _ _ (u2 _ _ k1)
  have k2q:=u3 _ _ k2
  have hVq:=hV.same u3
  have nq1:q≠h1:=fun z=>by rw[z,k1q] at hq;cases hq
  have nq2:q≠h2:=fun z=>by rw[z,k2q] at hq;cases hq
  have nq3:q≠h3:=fun z=>by rw[z,k3] at hq;cases hq
  have n12:h1≠h2:=aL k1 hh2
  have n13:h1≠h3:=aL (u2 _ _ k1) hh3
  have n23:h2≠h3:=aL k2 hh3
  have nqv:q∉vs:=fun z=>by obtain⟨xs,e⟩:=hVq.Wd q z;rw[hq] at e;cases e
  have n1v:h1∉vs:=fun z=>by have:=(hvn h1 z).2;rw[k1] at this;cases this
  have n2v:h2∉vs:=fun z=>(hvn h2 z).1 rfl
  have n3v:h3∉vs:=fun z=>by obtain⟨xs,e⟩:=hV.Wd h3 z;rw[hh3] at e;cases e
  generalize upd H10 q (.lst [.ref h1,.ref h2,.ref h3])=H11 at u4 kq ⊢
  have u711:=u1.trans (u2.trans (u3.trans u4))
  have k1':=u4 _ _ k1q
  have k2':=u4 _ _ k2q
  have k3':=u4 _ _ k3
  have hV':=hVq.same u4
  refine⟨_,rfl,q,[.ref h1,.ref h2,.ref h3],0,.ref h1,rfl,rfl,SqL.of kq,rfl,fun y dy ny ndy ney=>?_⟩
  have v1:Same H11 (upd (upd H11 dy (.own y)) y (.ins A.fu dy [])):=Same.up (Same.new ndy) ny
  refine⟨y,dy,h1,L,rfl,au,⟨us,v1 _ _ k1',(hU7.same u711).same v1⟩,fun d H12 hd hBk kp=>⟨rfl,?_⟩⟩
  have v2:Same H11 H12:=fun b o e=>kp b o (v1 b o e) (aL e ny)
  have ao2:H11 d=none:=v1.free hd
  obtain⟨⟨dy2,hy2⟩,⟨uL,hd2,hTL⟩⟩:=id hBk
  refine⟨_,rfl,q,[.ref h1,.ref h2,.ref h3],1,.ref h2,rfl,rfl,SqL.of (v2 _ _ kq),rfl,_,rfl,q,[.ref h1,.ref h2,.ref h3],2,.ref h3,rfl,rfl,SqL.of (v2 _ _ kq),rfl,fun x dx nx ndx nex=>?_⟩
  have w1:Same H12 (upd (upd H12 dx (.own x)) x (.ins A.bT dx [])):=Same.up (Same.new ndx) nx
  refine⟨x,dx,h2,h3,S,r,rfl,au,⟨vs,w1 _ _ (v2 _ _ k2'),(hV'.same v2).same w1⟩,hS64,w1 _ _ (v2 _ _ k3'),fun a b tz H13 ha hb nab htz hnd hxx haa hRz hbb kp2=>⟨rfl,?_⟩⟩
  have w2:Same H12 H13:=fun b o e=>kp2 b o (w1 b o e) (aL e nx)
  have w13:=v2.trans w2
  have haH:H12 a=none:=w1.free ha
  have hbH:H12 b=none:=w1.free hb
  have htzH:∀ t∈tz,H12 t=none:=fun t ht=>w1.free (htz t ht).1
  obtain⟨dx3,hx3⟩:=hxx
  have hy3:=w2 _ _ hy2
  have hd3:=w2 _ _ hd2
  have hTL3:=hTL.same w2
  have kz1:=w13 _ _ k1'
  have kz2:=w13 _ _ k2'
  have kz3:=w13 _ _ k3'
  have kzq:=w13 _ _ kq
  have hVz:=hV'.same w13
  have ni:∀ {z:Addr},H12 z=none→z∉h1::h2::h3::vs:=fun {z} hz hm=>by
   rcases List.mem_cons.mp hm with rfl | hm
   ·rw[v2 _ _ k1'] at hz;cases hz
   ·rcases List.mem_cons.mp hm with rfl | hm
    ·rw[v2 _ _ k2'] at hz;cases hz
    ·rcases List.mem_cons.mp hm with rfl | hm
     ·rw[v2 _ _ k3'] at hz;cases hz
     ·obtain⟨xs,e⟩:=(hV'.same v2).Wd z hm;rw[hz] at e;cases e
  have ni1:∀ {z:Addr},H11 z=none→z∉h1::h2::h3::vs:=fun {z} hz hm=>by
   rcases List.mem_cons.mp hm with rfl | hm
   ·rw[k1'] at hz;cases hz
   ·rcases List.mem_cons.mp hm with rfl | hm
    ·rw[k2'] at hz;cases hz
    ·rcases List.mem_cons.mp hm with rfl | hm
     ·rw[k3'] at hz;cases hz
     ·obtain⟨xs,e⟩:=hV'.Wd z hm;rw[hz] at e;cases e
  have nw:∀ z∈h1::h2::h3::vs,H7 z=none:=fun z hm=>by
   rcases List.mem_cons.mp hm with rfl | hm
   ·exact hh1
   ·rcases List.mem_cons.mp hm with rfl | hm
    ·exact u1.free hh2
    ·rcases List.mem_cons.mp hm with rfl | hm
     ·exact u1.free (u2.free hh3)
     ·exact u1.free (hvn z hm).2
  have m1:h1∈h1::h2::h3::vs:=List.mem_cons_self
  have m2:h2∈h1::h2::h3::vs:=List.mem_cons_of_mem _ List.mem_cons_self
  have m3:h3∈h1::h2::h3::vs:=List.mem_cons_of_mem _ (List.mem_cons_of_mem _ List.mem_cons_self)
  have mv:∀ {t},t∈vs→t∈h1::h2::h3::vs:=fun h=>List.mem_cons_of_mem _ (List.mem_cons_of_mem _ (List.mem_cons_of_mem _ h))
  refine⟨_,rfl,q,[.ref h1,.ref h2,.ref h3],0,.ref h1,rfl,rfl,SqL.of kzq,rfl,.inl ⟨rfl,_,SqL.of kz1⟩,by show 3≤sizeLine;decide,fun t ht=>?_⟩
  have x1:Same H13 (upd H13 t (.tup [.int 0,.int 0,.int 0])):=Same.new ht
  refine⟨h1,_,_,rfl,rfl,x1 _ _ kz1,by rw[List.length_map,hU7.len];show _ < 2 ^ 24;omega,?_⟩
  have b1:But (h1::h2::h3::vs) H13 (upd (upd H13 t (.tup [.int 0,.int 0,.int 0])) h1 (.lst (us.map V.ref++[.ref t]))):=(But.same x1).upd m1
  have c2:(upd (upd H13 t (.tup [.int 0,.int 0,.int 0])) h1 (.lst (us.map V.ref++[.ref t]))) h2=some (.lst (vs.map V.ref)):=by rw[aG n12.symm];exact x1 _ _ kz2
  have c3:(upd (upd H13 t (.tup [.int 0,.int 0,.int 0])) h1 (.lst (us.map V.ref++[.ref t]))) h3=some (.lst (nums r)):=by rw[aG n13.symm];exact x1 _ _ kz3
  have cq:(upd (upd H13 t (.tup [.int 0,.int 0,.int 0])) h1 (.lst (us.map V.ref++[.ref t]))) q=some (.lst [.ref h1,.ref h2,.ref h3]):=by rw[aG nq1];exact x1 _ _ kzq
  have cV:∀ z∈vs,∃ xs:List V,(upd (upd H13 t (.tup [.int 0,.int 0,.int 0])) h1 (.lst (us.map V.ref++[.ref t]))) z=some (.lst xs)∧xs.length≤900:=fun z hz=>by
   obtain⟨j,hj⟩:=List.mem_iff_getElem?.mp hz
   obtain⟨t',y',e1,e2,e3⟩:=hVz.get (i:=j) (v:=.ref z) (by rw[List.getElem?_map,hj];rfl)
   injection e1 with e1
   have nz:z≠h1:=fun w=>n1v (by rw[← w];exact hz)
   refine⟨nums y',by rw[aG nz];exact x1 _ _ (by rw[e1];exact e3),?_⟩
   rw[aY]
   have:=hSr y' (List.mem_of_getElem? e2)
   omega
  generalize upd (upd H13 t (.tup [.int 0,.int 0,.int 0])) h1 (.lst (us.map V.ref++[.ref t]))=H14 at b1 c2 c3 cq cV ⊢
  refine⟨_,rfl,q,[.ref h1,.ref h2,.ref h3],1,.ref h2,rfl,rfl,SqL.of cq,rfl,h2,rfl,⟨_,SqL.of c2⟩,f9 (K:=K) (a:=h2) (xs:=vs.map V.ref) (fun i σ' H'=>But (h1::h2::h3::vs) H13 H'∧H' h2=some (.lst (vs.map V.ref))∧H' h3=some (.lst (nums r))∧H' q=some (.lst [.ref h1,.ref h2,.ref h3])∧(∀ z∈vs,∃ xs:List V,H' z=some (.lst xs)∧xs.length≤900+i)∧∃ o13:Option V,σ' = [some (.ref p),some (.int cell),some (.int (c:Nat)),some (.ref f),some (.ref pl),some (.ref B),o6,some (.ref D),some (.ref e),some (.ref fo),some (.ref q),some (.ref y),some (.ref x),o13,none])
   ⟨b1,c2,c3,cq,cV,none,rfl⟩ (fun i σ' H' _ ⟨_,e,_⟩=>SqL.of e) ?_ ?_⟩
  ·rintro i v σ' H15 hv ⟨b15,d2',d3',dq,dV,o13,rfl⟩
   have hiv:i<vs.length:=by have:=(List.getElem?_eq_some_iff.mp hv).1;rwa [List.length_map] at this
   rw[List.getElem?_map,List.getElem?_eq_getElem hiv] at hv
   cases hv
   have hzv:vs[i]∈vs:=List.getElem_mem hiv
   obtain⟨xs,hxs,hxl⟩:=dV _ hzv
   have hvl:vs.length=S.length:=hV.len
   refine⟨_,rfl,.inl ⟨rfl,_,SqL.of hxs⟩,vs[i],_,_,rfl,rfl,hxs,aP (by omega),?_⟩
   have e2:h2≠vs[i]:=fun z=>n2v (by rw[z];exact hzv)
   have e3:h3≠vs[i]:=fun z=>n3v (by rw[z];exact hzv)
   have eq:q≠vs[i]:=fun z=>nqv (by rw[z];exact hzv)
   refine⟨b15.upd (mv hzv),by rw[aG e2];exact d2',by rw[aG e3];exact d3',by rw[aG eq];exact dq,fun z hz=>?_,_,rfl⟩
   by_cases w:z=vs[i]
   ·subst w;exact⟨_,au,by rw[List.length_append];simp;omega⟩
   ·obtain⟨ys,hys,hyl⟩:=dV z hz
    exact⟨ys,by rw[aG w];exact hys,by omega⟩
  rintro σ' H15 ⟨b15,d2',d3',dq,_,o13,rfl⟩
  refine⟨_,rfl,q,[.ref h1,.ref h2,.ref h3],1,.ref h2,rfl,rfl,SqL.of dq,rfl,.inl ⟨rfl,_,SqL.of d2'⟩,Nat.zero_le _,fun z hz=>?_⟩
  have x2:Same H15 (upd H15 z (.lst [])):=Same.new hz
  have hvl:vs.length=S.length:=hV.len
  refine⟨h2,_,_,rfl,rfl,x2 _ _ d2',aP (by rw[List.length_map];omega),?_⟩
  have b16:But (h1::h2::h3::vs) H13 (upd (upd H15 z (.lst [])) h2 (.lst (vs.map V.ref++[.ref z]))):=(b15.trans (But.same x2)).upd m2
  have g3':(upd (upd H15 z (.lst [])) h2 (.lst (vs.map V.ref++[.ref z]))) h3=some (.lst (nums r)):=by rw[aG n23.symm];exact x2 _ _ d3'
  have gq':(upd (upd H15 z (.lst [])) h2 (.lst (vs.map V.ref++[.ref z]))) q=some (.lst [.ref h1,.ref h2,.ref h3]):=by rw[aG nq2];exact x2 _ _ dq
  generalize upd (upd H15 z (.lst [])) h2 (.lst (vs.map V.ref++[.ref z]))=H16 at b16 g3' gq' ⊢
  refine⟨_,rfl,q,[.ref h1,.ref h2,.ref h3],2,.ref h3,rfl,rfl,SqL.of gq',rfl,.inl ⟨rfl,_,SqL.of g3'⟩,h3,_,_,rfl,rfl,g3',aP (by rw[aY];omega),?_⟩
  have b17:But (h1::h2::h3::vs) H13 (upd H16 h3 (.lst (nums r++[.int 0]))):=b16.upd m3
  generalize upd H16 h3 (.lst (nums r++[.int 0]))=H17 at b17 ⊢
  have z17:Same H7 H17:=But.fresh (u711.trans w13) b17 nw
  have hlz:wZ H13 (h1::h2::h3::vs):=fun z hm=>by
   rcases List.mem_cons.mp hm with rfl | hm
   ·exact⟨_,kz1⟩
   ·rcases List.mem_cons.mp hm with rfl | hm
    ·exact⟨_,kz2⟩
    ·rcases List.mem_cons.mp hm with rfl | hm
     ·exact⟨_,kz3⟩
     ·exact hVz.Wd z hm
  have y17:=b17 _ _ hy3 (hlz.out hy3 (by intro xs z;cases z))
  have d17:=b17 _ _ hd3 (ni1 ao2)
  have hL17:=hTL3.butL hlz b17
  have x17:=b17 _ _ hx3 (hlz.out hx3 (by intro xs z;cases z))
  have a17:=b17 _ _ haa (ni haH)
  have bb17:=b17 _ _ hbb (ni hbH)
  have r17:Rws H17 tz S:=hRz.butL b17 fun t ht=>ni (htzH t ht)
  have hU17:=hU7.same z17
  have dT:(PyData.list (L.map rM)).depth≤60:=by
   show PyData.depthAll _+1≤60
   have:=Xi L
   omega
  refine⟨_,rfl,y,A.fu,dy2,_,_,rfl,y17,T.qN,T.dY,sE _,_,rfl,.list (L.map rM),.list (L.map rM),.lst d17 (akb hL17),.lst (z17 _ _ hB7) (akb hU17),Wf L,Wf L,dT,_,rfl,?_⟩
  rw[if_pos rfl,show PyData.eqv (.list (L.map rM)) (.list (L.map rM))=true from aep L]
  refine iteF ⟨_,rfl,x,A.bT,dx3,_,_,rfl,x17,T.dN,T.cu,jy _ _,_,rfl,.list (S.map rowD),.list (S.map rowD),su ⟨tz,a17,r17⟩,su (hT7.same z17),iz S,iz S,Cw S,_,rfl,?_⟩
  rw[if_pos rfl,p7,decide_eq_true rfl]
  refine iteF ⟨_,rfl,x,A.bT,dx3,_,_,rfl,x17,T.dN,T.eY,wX _ _,_,rfl,rowD r,rowD r,fZ bb17,fZ (z17 _ _ he7),eZ _,eZ _,iD _,_,rfl,?_⟩
  rw[if_pos rfl,pG,decide_eq_true rfl]
  refine iteF ?_
  have s17:=s7.trans z17
  refine⟨_,rfl,y,dy2,_,rfl,y17,ak8 _ (by decide +kernel),_,rfl,_,rfl,y,d,p,m,pl,c,ps,pts,L,rfl,⟨⟨dy2,y17⟩,⟨uL,d17,hL17⟩⟩,hR.same s17,hG,z17 _ _ hpl7,by omega,ail,fun H18 s18=>?_⟩
  refine⟨_,rfl,_,rfl,_,rfl,_,rfl,_,rfl,f,pl,B,c,ps,pts,L,rfl,hP7.same (z17.trans s18),hG,s18 _ _ (z17 _ _ hpl7),by omega,ail,⟨us,s18 _ _ (z17 _ _ hB7),hU17.same s18⟩,hLt,fun H19 s19=>⟨R4 c ps pts L,rfl,_,rfl,iteF ?_⟩⟩
  have t19:=s18.trans s19
  refine⟨_,rfl,x,dx3,_,rfl,t19 _ _ x17,ak9 _ _ (by decide +kernel) (by decide +kernel),_,rfl,_,rfl,x,a,b,p,m,pl,c,ps,pts,S,r,rfl,⟨⟨dx3,t19 _ _ x17⟩,⟨tz,t19 _ _ a17,r17.same t19⟩,t19 _ _ bb17⟩,hR.same (s17.trans t19),hG,t19 _ _ (z17 _ _ hpl7),ail,fun H20 s20=>?_⟩
  have t20:=t19.trans s20
  refine⟨_,rfl,_,rfl,_,rfl,_,rfl,_,rfl,_,rfl,f,pl,D,e,c,ps,pts,S,r,rfl,hP7.same (z17.trans t20),hG,t20 _ _ (z17 _ _ hpl7),by omega,ail,hT7.same (z17.trans t20),hS64,hSr,t20 _ _ (z17 _ _ he7),hr64,fun H21 s21=>⟨oO c ps pts S r,rfl,_,rfl,iteF ?_⟩⟩
  have t21:=t20.trans s21
  have u7:=u711.trans v2
  have fa:H7 a=none:=u7.free haH
  have fb:H7 b=none:=u7.free hbH
  have fd:H7 d=none:=u711.free ao2
  have ft:∀ t∈tz,H7 t=none:=fun t ht=>u7.free (htzH t ht)
  have old:∀ {z:Addr} {o:HO},H7 z=some o→z∉b::d::tz:=fun {z o} hz hm=>by
   rcases List.mem_cons.mp hm with rfl | hm
   ·rw[fb] at hz;cases hz
   ·rcases List.mem_cons.mp hm with rfl | hm
    ·rw[fd] at hz;cases hz
    ·rw[ft z hm] at hz;cases hz
  have nbd:b≠d:=fun z=>by rw[z,hd2] at hbH;cases hbH
  have nad:a≠d:=fun z=>by rw[z,hd2] at haH;cases haH
  have ndt:d∉tz:=fun z=>by have:=htzH d z;rw[hd2] at this;cases this
  have nbt:b∉tz:=fun z=>(htz b z).2.2 rfl
  have naz:a∉b::d::tz:=fun hm=>by
   rcases List.mem_cons.mp hm with z | hm
   ·exact nab z
   ·rcases List.mem_cons.mp hm with z | hm
    ·exact nad z
    ·exact(htz a hm).2.1 rfl
  obtain⟨tm,hmm,_⟩:=id hPm
  refine⟨_,rfl,_,rfl,_,rfl,_,rfl,_,rfl,_,rfl,p,m,pl,y,d,x,a,b,uL,tz,cell,c,ps,pts,L,S,r,rfl,hR.same (s17.trans t21),hG,t21 _ _ (z17 _ _ hpl7),by omega,ail,⟨dy2,t21 _ _ y17⟩,t21 _ _ d17,hL17.same t21,hLl,hLt,⟨dx3,t21 _ _ x17⟩,t21 _ _ a17,r17.same t21,hS64,hSr,t21 _ _ bb17,hr64,hnd,nbt,ndt,nbd,naz,old (s7 _ _ hmm),old hpl7,fun H22 b22=>?_⟩
  exact k H22 fun z o hz=>b22 z o ((s17.trans t21) z o hz) (old (s7 z o hz))
end
end K12
namespace K12
open PySem L2 TC
def akc (CR:Addr):Sp:=fun vs H Q _=>∃ (l p m:Addr) (c:Nat) (qs ps:List (Nat×Nat)),vs = [.ref l,.ref p]∧dg H l qs∧(∀ q∈qs,q.1 < 2 ^ c∧q.2 < 2 ^ c)∧qs.length≤64∧bV CR H p m c ps∧Good c ps ∧
 ∀ (d:Addr) (S:List (List Nat)) (H':Hp),H d=none→Same H H'→iw H' d S→S.length≤64→(∀ y∈S,y.length≤64)→Q (.ref d) H'
def preB (ps qs:List (Nat×Nat)) (S:List (List Nat)) (i:Nat):Bool:=(List.range i).all fun j=>rK ps (S.getD j []) (qs.getD j (0,0)).1 (qs.getD j (0,0)).2
theorem aer {ps qs:List (Nat×Nat)} {S:List (List Nat)} {i:Nat} {q:Nat×Nat} {y:List Nat} (hq:qs[i]? = some q) (hy:S[i]? = some y):preB ps qs S (i+1)=(preB ps qs S i && rK ps y q.1 q.2):=by
 unfold preB
 rw[List.range_succ,List.all_append]
 simp only [List.all_cons,List.all_nil,Bool.and_true]
 rw[getL hy,getP hq]
def dueB (ps qs:List (Nat×Nat)) (S S':List (List Nat)):Nat→Bool
 | 0=>decide (S.length=ps.length) && decide (S'.length=qs.length)
 | 1=>allB qs ps S && decide (S'.length=qs.length)
 | _=>Qp ps qs S S'
theorem due1 {ps qs:List (Nat×Nat)} {S S':List (List Nat)} {j:Nat} (h:j=ps.length∨j=S.length):(dueB ps qs S S' 0 && preB qs ps S j)=dueB ps qs S S' 1:=by
 show(decide (S.length=ps.length) && decide (S'.length=qs.length) && preB qs ps S j)=(decide (S.length=ps.length) && preB qs ps S ps.length && decide (S'.length=qs.length))
 by_cases e:S.length=ps.length
 ·have:j=ps.length:=by omega
  rw[this]
  cases decide (S.length=ps.length) <;> cases decide (S'.length=qs.length) <;> cases preB qs ps S ps.length <;> rfl
 ·rw[decide_eq_false e];rfl
theorem due2 {ps qs:List (Nat×Nat)} {S S':List (List Nat)} {j:Nat} (h:j=qs.length∨j=S'.length):(dueB ps qs S S' 1 && preB ps qs S' j)=dueB ps qs S S' 2:=by
 show(allB qs ps S && decide (S'.length=qs.length) && preB ps qs S' j)=(allB qs ps S && (decide (S'.length=qs.length) && preB ps qs S' qs.length))
 by_cases e:S'.length=qs.length
 ·have:j=qs.length:=by omega
  rw[this]
  cases allB qs ps S <;> cases decide (S'.length=qs.length) <;> cases preB ps qs S' qs.length <;> rfl
 ·rw[decide_eq_false e]
  cases allB qs ps S <;> rfl
def anL:Sp:=fun vs H Q _=>∃ (l m d e:Addr) (ps qs:List (Nat×Nat)) (S S':List (List Nat)),vs = [.ref l,.ref m,.ref d,.ref e]∧dg H l ps∧dg H m qs∧iw H d S∧iw H e S'∧(∀ y∈S,y.length≤900)∧(∀ y∈S',y.length≤900)∧∀ H',Same H H'→Q (.bl (Qp ps qs S S')) H'
section
variable {P:Program} {w:World} {K:W.Frag} {mg:Str→Option Value} {base:Heap} {A:Adr}
theorem adh (T:Txt K mg A):FnOk P w K mg base CX0 9 A.jL A.Dw ["_law_pairs_here", "_law_rules"] (akc A.bB):=by
 have Wb:=aaF (P:=P) (w:=w) (base:=base) T
 refine T.DN.ok pA (fun vs H Q E h=>?_) (fun cdv A' outer s H vs Q E hr h=>?_)
 ·obtain⟨l,p,m,c,qs,ps,rfl,_⟩:=h;rfl
 ·obtain⟨l,p,m,c,qs,ps,rfl,⟨tq,hl,hq⟩,hqs,hq64,hR,hG,k⟩:=h
  refine⟨_,(aq (aQ (i:=2) pA.nd rfl (Or.inl rfl) (cD ao))
   (aq (dR PassesOwn.never rfl (bI K (pv 0)) (qH K (n:=2) rfl (cZ (aO (i:=3) pA.nd rfl (Or.inl rfl)) (cZ (aO (i:=4) pA.nd rfl (Or.inl rfl)) qG)))
   (aq (aQ (i:=5) pA.nd rfl (Or.inl rfl) (aC Wb (hr.mono (by decide)) rfl T.aeg T.VP.kp T.aef .nil aH (aj (pv 1) (aj (pv 3) (aj (pv 4) ao)))))
   (aB (bN (bG (aW (oX K) rfl T.bU cj (aj (pv 5) (aj (sW (v:=.ref A.c7) rfl T.Y8 rfl) ao)))) (aB (cQ (cF K (pv 2) (aj (aR K (pv 5)) ao)))) aU))))
   (aB (aM (pv 2))))),?_⟩
  refine⟨Nat.zero_le _,fun B hB=>?_⟩
  refine⟨_,rfl,l,rfl,⟨_,SqL.of ((Same.new hB) _ _ hl)⟩,f9 (K:=K) (a:=l) (xs:=tq.map V.ref) (fun i σ' H'=>Same H H'∧i≤qs.length∧(∃ (us:List Addr) (S:List (List Nat)),H' B=some (.lst (us.map V.ref))∧Rws H' us S∧(∀ t∈us,t≠B)∧S.length≤i∧∀ y∈S,y.length≤64)∧∃ o3 o4 o5:Option V,σ' = [some (.ref l),some (.ref p),some (.ref B),o3,o4,o5])
   ⟨Same.new hB,Nat.zero_le _,⟨[],[],au,trivial,(fun t ht=>by simp at ht),Nat.zero_le _,fun y hy=>by simp at hy⟩,none,none,none,rfl⟩ (fun i σ' H' _ ⟨e,_⟩=>SqL.of (e _ _ hl)) ?_ ?_⟩
  ·rintro i v σ' H1 hv ⟨s1,hi,⟨us,S,hB1,hU,hne,hSl,hSr⟩,o3,o4,o5,rfl⟩
   obtain⟨t,q,rfl,hqi,ht⟩:=(hq.same s1).get hv
   have hi':i<qs.length:=(List.getElem?_eq_some_iff.mp hqi).1
   have hqm:=hqs q (List.mem_of_getElem? hqi)
   refine⟨t,_,rfl,SqT.of ht,rfl,_,_,rfl,_,_,rfl,rfl,?_⟩
   refine⟨_,rfl,_,rfl,_,rfl,p,m,c,q.1,q.2,ps,rfl,hR.same s1,hG,hqm.1,hqm.2,fun hs x d pl H3 hx hd s3 hSt hld hpli hpn=>?_,fun hs x e1 e2 H3 hx he1 he2 nee s3 hRw=>?_⟩
   ·obtain⟨⟨dx,hxx⟩,hdd⟩:=id hSt
    have hB3:=s3 _ _ hB1
    refine⟨_,rfl,_,_,_,true,rfl,T.aaw.ty T.pC hxx,T.kE,true,rfl,iteT ?_⟩
    refine⟨_,rfl,.inl ⟨rfl,_,SqL.of hB3⟩,_,rfl,x,A.c7,dx,_,_,rfl,hxx,T.pC,T.eE,yq _,B,_,_,rfl,rfl,hB3,aP (by rw[List.length_map,hU.len];omega),?_⟩
    have ndB:d≠B:=fun z=>by rw[z,hB1] at hd;cases hd
    refine⟨Same.up (s1.trans s3) hB,hi',⟨us++[d],S++[pl],by rw[au,List.map_append];rfl,?_,fun t ht=>?_,by rw[List.length_append];show S.length+1≤i+1;omega,fun y hy=>?_⟩,_,_,_,rfl⟩
    ·refine Rws.upd (Rws.snoc hdd (hU.same s3)) fun z=>?_
     rcases List.mem_append.mp z with z | z
     ·exact hne _ z rfl
     ·exact ndB (List.mem_singleton.mp z).symm
    ·rcases List.mem_append.mp ht with z | z
     ·exact hne t z
     ·rw[List.mem_singleton.mp z];exact ndB
    ·rcases List.mem_append.mp hy with z | z
     ·exact hSr y z
     ·rw[List.mem_singleton.mp z];exact hpn
   ·obtain⟨⟨dx,hxx⟩,_⟩:=id hRw
    refine⟨_,rfl,_,_,_,false,rfl,T.afA.ty T.gP hxx,T.lZ,false,rfl,iteF ?_⟩
    exact⟨s1.trans s3,hi',⟨us,S,s3 _ _ hB1,hU.same s3,hne,by omega,hSr⟩,_,_,_,rfl⟩
  ·rintro σ' H1 ⟨s1,hi,⟨us,S,hB1,hU,hne,hSl,hSr⟩,o3,o4,o5,rfl⟩
   have hl2:(tq.map V.ref).length=qs.length:=by rw[List.length_map];exact hq.len
   exact⟨_,rfl,k B S H1 hB s1 ⟨us,hB1,hU⟩ (by omega) hSr⟩
theorem Cy (T:Txt K mg A):FnOk P w K mg base CX0 5 A.fY A.uZ ["_law_pairs_here", "_law_others", "_law_there", "_law_back_here"] anL:=by
 have Je:=R7 (P:=P) (w:=w) (base:=base) T
 refine T.u0.ok eH (fun vs H Q E h=>?_) (fun cdv A' outer s H vs Q E hr h=>?_)
 ·obtain⟨l,m,d,e,ps,qs,S,S',rfl,_⟩:=h;rfl
 ·obtain⟨l,m,d,e,ps,qs,S,S',rfl,hP,hP',hT,hT',hS,hS',k⟩:=h
  obtain⟨tp,hl,hp⟩:=id hP
  obtain⟨tq,hm,hq⟩:=id hP'
  obtain⟨ts,hd,hs⟩:=id hT
  obtain⟨ts',he,hs'⟩:=id hT'
  have lp:(tp.map V.ref).length=ps.length:=by rw[List.length_map];exact hp.len
  have lq:(tq.map V.ref).length=qs.length:=by rw[List.length_map];exact hq.len
  have ld:(ts.map V.ref).length=S.length:=by rw[List.length_map];exact hs.len
  have le:(ts'.map V.ref).length=S'.length:=by rw[List.length_map];exact hs'.len
  refine⟨_,(aq (aQ (i:=4) eH.nd rfl (Or.inl rfl) (pX (mj mO (aW (bM K) rfl T.gh dH (aj (pv 2) ao)) (aW (bM K) rfl T.gh dH (aj (pv 0) ao)) (bF _)) (qF (mj mO (aW (bM K) rfl T.gh dH (aj (pv 3) ao)) (aW (bM K) rfl T.gh dH (aj (pv 1) ao)) (bF _)))))
   (aq (dR PassesOwn.never rfl (bI K (cD (aj (Ab (aj (pv 0) (aj (pv 1) (aj (pv 2) ao)))) (aj (Ab (aj (pv 1) (aj (pv 0) (aj (pv 3) ao)))) ao)))) (qH K (n:=3) rfl (cZ (aO (i:=5) eH.nd rfl (Or.inl rfl)) (cZ (aO (i:=6) eH.nd rfl (Or.inl rfl)) (cZ (aO (i:=7) eH.nd rfl (Or.inl rfl)) qG))))
   (aB (dR PassesOwn.never rfl (akP K rfl T.aej anq (aj (pv 5) (aj (pv 7) ao))) (qH K (n:=2) rfl (cZ (aO (i:=8) eH.nd rfl (Or.inl rfl)) (cZ (aO (i:=9) eH.nd rfl (Or.inl rfl)) qG)))
   (aB (aQ (i:=4) eH.nd rfl (Or.inl rfl) (pX (pv 4) (qF (aC Je (hr.mono (by decide)) rfl T.W8 T.Ik.kp T.W7 .nil aH (aj (pv 6) (aj (bh (bQ K) (pv 8) aA (fun _ _=>rfl)) (aj (bh (bQ K) (pv 8) aA (fun _ _=>rfl)) (aj (pv 9) ao))))))))))))
   (aB (aM (pv 4))))),?_⟩
  suffices rest:tSeq _ _ { nx:=fun x H'=>Q V.non H',rt:=Q } [some (.ref l),some (.ref m),some (.ref d),some (.ref e),some (.bl (dueB ps qs S S' 0)),none,none,none,none,none] H by
   refine⟨_,rfl,d,_,rfl,.inl (SqL.of hd),_,rfl,l,_,rfl,.inl (SqL.of hl),rfl,_,rfl,?_⟩
   have e1:decide (V.int ((ts.map V.ref).length:Int)=V.int ((tp.map V.ref).length:Int))=decide (S.length=ps.length):=by
    rw[ld,lp,Y5]
    exact Bool.eq_iff_iff.mpr (by simp only [beq_iff_eq,decide_eq_true_eq];omega)
   have e2:decide (V.int ((ts'.map V.ref).length:Int)=V.int ((tq.map V.ref).length:Int))=decide (S'.length=qs.length):=by
    rw[le,lq,Y5]
    exact Bool.eq_iff_iff.mpr (by simp only [beq_iff_eq,decide_eq_true_eq];omega)
   rw[e1]
   by_cases e3:S.length=ps.length
   ·have e4:dueB ps qs S S' 0=decide (S'.length=qs.length):=by
     show(decide (S.length=ps.length) && decide (S'.length=qs.length))=_
     rw[decide_eq_true e3];rfl
    rw[decide_eq_true e3]
    refine iteT ⟨_,rfl,e,_,rfl,.inl (SqL.of he),_,rfl,m,_,rfl,.inl (SqL.of hm),rfl,?_⟩
    rw[e2,← e4]
    exact rest
   ·have e4:dueB ps qs S S' 0=false:=by
     show(decide (S.length=ps.length) && decide (S'.length=qs.length))=_
     rw[decide_eq_false e3];rfl
    rw[decide_eq_false e3]
    refine iteF ?_
    rw[← e4]
    exact rest
  refine⟨_,rfl,_,rfl,_,rfl,by show 3≤sizeLine;decide,fun t1 ht1=>⟨_,rfl,_,rfl,_,rfl,by show 3≤sizeLine;decide,fun t2 ht2=>⟨by show 2≤sizeLine;decide,fun q hq0=>?_⟩⟩⟩
  have s1:Same H (upd H t1 (.tup [.ref l,.ref m,.ref d])):=Same.new ht1
  have k1:(upd H t1 (.tup [.ref l,.ref m,.ref d])) t1=some (.tup [.ref l,.ref m,.ref d]):=au
  generalize upd H t1 (.tup [.ref l,.ref m,.ref d])=H1 at s1 k1 ht2 hq0 ⊢
  have s2:Same H1 (upd H1 t2 (.tup [.ref m,.ref l,.ref e])):=Same.new ht2
  have k2:(upd H1 t2 (.tup [.ref m,.ref l,.ref e])) t2=some (.tup [.ref m,.ref l,.ref e]):=au
  generalize upd H1 t2 (.tup [.ref m,.ref l,.ref e])=H2 at s2 k2 hq0 ⊢
  have s3:Same H2 (upd H2 q (.lst [.ref t1,.ref t2])):=Same.new hq0
  have k3:(upd H2 q (.lst [.ref t1,.ref t2])) q=some (.lst [.ref t1,.ref t2]):=au
  generalize upd H2 q (.lst [.ref t1,.ref t2])=H3 at s3 k3 ⊢
  have s03:=s1.trans (s2.trans s3)
  have k1':=s3 _ _ (s2 _ _ k1)
  have k2':=s3 _ _ k2
  refine⟨q,rfl,⟨_,SqL.of k3⟩,f9 (K:=K) (a:=q) (xs:=[.ref t1,.ref t2]) (fun i σ' H'=>Same H3 H'∧∃ o5 o6 o7 o8 o9:Option V,σ' = [some (.ref l),some (.ref m),some (.ref d),some (.ref e),some (.bl (dueB ps qs S S' i)),o5,o6,o7,o8,o9])
   ⟨Same.refl _,none,none,none,none,none,rfl⟩ (fun i σ' H' _ ⟨e,_⟩=>SqL.of (e _ _ k3)) ?_ ?_⟩
  ·rintro i v σ' H4 hv ⟨s4,o5,o6,o7,o8,o9,rfl⟩
   obtain⟨t,l1,m1,d1,mine,theirs,Sx,rfl,ht,hM,hTh,hTb,hSx,hB⟩ : ∃ (t l1 m1 d1:Addr) (mine theirs:List (Nat×Nat)) (Sx:List (List Nat)),v = .ref t∧H3 t=some (.tup [.ref l1,.ref m1,.ref d1])∧dg H l1 mine∧dg H m1 theirs∧iw H d1 Sx∧(∀ y∈Sx,y.length≤900)∧∀ j,(j=mine.length∨j=Sx.length)→(dueB ps qs S S' i && preB theirs mine Sx j)=dueB ps qs S S' (i+1):=by
    match i,hv with
    | 0,hv=>cases hv;exact⟨t1,l,m,d,ps,qs,S,rfl,k1',hP,hP',hT,hS,fun j h=>due1 h⟩
    | 1,hv=>cases hv;exact⟨t2,m,l,e,qs,ps,S',rfl,k2',hP',hP,hT',hS',fun j h=>due2 h⟩
    | i+2,hv=>cases hv
   have s04:=s03.trans s4
   have hM4:=hM.same s04
   have hTb4:=hTb.same s04
   obtain⟨tm,hlm,hmm⟩:=id hM4
   obtain⟨td,hdd,hdr⟩:=id hTb4
   have lm:(tm.map V.ref).length=mine.length:=by rw[List.length_map];exact hmm.len
   have ldd:(td.map V.ref).length=Sx.length:=by rw[List.length_map];exact hdr.len
   refine⟨t,_,rfl,SqT.of (s4 _ _ ht),rfl,_,_,rfl,_,_,rfl,_,_,rfl,rfl,?_⟩
   refine⟨_,rfl,_,rfl,l1,d1,rfl,⟨_,SqL.of hlm⟩,⟨_,SqL.of hdd⟩,aol (K:=K) (a:=l1) (b:=d1) (xs:=tm.map V.ref) (zs:=td.map V.ref) (fun j σ' H'=>Same H4 H'∧∃ o8 o9:Option V,σ' = [some (.ref l),some (.ref m),some (.ref d),some (.ref e),some (.bl (dueB ps qs S S' i && preB theirs mine Sx j)),some (.ref l1),some (.ref m1),some (.ref d1),o8,o9])
    ⟨Same.refl _,o8,o9,by rw[show preB theirs mine Sx 0=true from rfl,Bool.and_true];rfl⟩ (fun j σ' H' _ _ ⟨e,_⟩=>⟨e _ _ hlm,e _ _ hdd⟩) ?_ ?_⟩
   ·rintro j x z σ' H5 tz hx hz ⟨s5,o8,o9,rfl⟩ htz
    obtain⟨t',q',rfl,hq',ht'⟩:=(hmm.same s5).get hx
    obtain⟨u,y,rfl,hy,hu⟩:=(hdr.same s5).get hz
    have s6:Same H5 (upd H5 tz (.tup [.ref t',.ref u])):=Same.new htz
    refine⟨tz,_,rfl,SqT.of au,rfl,_,_,rfl,_,_,rfl,rfl,?_⟩
    generalize upd H5 tz (.tup [.ref t',.ref u])=H6 at s6 ⊢
    refine⟨_,rfl,_,rfl,?_⟩
    cases hb:(dueB ps qs S S' i && preB theirs mine Sx j) with
    | false =>
     refine iteF ⟨s5.trans s6,some (.ref t'),some (.ref u),?_⟩
     rw[aer hq' hy,← Bool.and_assoc,hb]
     rfl
    | true =>
     refine iteT ⟨_,rfl,_,rfl,t',_,0,_,rfl,rfl,SqT.of (s6 _ _ ht'),rfl,_,rfl,t',_,1,_,rfl,rfl,SqT.of (s6 _ _ ht'),rfl,_,rfl,m1,u,q'.1,q'.2,theirs,y,rfl,hTh.same (s04.trans (s5.trans s6)),s6 _ _ hu,hSx y (List.mem_of_getElem? hy),fun H7 s7=>⟨(s5.trans s6).trans s7,some (.ref t'),some (.ref u),?_⟩⟩
     rw[aer hq' hy,← Bool.and_assoc,hb]
     rfl
   ·rintro j σ' H5 hj hj1 hj2 ⟨s5,o8,o9,rfl⟩
    rw[lm,ldd] at hj
    exact⟨s4.trans s5,_,_,_,_,_,by rw[hB j hj]⟩
  ·rintro σ' H4 ⟨s4,o5,o6,o7,o8,o9,rfl⟩
   exact⟨_,rfl,k H4 (s03.trans s4)⟩
end
end K12
namespace K12
open PySem L2 TC
def aaS (C:Addr):Sp:=fun vs H Q _=>∃ (p dx l m:Addr) (S S':List (List Nat)),vs = [.ref p,.ref l,.ref m]∧H p=some (.ins C dx [])∧iw H l S∧S.length≤64∧iw H m S'∧S'.length≤64 ∧
 ∀ (a b:Addr) (us us':List Addr) (H':Hp),H a=none→H b=none→a≠b→(∀ t∈us,H t=none∧t≠a∧t≠b)→(∀ t∈us',H t=none∧t≠a∧t≠b)→(∃ dx,H' p=some (.ins C dx (fldK a b)))→H' a=some (.lst (us.map V.ref))→Rws H' us S→H' b=some (.lst (us'.map V.ref))→Rws H' us' S'→(∀ b o,H b=some o→b≠p→H' b=some o)→Q .non H'
section
variable {P:Program} {w:World} {K:W.Frag} {mg:Str→Option Value} {base:Heap} {A:Adr}
theorem aaT (T:Txt K mg A):FnOk P w K mg base CX0 1 A.iJ A.Dp ["self", "there", "back"] (aaS A.cM):=by
 refine T.afr.ok acO (fun vs H Q E h=>?_) (fun cdv A' outer s H vs Q E hr h=>?_)
 ·obtain⟨p,dx,l,m,S,S',rfl,_⟩:=h;rfl
 ·obtain⟨p,dx,l,m,S,S',rfl,hp,⟨ts,hl,hR⟩,h64,⟨ts',hm,hR'⟩,h64',k⟩:=h
  have hln:(ts.map V.ref).length=S.length:=by rw[List.length_map];exact hR.len
  have hln':(ts'.map V.ref).length=S'.length:=by rw[List.length_map];exact hR'.len
  refine⟨_,(aq (jY K (pv 0) (cP ["self", "there", "back"] (ak d9) ["places"] [none] ⟨rfl,by decide +kernel,by decide +kernel,by decide +kernel,by decide +kernel,by decide +kernel⟩ rfl (bI K (pv 1)) (fun _ _ _ _ _=>(aO (i:=0) (by show List.Nodup (["places"]:List Str);decide +kernel) rfl (Or.inl rfl) (Or.inr rfl))) (fun _ _ _ _ _=>cG) (fun _ _ _ _ _=>(cC (cg K) rfl T.dZ dh (aj (pv 0) ao)))))
   (aB (jY K (pv 0) (cP ["self", "there", "back"] (ak d9) ["places"] [none] ⟨rfl,by decide +kernel,by decide +kernel,by decide +kernel,by decide +kernel,by decide +kernel⟩ rfl (bI K (pv 2)) (fun _ _ _ _ _=>(aO (i:=0) (by show List.Nodup (["places"]:List Str);decide +kernel) rfl (Or.inl rfl) (Or.inr rfl))) (fun _ _ _ _ _=>cG) (fun _ _ _ _ _=>(cC (cg K) rfl T.dZ dh (aj (pv 0) ao))))))),?_⟩
  refine⟨_,rfl,l,rfl,⟨_,SqL.of hl⟩,fun D hD=>cO (xs:=ts.map V.ref) (fun i ys H'=>Same H H'∧i≤S.length∧∃ us:List Addr,ys=us.map V.ref∧Rws H' us (S.take i)∧∀ t∈us,t≠D∧H t=none) ⟨Same.new hD,Nat.zero_le _,[],rfl,trivial,fun t ht=>by simp at ht⟩ (fun i ys H' _ ⟨e,_⟩=>SqL.of (e _ _ hl)) ?_ ?_⟩
  ·rintro i x ys H' hx ⟨se,hi,us,rfl,hU,hn⟩ hDl
   obtain⟨t,y,rfl,hy,ht⟩:=(hR.same se).get hx
   have hi':i<S.length:=(List.getElem?_eq_some_iff.mp hy).1
   refine dF ?_
   refine⟨_,rfl,t,nums y,rfl,.inl (SqL.of ht),fun e he=>?_⟩
   have s2:Same H' (upd H' e (.lst (nums y))):=Same.new he
   have neD:e≠D:=fun z=>by rw[z,hDl] at he;cases he
   refine CE1.mk (s2 _ _ hDl) (aP (by rw[List.length_map,hU.len,List.length_take];omega)) ⟨Same.up (se.trans s2) hD,hi',us++[e],by rw[List.map_append];rfl,?_,fun t ht=>?_⟩
   ·rw[List.take_add_one,hy]
    refine Rws.upd (Rws.snoc au (hU.same s2)) fun z=>?_
    rcases List.mem_append.mp z with z | z
    ·exact(hn _ z).1 rfl
    ·exact neD (List.mem_singleton.mp z).symm
   ·rcases List.mem_append.mp ht with z | z
    ·exact hn t z
    ·rw[List.mem_singleton.mp z];exact⟨neD,se.free he⟩
  rintro ys H1 ⟨s1,_,us,rfl,hU,hn⟩ hDl
  rw[hln,List.take_length] at hU
  have hp1:=s1 _ _ hp
  have npD:D≠p:=fun z=>by rw[z,hp] at hD;cases hD
  refine⟨_,rfl,p,A.cM,dx,[],rfl,hp1,T.lH,T.dX,by show 0 < 1000;decide,?_⟩
  have npu:p∉us:=fun z=>by have:=(hn p z).2;rw[hp] at this;cases this
  have nmp:m≠p:=iG hm hp (by intro z;cases z)
  have hm2:(upd H1 p (.ins A.cM dx (putF "there" (.ref D) []))) m=some (.lst (ts'.map V.ref)):=by rw[aG nmp];exact s1 _ _ hm
  have hD2:(upd H1 p (.ins A.cM dx (putF "there" (.ref D) []))) D=some (.lst (us.map V.ref)):=by rw[aG npD];exact hDl
  have hU2:Rws (upd H1 p (.ins A.cM dx (putF "there" (.ref D) []))) us S:=Rws.upd hU npu
  have hp2:(upd H1 p (.ins A.cM dx (putF "there" (.ref D) []))) p=some (.ins A.cM dx (putF "there" (.ref D) [])):=au
  have npt:p∉ts':=fun z=>by
   obtain⟨j,hj⟩:=List.mem_iff_getElem?.mp z
   obtain⟨t',r',e1,e2,e3⟩:=hR'.get (i:=j) (v:=.ref p) (by rw[List.getElem?_map,hj];rfl)
   injection e1 with e1
   rw[← e1,hp] at e3
   cases e3
  have hR2:Rws (upd H1 p (.ins A.cM dx (putF "there" (.ref D) []))) ts' S':=Rws.upd (hR'.same s1) npt
  have kp2:∀ b o,H b=some o→b≠p→(upd H1 p (.ins A.cM dx (putF "there" (.ref D) []))) b=some o:=fun b o hb n=>by rw[aG n];exact s1 _ _ hb
  have fr2:∀ b,(upd H1 p (.ins A.cM dx (putF "there" (.ref D) []))) b=none→H b=none:=fun b hb=>by
   by_cases z:b=p
   ·rw[z,hp2] at hb;cases hb
   ·rw[aG z] at hb;exact s1.free hb
  generalize upd H1 p (.ins A.cM dx (putF "there" (.ref D) []))=H2 at hm2 hD2 hU2 hp2 hR2 kp2 fr2 ⊢
  refine⟨_,rfl,m,rfl,⟨_,SqL.of hm2⟩,fun E' hE=>cO (xs:=ts'.map V.ref) (fun i ys H'=>Same H2 H'∧i≤S'.length∧∃ us:List Addr,ys=us.map V.ref∧Rws H' us (S'.take i)∧∀ t∈us,t≠E'∧H2 t=none) ⟨Same.new hE,Nat.zero_le _,[],rfl,trivial,fun t ht=>by simp at ht⟩ (fun i ys H' _ ⟨e,_⟩=>SqL.of (e _ _ hm2)) ?_ ?_⟩
  ·rintro i x ys H' hx ⟨se,hi,us,rfl,hU,hn⟩ hDl
   obtain⟨t,y,rfl,hy,ht⟩:=(hR2.same se).get hx
   have hi':i<S'.length:=(List.getElem?_eq_some_iff.mp hy).1
   refine dF ?_
   refine⟨_,rfl,t,nums y,rfl,.inl (SqL.of ht),fun e he=>?_⟩
   have s2:Same H' (upd H' e (.lst (nums y))):=Same.new he
   have neD:e≠E':=fun z=>by rw[z,hDl] at he;cases he
   refine CE1.mk (s2 _ _ hDl) (aP (by rw[List.length_map,hU.len,List.length_take];omega)) ⟨Same.up (se.trans s2) hE,hi',us++[e],by rw[List.map_append];rfl,?_,fun t ht=>?_⟩
   ·rw[List.take_add_one,hy]
    refine Rws.upd (Rws.snoc au (hU.same s2)) fun z=>?_
    rcases List.mem_append.mp z with z | z
    ·exact(hn _ z).1 rfl
    ·exact neD (List.mem_singleton.mp z).symm
   ·rcases List.mem_append.mp ht with z | z
    ·exact hn t z
    ·rw[List.mem_singleton.mp z];exact⟨neD,se.free he⟩
  rintro ys H3 ⟨s3,_,us',rfl,hU',hn'⟩ hEl
  rw[hln',List.take_length] at hU'
  have hp3:=s3 _ _ hp2
  have npE:E'≠p:=fun z=>by rw[z,hp2] at hE;cases hE
  refine⟨_,rfl,p,A.cM,dx,_,rfl,hp3,T.lH,T.jk,by show 1 < 1000;decide,?_⟩
  have npu':p∉us':=fun z=>by have:=(hn' p z).2;rw[hp2] at this;cases this
  have a1:∀ t∈us,H t=none∧t≠D∧t≠E':=fun t ht=>⟨(hn t ht).2,(hn t ht).1,fun z=>by obtain⟨xs,w⟩:=hU2.there ht;rw[z,hE] at w;cases w⟩
  have a2:∀ t∈us',H t=none∧t≠D∧t≠E':=fun t ht=>⟨fr2 _ (hn' t ht).2,(fun z=>by have w:=(hn' t ht).2;rw[z,hD2] at w;cases w),(hn' t ht).1⟩
  refine k D E' us us' _ hD (fr2 _ hE) (aL hD2 hE) a1 a2 ⟨dx,au⟩ (by rw[aG npD];exact s3 _ _ hD2) (Rws.upd (hU2.same s3) npu) (by rw[aG npE];exact hEl) (Rws.upd hU' npu') fun q o hq hqp=>?_
  rw[aG hqp]
  exact s3 _ _ (kp2 q o hq hqp)
end
end K12
namespace K12
open PySem L2 TC
def amr (CR CK:Addr):Sp:=fun vs H Q _=>∃ (p m p' m' x a b:Addr) (us us':List Addr) (cell:Int) (c:Nat) (ps qs:List (Nat×Nat)) (S S':List (List Nat)),vs = [.ref p,.ref p',.ref x,.int cell]∧bV CR H p m c ps∧Good c ps∧bV CR H p' m' c qs∧Good c qs ∧
 (∃ dx,H x=some (.ins CK dx (fldK a b)))∧H a=some (.lst (us.map V.ref))∧Rws H us S∧H b=some (.lst (us'.map V.ref))∧Rws H us' S'∧(∀ y∈S,y.length≤64)∧(∀ y∈S',y.length≤64)∧a∉us∧a∉us'∧b≠a∧m≠a∧m'≠a∧∀ H',But [a] H H'→Q (.bl true) H'
section
variable {P:Program} {w:World} {K:W.Frag} {mg:Str→Option Value} {base:Heap} {A:Adr}
theorem Sq (T:Txt K mg A):FnOk P w K mg base CX0 11 A.eV A.rQ ["_law_one", "_law_other", "_law_answer", "_law_cell"] (amr A.bB A.cM):=by
 have aV:=cB (P:=P) (w:=w) (base:=base) T
 have cL:=lE (P:=P) (w:=w) (base:=base) T
 have u6:=Cy (P:=P) (w:=w) (base:=base) T
 have dB:=nQ (P:=P) (w:=w) (base:=base) T
 have Bc:=IV (P:=P) (w:=w) (base:=base) T
 refine T.Cm.ok xZ (fun vs H Q E h=>?_) (fun cdv A' outer s H vs Q E hr h=>?_)
 ·obtain⟨p,m,p',m',x,a,b,us,us',cell,c,ps,qs,S,S',rfl,_⟩:=h;rfl
 ·obtain⟨p,m,p',m',x,a,b,us,us',cell,c,ps,qs,S,S',rfl,hR,hG,hR',hG',⟨dx,hx⟩,ha,hRw,hb,hRw',hSr,hSr',nau,nau',nba,nma,nma',k⟩:=h
  obtain⟨⟨dp,hp⟩,_⟩:=id hR
  obtain⟨⟨dp',hp'⟩,_⟩:=id hR'
  have hz:wZ H [a]:=fun q hq=>by rw[List.mem_singleton.mp hq];exact⟨_,ha⟩
  have nxa:x∉[a]:=hz.out hx (by intro xs z;cases z)
  have ni:∀ {z:Addr},z≠a→z∉[a]:=fun h w=>h (List.mem_singleton.mp w)
  refine⟨_,(aq (bN (bA (oR hr.units) (aR K (pv 2)) (cD ao) (bF _)) (aB (Ph (cD (aj (aC cL (hr.mono (by decide)) rfl T.gm T.fU.kp T.gj .nil aH (aj (pv 3) (aj aA (aj (bw eF (aW (bM K) rfl T.gh dH (aj (eG (pv 1) T.bL T.bH aV (hr.mono (by decide)) T.bO .nil aH) ao)) aA) ao)))) ao)) (aeS (aR K (pv 2)) aA set_list))) aU)
   (aq (aQ (i:=4) xZ.nd rfl (Or.inl rfl) (aC u6 (hr.mono (by decide)) rfl T.GX T.u0.kp T.GR .nil aH (aj (eG (pv 0) T.bL T.bH aV (hr.mono (by decide)) T.bO .nil aH) (aj (eG (pv 1) T.bL T.bH aV (hr.mono (by decide)) T.bO .nil aH) (aj (aR K (pv 2)) (aj (aR K (pv 2)) ao))))))
   (aB (aM (aC dB (hr.mono (by decide)) rfl T.jw T.iC.kp T.ju .nil aH (aj (nU (pv 2) T.lH T.Ib Bc (hr.mono (by decide)) T.MF .nil aH (aj (pv 0) (aj (pv 1) ao))) (aj (pv 4) ao))))))),?_⟩
  suffices rest:∀ (H1:Hp) (us:List Addr) (S:List (List Nat)),But [a] H H1→H1 a=some (.lst (us.map V.ref))→Rws H1 us S→(∀ y∈S,y.length≤64) →
    tSeq _ _ { nx:=fun x H'=>Q V.non H',rt:=Q } [some (.ref p),some (.ref p'),some (.ref x),some (.int cell),none] H1 by
   refine⟨_,rfl,x,A.cM,dx,_,_,rfl,hx,T.lH,T.dX,wW _ _,Nat.zero_le _,fun z hz=>?_⟩
   have s7:Same H (upd H z (.lst [])):=Same.new hz
   refine⟨.list (S.map rowD),.list (([]:List (List Nat)).map rowD),su ⟨us,s7 _ _ ha,hRw.same s7⟩,.lst au .nil,iz _,rfl,Cw S,_,rfl,?_⟩
   rw[if_pos rfl,p7]
   by_cases hS0:S = []
   ·rw[decide_eq_true hS0]
    exact iteF (rest _ us S (But.same s7) (s7 _ _ ha) (hRw.same s7) hSr)
   rw[decide_eq_false hS0]
   refine iteT ?_
   obtain⟨y0,S1,rfl⟩ : ∃ y0 S1,S=y0::S1:=by cases S with | nil=>exact absurd rfl hS0 | cons y S=>exact⟨y,S,rfl⟩
   obtain⟨t0,us1,rfl⟩ : ∃ t0 us1,us=t0::us1:=by cases us with | nil=>exact hRw.elim | cons t ts=>exact⟨t,ts,rfl⟩
   generalize upd H z (.lst [])=H7 at s7 ⊢
   refine⟨_,rfl,_,rfl,p',dp',_,rfl,s7 _ _ hp',iB _ _ (by decide +kernel) (by decide +kernel),p',m',c,qs,rfl,hR'.same s7,fun f tf hf htf=>?_⟩
   have s8:Same H7 (upd H7 f (.lst (tf.map V.ref))):=Same.new hf
   have hlf:(tf.map V.ref).length=qs.length:=by rw[List.length_map];exact htf.len
   have hq64:=hG'.2.2.1
   refine⟨f,_,rfl,.inl (SqL.of au),_,1,rfl,rfl,cell,6,qs.length+1,by rw[hlf];rfl,by omega,by omega,fun n hn=>⟨by show 1≤sizeLine;decide,fun g hg=>?_⟩⟩
   generalize upd H7 f (.lst (tf.map V.ref))=H8 at s8 hg ⊢
   have s9:Same H8 (upd H8 g (.lst [.int (n:Nat)])):=Same.new hg
   have kg:(upd H8 g (.lst [.int (n:Nat)])) g=some (.lst (nums [n])):=au
   generalize upd H8 g (.lst [.int (n:Nat)])=H9 at s9 kg ⊢
   have s09:=s7.trans (s8.trans s9)
   have ha9:=s09 _ _ ha
   have nag:a≠g:=aL ((s7.trans s8) _ _ ha) hg
   refine⟨_,rfl,x,A.cM,dx,_,_,rfl,s09 _ _ hx,T.lH,T.dX,wW _ _,a,_,(0:Int),0,rfl,rfl,ha9,(Zb (n:=((t0::us1).map V.ref).length) (j:=0) (by rw[List.length_map];exact Nat.succ_pos _)),?_⟩
   refine rest _ (g::us1) ([n]::S1) ((But.same s09).upd List.mem_cons_self) au (Rws.upd ⟨kg,(hRw.same s09).2⟩ fun z=>?_) fun y hy=>?_
   ·rcases List.mem_cons.mp z with z | z
    ·exact nag z
    ·exact nau (List.mem_cons_of_mem _ z)
   ·rcases List.mem_cons.mp hy with rfl | hy
    ·show 1≤64;decide
    ·exact hSr y (List.mem_cons_of_mem _ hy)
  intro H1 us S b1 ha1 hRw1 hSr
  have hx1:=b1 _ _ hx nxa
  have hR1:=hR.butL hz b1 (ni nma)
  have hR1':=hR'.butL hz b1 (ni nma')
  have hb1:=b1 _ _ hb (ni nba)
  have ao3:=hRw'.butL b1 fun t ht=>ni fun z=>nau' (by rw[← z];exact ht)
  obtain⟨⟨dp,hp⟩,_⟩:=id hR1
  obtain⟨⟨dp',hp'⟩,_⟩:=id hR1'
  refine⟨_,rfl,p,dp,_,rfl,hp,iB _ _ (by decide +kernel) (by decide +kernel),p,m,c,ps,rfl,hR1,fun f tf hf htf=>?_⟩
  have s2:Same H1 (upd H1 f (.lst (tf.map V.ref))):=Same.new hf
  have hP2:dg (upd H1 f (.lst (tf.map V.ref))) f ps:=⟨tf,au,htf.same s2⟩
  generalize upd H1 f (.lst (tf.map V.ref))=H2 at s2 hP2 ⊢
  refine⟨_,rfl,p',dp',_,rfl,s2 _ _ hp',iB _ _ (by decide +kernel) (by decide +kernel),p',m',c,qs,rfl,hR1'.same s2,fun f' tf' hf' htf'=>?_⟩
  have s3:Same H2 (upd H2 f' (.lst (tf'.map V.ref))):=Same.new hf'
  have hP3:dg (upd H2 f' (.lst (tf'.map V.ref))) f' qs:=⟨tf',au,htf'.same s3⟩
  generalize upd H2 f' (.lst (tf'.map V.ref))=H3 at s3 hP3 ⊢
  have s13:=s2.trans s3
  have hx3:=s13 _ _ hx1
  refine⟨_,rfl,x,A.cM,dx,_,_,rfl,hx3,T.lH,T.dX,wW _ _,_,rfl,x,A.cM,dx,_,_,rfl,hx3,T.lH,T.jk,V7 _ _,f,f',a,b,ps,qs,S,S',rfl,hP2.same s3,hP3,⟨us,s13 _ _ ha1,hRw1.same s13⟩,⟨us',s13 _ _ hb1,ao3.same s13⟩,fun y hy=>by have:=hSr y hy;omega,fun y hy=>by have:=hSr' y hy;omega,fun H4 s4=>?_⟩
  have s14:=s13.trans s4
  refine⟨_,rfl,x,dx,_,rfl,s14 _ _ hx1,ak4 _ _ (by decide +kernel) (by decide +kernel),_,rfl,_,rfl,x,a,b,p,m,p',m',c,ps,qs,S,S',rfl,⟨⟨dx,s14 _ _ hx1⟩,⟨us,s14 _ _ ha1,hRw1.same s14⟩,⟨us',s14 _ _ hb1,ao3.same s14⟩⟩,hR1.same s14,hG,hR1'.same s14,hG',fun H5 s5=>⟨_,rfl,Qp ps qs S S',rfl,?_⟩⟩
  exact k H5 (b1.trans (But.same (s14.trans s5)))
end
end K12
namespace K12
open PySem L2 TC
def lenS (ps qs:List (Nat×Nat)) (sd:Nat):Nat:=if sd=0 then ps.length else if sd=1 then qs.length else 0
theorem afV {ps qs:List (Nat×Nat)} {sd:Nat} (h:sd < 2):lenS ps qs sd=(if sd=0 then ps else qs).length:=by
 have h:sd=0∨sd=1:=by omega
 rcases h with rfl | rfl <;> rfl
theorem ale {c:Nat} {ps qs:List (Nat×Nat)} {sd pl:Nat} {r1 r2:List Nat} {pr:Nat×Nat} (h:sd < 2) (hp:pl<(if sd=0 then ps else qs).length) (e:(if sd=0 then ps else qs)[pl]? = some pr):p6 c ps qs sd pl r1 r2=lrB c (if sd=0 then qs else ps) pr.1 pr.2 r1 r2:=by
 unfold p6
 rw[decide_eq_true (show sd≤1 by omega),decide_eq_true hp,getP e,← aj8]
 rfl
theorem aes {c:Nat} {ps qs:List (Nat×Nat)} {sd pl:Nat} {r1 r2:List Nat} (h:¬ sd < 2):p6 c ps qs sd pl r1 r2=false:=by
 unfold p6
 rw[decide_eq_false (show ¬ sd≤1 by omega)]
 rfl
theorem aeu {c:Nat} {ps qs:List (Nat×Nat)} {sd pl:Nat} {r1 r2:List Nat} (h:sd < 2) (hp:¬ pl<lenS ps qs sd):p6 c ps qs sd pl r1 r2=false:=by
 unfold p6
 rw[afV h] at hp
 rw[decide_eq_false hp,Bool.false_and,Bool.and_false]
def apD (sd pl:Nat) (r1 r2:List Nat):PyData:=.list [.int (sd:Nat),.int (pl:Nat),rowD r1,rowD r2]
theorem alf (sd pl:Nat) (r1 r2:List Nat):(apD sd pl r1 r2).canLay0=true:=by
 show(true && (true && ((rowD r1).canLay0 && ((rowD r2).canLay0 && true))))=true
 rw[eZ,eZ];rfl
theorem ams (sd pl:Nat) (r1 r2:List Nat):(apD sd pl r1 r2).depth≤60:=by
 show max 0 (max 0 (PyData.depthAll ([r1,r2].map rowD)))+1≤60
 have:=DX [r1,r2]
 omega
theorem aoG (sd pl:Nat) (r1 r2:List Nat):PyData.eqv (apD sd pl r1 r2) (apD sd pl r1 r2)=true:=by
 show(((sd:Int) == (sd:Int)) && (((pl:Int) == (pl:Int)) && (PyData.eqv (rowD r1) (rowD r1) && (PyData.eqv (rowD r2) (rowD r2) && true))))=true
 rw[pG,pG]
 simp
def amt (CR:Addr):Sp:=fun vs H Q _=>∃ (p m p' m':Addr) (cell:Int) (c:Nat) (ps qs:List (Nat×Nat)),vs = [.ref p,.ref p',.int cell,.int (c:Nat)]∧bV CR H p m c ps∧Good c ps∧bV CR H p' m' c qs∧Good c qs∧∀ H',Same H H'→Q (.bl true) H'
section
variable {P:Program} {w:World} {K:W.Frag} {mg:Str→Option Value} {base:Heap} {A:Adr}
theorem Ss (T:Txt K mg A):FnOk P w K mg base CX0 11 A.eX A.rR ["_law_one", "_law_other", "_law_cell", "_law_columns"] (amt A.bB):=by
 have aV:=cB (P:=P) (w:=w) (base:=base) T
 have cL:=lE (P:=P) (w:=w) (base:=base) T
 have jB:=wY (P:=P) (w:=w) (base:=base) T
 have sI:=Jb (P:=P) (w:=w) (base:=base) T
 have sH:=Qt (P:=P) (w:=w) (base:=base) T
 have dB:=nQ (P:=P) (w:=w) (base:=base) T
 have afW:=ac5 (P:=P) (w:=w) (base:=base) T
 have Nf:=aaM (P:=P) (w:=w) (base:=base) T
 refine T.Cp.ok bK (fun vs H Q E h=>?_) (fun cdv A' outer s H vs Q E hr h=>?_)
 ·obtain⟨p,m,p',m',cell,c,ps,qs,rfl,_⟩:=h;rfl
 ·obtain⟨p,m,p',m',cell,c,ps,qs,rfl,hR,hG,hR',hG',k⟩:=h
  obtain⟨⟨dp,hp⟩,_⟩:=id hR
  obtain⟨⟨dp',hp'⟩,_⟩:=id hR'
  have h64:2 ^ c≤64:=Nat.pow_le_pow_right (by decide) hG.2.1
  refine⟨_,(aq (Vt (i:=4) (j:=5) rfl bK.nd rfl rfl (by decide) rfl rfl (aj (eG (pv 0) T.bL T.bH aV (hr.mono (by decide)) T.bO .nil aH) (aj (eG (pv 1) T.bL T.bH aV (hr.mono (by decide)) T.bO .nil aH) ao)) rfl)
   (aq (aQ (i:=6) bK.nd rfl (Or.inl rfl) (bw mL (pv 2) aA))
   (aq (aQ (i:=7) bK.nd rfl (Or.inl rfl) (aC cL (hr.mono (by decide)) rfl T.gm T.fU.kp T.gj .nil aH (aj (pv 2) (aj aA (aj (bw eF (aW (bM K) rfl T.gh dH (aj (bh (aN K) (cD (aj (pv 4) (aj (pv 5) (aj (cD ao) ao)))) (pv 6) (fun _ _=>rfl)) ao)) aA) ao)))))
   (aq (Vt (i:=8) (j:=9) rfl bK.nd rfl rfl (by decide) rfl rfl (aj (aC jB (hr.mono (by decide)) rfl T.qD T.nY.kp T.qC .nil aH (aj (pv 2) (aj (pv 3) ao))) (aj (aC jB (hr.mono (by decide)) rfl T.qD T.nY.kp T.qC .nil aH (aj (bw eF (bw sY (pv 2) aA) aA) (aj (pv 3) ao))) ao)) rfl)
   (aq (aQ (i:=10) bK.nd rfl (Or.inl rfl) (cD (aj (cC (cg K) rfl T.dZ dh (aj (pv 8) ao)) (aj (cC (cg K) rfl T.dZ dh (aj (pv 9) ao)) ao))))
   (aq (aQ (i:=11) bK.nd rfl (Or.inl rfl) (pN T.Ie afW (hr.mono (by decide)) rfl T.aos T.afu .nil aH (aj (pv 6) (aj (pv 7) (aj (bh (aN K) (pv 10) aA (fun _ _=>rfl)) (aj (bh (aN K) (pv 10) aA (fun _ _=>rfl)) ao))))))
   (aq (cQ (cF K (bh (aN K) (pv 10) aA (fun _ _=>rfl)) (aj aA ao)))
   (aq (cQ (cF K (bh (aN K) (pv 10) aA (fun _ _=>rfl)) (aj aA ao)))
   (aq (bN (bA (oR hr.units) (cD (aj (aR K (pv 11)) (aj (aR K (pv 11)) (aj (aR K (pv 11)) (aj (aR K (pv 11)) ao))))) (cD (aj (pv 6) (aj (pv 7) (aj (pv 8) (aj (pv 9) ao))))) (bF _)) (aB (aM cH)) aU)
   (aq (aQ (i:=12) bK.nd rfl (Or.inl rfl) (pX (mj Zn (pv 6) aA (bF _)) (qF (mj Zn (pv 7) (aW (bM K) rfl T.gh dH (aj (bh (aN K) (cD (aj (pv 4) (aj (pv 5) (aj (cD ao) ao)))) (pv 6) (fun _ _=>rfl)) ao)) (bF _)))))
   (aq (bN (bG (pv 12)) (aq (Ph (bh (aN K) (bh (aN K) (cD (aj (pv 4) (aj (pv 5) ao))) (pv 6) (fun _ _=>rfl)) (pv 7) (fun _ _=>rfl)) (qH K (n:=2) rfl (cZ (aO (i:=13) bK.nd rfl (Or.inl rfl)) (cZ (aO (i:=14) bK.nd rfl (Or.inl rfl)) qG))))
   (aB (aQ (i:=12) bK.nd rfl (Or.inl rfl) (aC sI (hr.mono (by decide)) rfl T.DK T.wR.kp T.DG .nil aH (aj (bh (aN K) (cD (aj (pv 5) (aj (pv 4) ao))) (pv 6) (fun _ _=>rfl)) (aj (pv 3) (aj (pv 13) (aj (pv 14) (aj (pv 8) (aj (pv 9) ao)))))))))) aU)
   (aq (bN (bY (bG (aC dB (hr.mono (by decide)) rfl T.jw T.iC.kp T.ju .nil aH (aj (nU (pv 11) T.gb T.Ig Nf (hr.mono (by decide)) T.MJ .nil aH (aj (pv 0) (aj (pv 1) ao))) (aj (pv 12) ao))))) (aB (aM cH)) aU)
   (aq (cQ (aC sH (hr.mono (by decide)) rfl T.Ci T.wJ.kp T.Cg .nil aH (aj (aR K (pv 11)) (aj (pv 9) ao))))
   (aq (aQ (i:=12) bK.nd rfl (Or.inl rfl) (pX (mj Zn (pv 6) aA (bF _)) (qF (mj Zn (pv 7) (aW (bM K) rfl T.gh dH (aj (bh (aN K) (cD (aj (pv 4) (aj (pv 5) (aj (cD ao) ao)))) (pv 6) (fun _ _=>rfl)) ao)) (bF _)))))
   (aq (bN (bG (pv 12)) (aq (Ph (bh (aN K) (bh (aN K) (cD (aj (pv 4) (aj (pv 5) ao))) (pv 6) (fun _ _=>rfl)) (pv 7) (fun _ _=>rfl)) (qH K (n:=2) rfl (cZ (aO (i:=13) bK.nd rfl (Or.inl rfl)) (cZ (aO (i:=14) bK.nd rfl (Or.inl rfl)) qG))))
   (aB (aQ (i:=12) bK.nd rfl (Or.inl rfl) (aC sI (hr.mono (by decide)) rfl T.DK T.wR.kp T.DG .nil aH (aj (bh (aN K) (cD (aj (pv 5) (aj (pv 4) ao))) (pv 6) (fun _ _=>rfl)) (aj (pv 3) (aj (pv 13) (aj (pv 14) (aj (pv 9) (aj (pv 9) ao)))))))))) aU)
   (aB (aM (aC dB (hr.mono (by decide)) rfl T.jw T.iC.kp T.ju .nil aH (aj (nU (pv 11) T.gb T.Ig Nf (hr.mono (by decide)) T.MJ .nil aH (aj (pv 0) (aj (pv 1) ao))) (aj (pv 12) ao)))))))))))))))))))),?_⟩
  refine⟨_,rfl,p,dp,_,rfl,hp,iB _ _ (by decide +kernel) (by decide +kernel),p,m,c,ps,rfl,hR,fun f tf hf htf=>?_⟩
  have s1:Same H (upd H f (.lst (tf.map V.ref))):=Same.new hf
  have hf1:(upd H f (.lst (tf.map V.ref))) f=some (.lst (tf.map V.ref)):=au
  generalize upd H f (.lst (tf.map V.ref))=H1 at s1 hf1 ⊢
  refine⟨_,rfl,p',dp',_,rfl,s1 _ _ hp',iB _ _ (by decide +kernel) (by decide +kernel),p',m',c,qs,rfl,hR'.same s1,fun g tg hg htg=>⟨_,_,rfl,?_⟩⟩
  have s2:Same H1 (upd H1 g (.lst (tg.map V.ref))):=Same.new hg
  have hg2:(upd H1 g (.lst (tg.map V.ref))) g=some (.lst (tg.map V.ref)):=au
  generalize upd H1 g (.lst (tg.map V.ref))=H2 at s2 hg2 ⊢
  have hlf:(tf.map V.ref).length=ps.length:=by rw[List.length_map];exact htf.len
  have hlg:(tg.map V.ref).length=qs.length:=by rw[List.length_map];exact htg.len
  refine⟨_,rfl,cell,3,rfl,rfl,(by show(0:Int) < 3;decide),?_⟩
  obtain⟨sd,hsd,hsd3⟩ : ∃ sd:Nat,cell % 3=(sd:Int)∧sd < 3:=⟨(cell % 3).toNat,by omega,by omega⟩
  rw[show(fun i j:Int=>V.int (i % j)) cell 3=V.int (sd:Int) from congrArg V.int hsd]
  have pick:∀ {H':Hp} {z:Addr},H' f=some (.lst (tf.map V.ref))→H' g=some (.lst (tg.map V.ref))→H' z=some (.lst [])→∃ (v:Addr) (xs:List V),([V.ref f,V.ref g,V.ref z]:List V)[sd]? = some (.ref v)∧H' v=some (.lst xs)∧xs.length=lenS ps qs sd:=fun {H' z} a b d=>by
   have h:sd=0∨sd=1∨sd=2:=by omega
   rcases h with rfl | rfl | rfl
   ·exact⟨f,_,rfl,a,hlf⟩
   ·exact⟨g,_,rfl,b,hlg⟩
   ·exact⟨z,_,rfl,d,rfl⟩
  have hq64:=hG'.2.2.1
  have hp64:=hG.2.2.1
  have hlS:lenS ps qs sd≤64:=by
    unfold lenS;split;· exact hp64
    split;· exact hq64
    exact Nat.zero_le _
  have hGo1:Good c (if sd=0 then ps else qs):=by split <;> assumption
  have hGo2:Good c (if sd=0 then qs else ps):=by split <;> assumption
  refine⟨_,rfl,_,rfl,_,rfl,Nat.zero_le _,fun z hz=>⟨by show 3≤sizeLine;decide,fun q hq=>?_⟩⟩
  have s3:Same H2 (upd H2 z (.lst [])):=Same.new hz
  have kz:(upd H2 z (.lst [])) z=some (.lst []):=au
  generalize upd H2 z (.lst [])=H3 at s3 kz hq ⊢
  have s4:Same H3 (upd H3 q (.lst [.ref f,.ref g,.ref z])):=Same.new hq
  have kq:(upd H3 q (.lst [.ref f,.ref g,.ref z])) q=some (.lst [.ref f,.ref g,.ref z]):=au
  generalize upd H3 q (.lst [.ref f,.ref g,.ref z])=H4 at s4 kq ⊢
  have s24:=s3.trans s4
  obtain⟨v,xs,ev,hv,hxl⟩:=pick (s24 _ _ (s2 _ _ hf1)) (s24 _ _ hg2) (s4 _ _ kz)
  refine⟨_,rfl,q,_,(sd:Int),_,rfl,rfl,SqL.of kq,bJ ev,v,_,rfl,.inl (SqL.of hv),_,1,rfl,rfl,cell,4,lenS ps qs sd+1,by rw[hxl];rfl,by omega,by omega,fun pl hpl0=>?_⟩
  refine⟨_,rfl,_,rfl,cell,c,rfl,hG.1,hG.2.1,fun e1 r1 H6 he1 s6 h16 hl1 hv1=>?_⟩
  refine⟨_,rfl,cell,5,rfl,rfl,⟨by decide,by decide⟩,_,3,rfl,rfl,_,rfl,_,c,rfl,hG.1,hG.2.1,fun e2 r2 H7 he2 s7 h2 hl2 hv2=>⟨_,_,rfl,?_⟩⟩
  have h1:=s7 _ _ h16
  have s27:=s24.trans (s6.trans s7)
  have s07:=s1.trans (s2.trans s27)
  have hf7:=s27 _ _ (s2 _ _ hf1)
  have hg7:=s27 _ _ hg2
  have two:sd < 2→∃ v1 v2:Addr,([V.ref f,V.ref g]:List V)[sd]? = some (.ref v1)∧([V.ref g,V.ref f]:List V)[sd]? = some (.ref v2)∧dg H7 v1 (if sd=0 then ps else qs)∧dg H7 v2 (if sd=0 then qs else ps):=fun hs=>by
   have e1:dg H7 f ps:=⟨tf,hf7,htf.same s07⟩
   have e2:dg H7 g qs:=⟨tg,hg7,htg.same (s2.trans s27)⟩
   have h:sd=0∨sd=1:=by omega
   rcases h with rfl | rfl
   ·exact⟨f,g,rfl,rfl,e1,e2⟩
   ·exact⟨g,f,rfl,rfl,e2,e1⟩
  clear hq kz kq hv ev hz s3 s4 z q v xs hxl
  refine⟨_,rfl,e1,nums r1,rfl,.inl (SqL.of h1),fun g1 hg1=>?_⟩
  have u1:Same H7 (upd H7 g1 (.lst (nums r1))):=Same.new hg1
  have k1:(upd H7 g1 (.lst (nums r1))) g1=some (.lst (nums r1)):=au
  generalize upd H7 g1 (.lst (nums r1))=H9 at u1 k1 ⊢
  refine⟨_,rfl,e2,nums r2,rfl,.inl (SqL.of (u1 _ _ h2)),fun g2 hg2=>⟨by show 2≤sizeLine;decide,fun q hq=>?_⟩⟩
  have u2:Same H9 (upd H9 g2 (.lst (nums r2))):=Same.new hg2
  have k2:(upd H9 g2 (.lst (nums r2))) g2=some (.lst (nums r2)):=au
  have n12:g1≠g2:=aL k1 hg2
  generalize upd H9 g2 (.lst (nums r2))=H10 at u2 k2 hq ⊢
  have u3:Same H10 (upd H10 q (.lst [.ref g1,.ref g2])):=Same.new hq
  have k3:(upd H10 q (.lst [.ref g1,.ref g2])) q=some (.lst [.ref g1,.ref g2]):=au
  have nq1:q≠g1:=fun z=>by rw[z,u2 _ _ k1] at hq;cases hq
  have nq2:q≠g2:=fun z=>by rw[z,k2] at hq;cases hq
  generalize upd H10 q (.lst [.ref g1,.ref g2])=H11 at u3 k3 ⊢
  have hg1H:H7 g1=none:=hg1
  have hg2H:H7 g2=none:=u1.free hg2
  have u11:=u1.trans (u2.trans u3)
  have k1':=u3 _ _ (u2 _ _ k1)
  have k2':=u3 _ _ k2
  refine⟨_,rfl,_,rfl,_,rfl,q,_,0,_,rfl,rfl,SqL.of k3,rfl,_,rfl,q,_,1,_,rfl,rfl,SqL.of k3,rfl,fun x dx nx ndx nex=>?_⟩
  have v1:Same H11 (upd (upd H11 dx (.own x)) x (.ins A.cA dx [])):=Same.up (Same.new ndx) nx
  refine⟨x,dx,g1,g2,sd,pl,r1,r2,rfl,au,v1 _ _ k1',v1 _ _ k2',fun a b H12 ha hb nab hAp kp=>⟨rfl,?_⟩⟩
  have v2:Same H11 H12:=fun b o e=>kp b o (v1 b o e) (aL e nx)
  obtain⟨⟨dxx,hxx⟩,haa,hbb⟩:=id hAp
  have na1:a≠g1:=fun z=>by rw[z,v1 _ _ k1'] at ha;cases ha
  have na2:a≠g2:=fun z=>by rw[z,v1 _ _ k2'] at ha;cases ha
  have nb1:b≠g1:=fun z=>by rw[z,v1 _ _ k1'] at hb;cases hb
  have nb2:b≠g2:=fun z=>by rw[z,v1 _ _ k2'] at hb;cases hb
  have k1'':=v2 _ _ k1'
  have k2'':=v2 _ _ k2'
  have k3'':=v2 _ _ k3
  have nx1:x≠g1:=iG hxx k1'' (by intro z;cases z)
  have nx2:x≠g2:=iG hxx k2'' (by intro z;cases z)
  refine⟨_,rfl,q,_,0,_,rfl,rfl,SqL.of k3'',rfl,.inl ⟨rfl,_,SqL.of k1''⟩,g1,_,_,rfl,rfl,k1'',aP (by rw[aY];omega),?_⟩
  have kq:(upd H12 g1 (.lst (nums r1++[.int 0]))) q=some (.lst [.ref g1,.ref g2]):=by rw[aG nq1];exact k3''
  refine⟨_,rfl,q,[.ref g1,.ref g2],1,.ref g2,rfl,rfl,SqL.of kq,rfl,.inl ⟨rfl,_,SqL.of (show(upd H12 g1 (.lst (nums r1++[.int 0]))) g2=_ by rw[aG n12.symm];exact k2'')⟩,g2,_,_,rfl,rfl,(show(upd H12 g1 (.lst (nums r1++[.int 0]))) g2=_ by rw[aG n12.symm];exact k2''),aP (by rw[aY];omega),?_⟩
  have w1:Same H7 (upd (upd H12 g1 (.lst (nums r1++[.int 0]))) g2 (.lst (nums r2++[.int 0]))):=Same.up (Same.up (u11.trans v2) hg1H) hg2H
  have anM:DW A.cA (upd (upd H12 g1 (.lst (nums r1++[.int 0]))) g2 (.lst (nums r2++[.int 0]))) x a b sd pl r1 r2:=⟨⟨dxx,by rw[aG nx2,aG nx1];exact hxx⟩,by rw[aG na2,aG na1];exact haa,by rw[aG nb2,aG nb1];exact hbb⟩
  have haH:H7 a=none:=u11.free (v1.free ha)
  generalize upd (upd H12 g1 (.lst (nums r1++[.int 0]))) g2 (.lst (nums r2++[.int 0]))=H13 at w1 anM ⊢
  obtain⟨⟨dx3,hx3⟩,ha3,hb3⟩:=id anM
  refine⟨_,rfl,x,A.cA,dx3,_,_,rfl,hx3,T.gb,T.gQ,Lh _ _ _ _,_,rfl,x,A.cA,dx3,_,_,rfl,hx3,T.gb,T.ig,Qo _ _ _ _,_,rfl,x,A.cA,dx3,_,_,rfl,hx3,T.gb,T.jM,aaI _ _ _ _,_,rfl,x,A.cA,dx3,_,_,rfl,hx3,T.gb,T.jx,aaH _ _ _ _,by show 4≤sizeLine;decide,fun q1 hq1=>?_⟩
  have x1:Same H13 (upd H13 q1 (.lst [.int (sd:Nat),.int (pl:Nat),.ref a,.ref b])):=Same.new hq1
  have j1:(upd H13 q1 (.lst [.int (sd:Nat),.int (pl:Nat),.ref a,.ref b])) q1=some (.lst [.int (sd:Nat),.int (pl:Nat),.ref a,.ref b]):=au
  generalize upd H13 q1 (.lst [.int (sd:Nat),.int (pl:Nat),.ref a,.ref b])=H14 at x1 j1 ⊢
  refine⟨_,rfl,_,rfl,_,rfl,_,rfl,by show 4≤sizeLine;decide,fun q2 hq2=>?_⟩
  have x2:Same H14 (upd H14 q2 (.lst [.int (sd:Nat),.int (pl:Nat),.ref e1,.ref e2])):=Same.new hq2
  have j2:(upd H14 q2 (.lst [.int (sd:Nat),.int (pl:Nat),.ref e1,.ref e2])) q2=some (.lst [.int (sd:Nat),.int (pl:Nat),.ref e1,.ref e2]):=au
  generalize upd H14 q2 (.lst [.int (sd:Nat),.int (pl:Nat),.ref e1,.ref e2])=H15 at x2 j2 ⊢
  have x12:=x1.trans x2
  have w2:=w1.trans x12
  refine⟨apD sd pl r1 r2,apD sd pl r1 r2,.lst (x2 _ _ j1) (.cons (.int _) (.cons (.int _) (.cons (fZ (x12 _ _ ha3)) (.cons (fZ (x12 _ _ hb3)) .nil)))),.lst j2 (.cons (.int _) (.cons (.int _) (.cons (fZ (w2 _ _ h1)) (.cons (fZ (w2 _ _ h2)) .nil)))),alf _ _ _ _,alf _ _ _ _,ams _ _ _ _,_,rfl,?_⟩
  rw[if_pos rfl,aoG]
  refine iteF ?_
  have aqm:=anM.same x12
  clear hq1 hq2 j1 j2 q1 q2
  suffices fin:∀ (H':Hp) (o13 o14:Option V),Same H15 H'→tSeq _ _ { nx:=fun x H'=>Q V.non H',rt:=Q } [some (.ref p),some (.ref p'),some (.int cell),some (.int (c:Nat)),some (.ref f),some (.ref g),some (.int (sd:Nat)),some (.int (pl:Nat)),some (.ref e1),some (.ref e2),some (.ref q),some (.ref x),some (.bl (p6 c ps qs sd pl r1 r2)),o13,o14] H' by
   refine⟨_,rfl,(sd:Int),2,rfl,rfl,_,rfl,?_⟩
   by_cases hs2:sd < 2
   ·rw[decide_eq_true (show((sd:Nat):Int) < 2 by omega)]
    refine iteT ⟨_,rfl,_,rfl,_,rfl,Nat.zero_le _,fun z hz=>⟨by show 3≤sizeLine;decide,fun q hq=>?_⟩⟩
    have y1:Same H15 (upd H15 z (.lst [])):=Same.new hz
    have kz:(upd H15 z (.lst [])) z=some (.lst []):=au
    generalize upd H15 z (.lst [])=HX at y1 kz hq ⊢
    have y2:Same HX (upd HX q (.lst [.ref f,.ref g,.ref z])):=Same.new hq
    have kq:(upd HX q (.lst [.ref f,.ref g,.ref z])) q=some (.lst [.ref f,.ref g,.ref z]):=au
    generalize upd HX q (.lst [.ref f,.ref g,.ref z])=HY at y2 kq ⊢
    have y:=y1.trans y2
    have Sy:=w2.trans y
    obtain⟨v,xs,ev,hv,hxl⟩:=pick (Sy _ _ hf7) (Sy _ _ hg7) (y2 _ _ kz)
    refine⟨_,rfl,q,_,(sd:Int),_,rfl,rfl,SqL.of kq,bJ ev,v,_,rfl,.inl (SqL.of hv),(pl:Int),_,rfl,rfl,?_⟩
    rw[hxl]
    by_cases hpl:pl<lenS ps qs sd
    ·rw[show(fun i j:Int=>V.bl (decide (i<j))) (pl:Int) (lenS ps qs sd:Int)=V.bl true from congrArg V.bl (decide_eq_true (by omega))]
     refine⟨_,rfl,_,rfl,iteT ⟨_,rfl,_,rfl,by show 2≤sizeLine;decide,fun q' hq'=>?_⟩⟩
     have y3:Same HY (upd HY q' (.lst [.ref f,.ref g])):=Same.new hq'
     have kq':(upd HY q' (.lst [.ref f,.ref g])) q' = some (.lst [.ref f,.ref g]):=au
     generalize upd HY q' (.lst [.ref f,.ref g])=HZ at y3 kq' ⊢
     obtain⟨v1,v2,ev1,ev2,hP1,hP2⟩:=two hs2
     have Sz:=Sy.trans y3
     obtain⟨t1,hv1,ht1⟩:=hP1.same Sz
     rw[afV hs2] at hpl
     have hpt:pl<t1.length:=by rw[ht1.len];exact hpl
     have hget:(t1.map V.ref)[pl]? = some (.ref t1[pl]):=by rw[List.getElem?_map,List.getElem?_eq_getElem hpt];rfl
     obtain⟨t,pr,et,epr,ht⟩:=ht1.get hget
     rw[et] at hget
     have hprm:=hGo1.2.2.2 pr (List.mem_of_getElem? epr)
     refine⟨_,rfl,q',_,(sd:Int),_,rfl,rfl,SqL.of kq',bJ ev1,_,rfl,v1,_,(pl:Int),_,rfl,rfl,SqL.of hv1,bJ hget,t,_,rfl,SqT.of ht,rfl,_,_,rfl,_,_,rfl,rfl,?_⟩
     refine⟨_,rfl,_,rfl,by show 2≤sizeLine;decide,fun q2 hq2=>?_⟩
     have y4:Same HZ (upd HZ q2 (.lst [.ref g,.ref f])):=Same.new hq2
     have kq2:(upd HZ q2 (.lst [.ref g,.ref f])) q2=some (.lst [.ref g,.ref f]):=au
     generalize upd HZ q2 (.lst [.ref g,.ref f])=HW at y4 kq2 ⊢
     have Sw:=Sz.trans y4
     refine⟨_,rfl,q2,_,(sd:Int),_,rfl,rfl,SqL.of kq2,bJ ev2,_,rfl,_,rfl,_,rfl,_,rfl,_,rfl,v2,e1,e2,c,pr.1,pr.2,(if sd=0 then qs else ps),r1,r2,rfl,hG.2.1,hP2.same Sw,hGo2.2.2.1,(fun p hp=>⟨by have:=(hGo2.2.2.2 p hp).1;omega,by have:=(hGo2.2.2.2 p hp).2;omega⟩),Sw _ _ h1,Sw _ _ h2,by omega,by omega,by omega,by omega,fun H' s'=>?_⟩
     rw[← ale hs2 hpl epr]
     exact fin H' _ _ ((y.trans (y3.trans y4)).trans s')
    ·rw[show(fun i j:Int=>V.bl (decide (i<j))) (pl:Int) (lenS ps qs sd:Int)=V.bl false from congrArg V.bl (decide_eq_false (by omega))]
     refine⟨_,rfl,_,rfl,iteF ?_⟩
     have e:=fin HY none none y
     rw[aeu hs2 hpl] at e
     exact e
   ·rw[decide_eq_false (show ¬ ((sd:Nat):Int) < 2 by omega)]
    refine iteF ⟨_,rfl,_,rfl,iteF ?_⟩
    have e:=fin H15 none none (Same.refl _)
    rw[aes hs2] at e
    exact e
  intro H16 o13 o14 s16
  obtain⟨⟨dx4,hx4⟩,ha4,hb4⟩:=aqm.same s16
  have w3:=w2.trans s16
  have s016:=s07.trans w3
  refine⟨_,rfl,x,dx4,_,rfl,hx4,ak5 _ _ _ _ (by decide +kernel) (by decide +kernel) (by decide +kernel) (by decide +kernel),_,rfl,_,rfl,x,a,b,p,m,p',m',c,sd,pl,ps,qs,r1,r2,rfl,⟨⟨dx4,hx4⟩,ha4,hb4⟩,hR.same s016,hG,hR'.same s016,hG',fun H17 s17=>⟨_,rfl,p6 c ps qs sd pl r1 r2,rfl,_,rfl,iteF ?_⟩⟩
  have hx5:=s17 _ _ hx4
  have ha5:=s17 _ _ ha4
  have hb5:=s17 _ _ hb4
  have w4:=w3.trans s17
  have h25:=w4 _ _ h2
  have nae:a≠e2:=fun z=>by rw[z,h2] at haH;cases haH
  refine⟨_,rfl,x,A.cA,dx4,_,_,rfl,hx5,T.gb,T.jM,aaI _ _ _ _,_,rfl,a,e2,_,_,rfl,ha5,h25,nae,by rw[aY];omega,?_⟩
  have nxa:x≠a:=iG hx5 ha5 (by intro z;cases z)
  have ao4:DW A.cA (upd H17 a (.lst (nums r2))) x a b sd pl r2 r2:=⟨⟨dx4,by rw[aG nxa];exact hx5⟩,au,by rw[aG nab.symm];exact hb5⟩
  have w5:Same H7 (upd H17 a (.lst (nums r2))):=Same.up w4 haH
  generalize upd H17 a (.lst (nums r2))=H18 at ao4 w5 ⊢
  suffices fin2:∀ (H':Hp) (o13 o14:Option V),Same H18 H'→tSeq _ _ { nx:=fun x H'=>Q V.non H',rt:=Q } [some (.ref p),some (.ref p'),some (.int cell),some (.int (c:Nat)),some (.ref f),some (.ref g),some (.int (sd:Nat)),some (.int (pl:Nat)),some (.ref e1),some (.ref e2),some (.ref q),some (.ref x),some (.bl (p6 c ps qs sd pl r2 r2)),o13,o14] H' by
   refine⟨_,rfl,(sd:Int),2,rfl,rfl,_,rfl,?_⟩
   by_cases hs2:sd < 2
   ·rw[decide_eq_true (show((sd:Nat):Int) < 2 by omega)]
    refine iteT ⟨_,rfl,_,rfl,_,rfl,Nat.zero_le _,fun z hz=>⟨by show 3≤sizeLine;decide,fun q hq=>?_⟩⟩
    have y1:Same H18 (upd H18 z (.lst [])):=Same.new hz
    have kz:(upd H18 z (.lst [])) z=some (.lst []):=au
    generalize upd H18 z (.lst [])=HX at y1 kz hq ⊢
    have y2:Same HX (upd HX q (.lst [.ref f,.ref g,.ref z])):=Same.new hq
    have kq:(upd HX q (.lst [.ref f,.ref g,.ref z])) q=some (.lst [.ref f,.ref g,.ref z]):=au
    generalize upd HX q (.lst [.ref f,.ref g,.ref z])=HY at y2 kq ⊢
    have y:=y1.trans y2
    have Sy:=w5.trans y
    obtain⟨v,xs,ev,hv,hxl⟩:=pick (Sy _ _ hf7) (Sy _ _ hg7) (y2 _ _ kz)
    refine⟨_,rfl,q,_,(sd:Int),_,rfl,rfl,SqL.of kq,bJ ev,v,_,rfl,.inl (SqL.of hv),(pl:Int),_,rfl,rfl,?_⟩
    rw[hxl]
    by_cases hpl:pl<lenS ps qs sd
    ·rw[show(fun i j:Int=>V.bl (decide (i<j))) (pl:Int) (lenS ps qs sd:Int)=V.bl true from congrArg V.bl (decide_eq_true (by omega))]
     refine⟨_,rfl,_,rfl,iteT ⟨_,rfl,_,rfl,by show 2≤sizeLine;decide,fun q' hq'=>?_⟩⟩
     have y3:Same HY (upd HY q' (.lst [.ref f,.ref g])):=Same.new hq'
     have kq':(upd HY q' (.lst [.ref f,.ref g])) q' = some (.lst [.ref f,.ref g]):=au
     generalize upd HY q' (.lst [.ref f,.ref g])=HZ at y3 kq' ⊢
     obtain⟨v1,v2,ev1,ev2,hP1,hP2⟩:=two hs2
     have Sz:=Sy.trans y3
     obtain⟨t1,hv1,ht1⟩:=hP1.same Sz
     rw[afV hs2] at hpl
     have hpt:pl<t1.length:=by rw[ht1.len];exact hpl
     have hget:(t1.map V.ref)[pl]? = some (.ref t1[pl]):=by rw[List.getElem?_map,List.getElem?_eq_getElem hpt];rfl
     obtain⟨t,pr,et,epr,ht⟩:=ht1.get hget
     rw[et] at hget
     have hprm:=hGo1.2.2.2 pr (List.mem_of_getElem? epr)
     refine⟨_,rfl,q',_,(sd:Int),_,rfl,rfl,SqL.of kq',bJ ev1,_,rfl,v1,_,(pl:Int),_,rfl,rfl,SqL.of hv1,bJ hget,t,_,rfl,SqT.of ht,rfl,_,_,rfl,_,_,rfl,rfl,?_⟩
     refine⟨_,rfl,_,rfl,by show 2≤sizeLine;decide,fun q2 hq2=>?_⟩
     have y4:Same HZ (upd HZ q2 (.lst [.ref g,.ref f])):=Same.new hq2
     have kq2:(upd HZ q2 (.lst [.ref g,.ref f])) q2=some (.lst [.ref g,.ref f]):=au
     generalize upd HZ q2 (.lst [.ref g,.ref f])=HW at y4 kq2 ⊢
     have Sw:=Sz.trans y4
     refine⟨_,rfl,q2,_,(sd:Int),_,rfl,rfl,SqL.of kq2,bJ ev2,_,rfl,_,rfl,_,rfl,_,rfl,_,rfl,v2,e2,e2,c,pr.1,pr.2,(if sd=0 then qs else ps),r2,r2,rfl,hG.2.1,hP2.same Sw,hGo2.2.2.1,(fun p hp=>⟨by have:=(hGo2.2.2.2 p hp).1;omega,by have:=(hGo2.2.2.2 p hp).2;omega⟩),Sw _ _ h2,Sw _ _ h2,by omega,by omega,by omega,by omega,fun H' s'=>?_⟩
     rw[← ale hs2 hpl epr]
     exact fin2 H' _ _ ((y.trans (y3.trans y4)).trans s')
    ·rw[show(fun i j:Int=>V.bl (decide (i<j))) (pl:Int) (lenS ps qs sd:Int)=V.bl false from congrArg V.bl (decide_eq_false (by omega))]
     refine⟨_,rfl,_,rfl,iteF ?_⟩
     have e:=fin2 HY none none y
     rw[aeu hs2 hpl] at e
     exact e
   ·rw[decide_eq_false (show ¬ ((sd:Nat):Int) < 2 by omega)]
    refine iteF ⟨_,rfl,_,rfl,iteF ?_⟩
    have e:=fin2 H18 none none (Same.refl _)
    rw[aes hs2] at e
    exact e
  intro H19 o13 o14 s19
  obtain⟨⟨dx6,hx6⟩,ha6,hb6⟩:=ao4.same s19
  have s019:=s07.trans (w5.trans s19)
  refine⟨_,rfl,x,dx6,_,rfl,hx6,ak5 _ _ _ _ (by decide +kernel) (by decide +kernel) (by decide +kernel) (by decide +kernel),_,rfl,_,rfl,x,a,b,p,m,p',m',c,sd,pl,ps,qs,r2,r2,rfl,⟨⟨dx6,hx6⟩,ha6,hb6⟩,hR.same s019,hG,hR'.same s019,hG',fun H20 s20=>⟨_,rfl,p6 c ps qs sd pl r2 r2,rfl,k H20 (s019.trans s20)⟩⟩
end
end K12
namespace K12
open PySem L2 TC
def Jf (C:Addr) (H:Hp) (x a b:Addr) (us us':List Addr) (S S':List (List Nat)):Prop:=(∃ dx,H x=some (.ins C dx (fldK a b)))∧H a=some (.lst (us.map V.ref))∧Rws H us S∧H b=some (.lst (us'.map V.ref))∧Rws H us' S'
theorem Jf.same {C:Addr} {H H':Hp} {x a b:Addr} {us us':List Addr} {S S':List (List Nat)} (e:Same H H'):Jf C H x a b us us' S S'→Jf C H' x a b us us' S S':=fun ⟨⟨dx,h1⟩,h2,h3,h4,h5⟩=>⟨⟨dx,e _ _ h1⟩,e _ _ h2,h3.same e,e _ _ h4,h5.same e⟩
theorem Jf.upd {C v:Addr} {o:HO} {H:Hp} {x a b:Addr} {us us':List Addr} {S S':List (List Nat)} (n:v∉x::a::b::(us++us')):Jf C H x a b us us' S S'→Jf C (L2.upd H v o) x a b us us' S S':=fun ⟨⟨dx,h1⟩,h2,h3,h4,h5⟩=>by
 have n1:x≠v:=fun z=>n (by rw[z];exact List.mem_cons_self)
 have n2:a≠v:=fun z=>n (by rw[z];exact List.mem_cons_of_mem _ List.mem_cons_self)
 have n3:b≠v:=fun z=>n (by rw[z];exact List.mem_cons_of_mem _ (List.mem_cons_of_mem _ List.mem_cons_self))
 have n4:v∉us:=fun z=>n (List.mem_cons_of_mem _ (List.mem_cons_of_mem _ (List.mem_cons_of_mem _ (List.mem_append_left _ z))))
 have n5:v∉us':=fun z=>n (List.mem_cons_of_mem _ (List.mem_cons_of_mem _ (List.mem_cons_of_mem _ (List.mem_append_right _ z))))
 exact⟨⟨dx,by rw[aG n1];exact h1⟩,by rw[aG n2];exact h2,Rws.upd h3 n4,by rw[aG n3];exact h4,Rws.upd h5 n5⟩
theorem Jf.out {C v:Addr} {H:Hp} {x a b:Addr} {us us':List Addr} {S S':List (List Nat)} (h:Jf C H x a b us us' S S') (hv:H v=none):v∉x::a::b::(us++us'):=fun z=>by
 obtain⟨⟨dx,h1⟩,h2,h3,h4,h5⟩:=h
 rcases List.mem_cons.mp z with rfl | z
 ·rw[hv] at h1;cases h1
 ·rcases List.mem_cons.mp z with rfl | z
  ·rw[hv] at h2;cases h2
  ·rcases List.mem_cons.mp z with rfl | z
   ·rw[hv] at h4;cases h4
   ·rcases List.mem_append.mp z with z | z
    ·obtain⟨xs,e⟩:=h3.there z;rw[hv] at e;cases e
    ·obtain⟨xs,e⟩:=h5.there z;rw[hv] at e;cases e
def TB (H0 H:Hp) (D w:Addr) (us:List Addr) (S:List (List Nat)):Prop:=H0 w=none∧w≠D∧H w=some (.lst (us.map V.ref))∧Rws H us S∧w∉us∧∀ t∈us,H0 t=none∧t≠D
theorem TB.same {H0 H H':Hp} {D w:Addr} {us:List Addr} {S:List (List Nat)} (e:Same H H'):TB H0 H D w us S→TB H0 H' D w us S:=fun ⟨h1,h2,h3,h4,h5⟩=>⟨h1,h2,e _ _ h3,h4.same e,h5⟩
theorem TB.upd {H0 H:Hp} {D w:Addr} {o:HO} {us:List Addr} {S:List (List Nat)}:TB H0 H D w us S→TB H0 (L2.upd H D o) D w us S:=fun ⟨h1,h2,h3,h4,h5,h6⟩=>⟨h1,h2,by rw[aG h2];exact h3,Rws.upd h4 fun z=>(h6 _ z).2 rfl,h5,h6⟩
def JB (H0:Hp) (D:Addr) (S S':List (List Nat)):Nat→List V→Hp→Prop
 | 0,ys,_=>ys = []
 | 1,ys,H=>∃ (w1:Addr) (us1:List Addr),ys = [.ref w1]∧TB H0 H D w1 us1 S
 | _,ys,H=>∃ (w1 w2:Addr) (us1 us2:List Addr),ys = [.ref w1,.ref w2]∧TB H0 H D w1 us1 S∧TB H0 H D w2 us2 S'∧w1∉us2∧w2∉us1
def RwB (H0 H:Hp) (zs:List Addr) (i:Nat) (v:Addr):Prop:=H0 v=none∧v∉zs∧∃ xs:List V,H v=some (.lst xs)∧xs.length≤64+i
def amu (CR:Addr):Sp:=fun vs H Q _=>∃ (p m p' m':Addr) (cell:Int) (c:Nat) (ps qs:List (Nat×Nat)),vs = [.ref p,.ref p',.int cell,.int (c:Nat)]∧bV CR H p m c ps∧Good c ps∧bV CR H p' m' c qs∧Good c qs∧∀ H',Same H H'→Q (.bl true) H'
section
variable {P:Program} {w:World} {K:W.Frag} {mg:Str→Option Value} {base:Heap} {A:Adr}
theorem Qx (T:Txt K mg A):FnOk P w K mg base CX0 13 A.dM A.qM ["_law_one", "_law_other", "_law_cell", "_law_columns"] (amu A.bB):=by
 have aV:=cB (P:=P) (w:=w) (base:=base) T
 have Sv:=adh (P:=P) (w:=w) (base:=base) T
 have u6:=Cy (P:=P) (w:=w) (base:=base) T
 have Wh:=Sq (P:=P) (w:=w) (base:=base) T
 have Wi:=Ss (P:=P) (w:=w) (base:=base) T
 have dB:=nQ (P:=P) (w:=w) (base:=base) T
 have afX:=aaT (P:=P) (w:=w) (base:=base) T
 have Bc:=IV (P:=P) (w:=w) (base:=base) T
 refine T.yj.ok dz (fun vs H Q E h=>?_) (fun cdv A' outer s H vs Q E hr h=>?_)
 ·obtain⟨p,m,p',m',cell,c,ps,qs,rfl,_⟩:=h;rfl
 ·obtain⟨p,m,p',m',cell,c,ps,qs,rfl,hR,hG,hR',hG',k⟩:=h
  obtain⟨⟨dp,hp⟩,hPm⟩:=id hR
  obtain⟨⟨dp',hp'⟩,hPm'⟩:=id hR'
  have hq64:=hG'.2.2.1
  have hp64:=hG.2.2.1
  refine⟨_,(aq (Vt (i:=4) (j:=5) rfl dz.nd rfl rfl (by decide) rfl rfl (aj (eG (pv 0) T.bL T.bH aV (hr.mono (by decide)) T.bO .nil aH) (aj (eG (pv 1) T.bL T.bH aV (hr.mono (by decide)) T.bO .nil aH) ao)) rfl)
   (aq (aQ (i:=6) dz.nd rfl (Or.inl rfl) (cD (aj (cP ["_law_one", "_law_other", "_law_cell", "_law_columns", "_law_pairs_here", "_law_others", "_law_lists", "_law_handed", "_law_answer", "_law_some", "_law_due"] (ak bR) ["_law_place"] [none] ⟨rfl,by decide +kernel,by decide +kernel,by decide +kernel,by decide +kernel,by decide +kernel⟩ rfl (cN rfl T.dO (aj (aW (bM K) rfl T.gh dH (aj (pv 4) ao)) ao)) (fun _ _ _ _ _=>(aO (i:=0) (by show List.Nodup (["_law_place"]:List Str);decide +kernel) rfl (Or.inl rfl) (Or.inr rfl))) (fun _ _ _ _ _=>cG) (fun _ _ _ _ _=>(cD (aj (pv 0) ao)))) (aj (cP ["_law_one", "_law_other", "_law_cell", "_law_columns", "_law_pairs_here", "_law_others", "_law_lists", "_law_handed", "_law_answer", "_law_some", "_law_due"] (ak bR) ["_law_place"] [none] ⟨rfl,by decide +kernel,by decide +kernel,by decide +kernel,by decide +kernel,by decide +kernel⟩ rfl (cN rfl T.dO (aj (aW (bM K) rfl T.gh dH (aj (pv 5) ao)) ao)) (fun _ _ _ _ _=>(aO (i:=0) (by show List.Nodup (["_law_place"]:List Str);decide +kernel) rfl (Or.inl rfl) (Or.inr rfl))) (fun _ _ _ _ _=>cG) (fun _ _ _ _ _=>(cD (aj (pv 0) ao)))) ao))))
   (aq (bN (bA mO (bw mL (pv 2) aA) aA (bF _)) (aB (aQ (i:=6) dz.nd rfl (Or.inl rfl) (cD (aj (aC Sv (hr.mono (by decide)) rfl T.RP T.DN.kp T.RN .nil aH (aj (pv 4) (aj (pv 1) ao))) (aj (aC Sv (hr.mono (by decide)) rfl T.RP T.DN.kp T.RN .nil aH (aj (pv 5) (aj (pv 0) ao))) ao))))) aU)
   (aq (Ri (i:=7) ["_law_one", "_law_other", "_law_cell", "_law_columns", "_law_pairs_here", "_law_others", "_law_lists", "_law_handed", "_law_answer", "_law_some", "_law_due"] (ak bR) ["_law_some"] [none] ⟨rfl,by decide +kernel,by decide +kernel,by decide +kernel,by decide +kernel,by decide +kernel⟩ rfl dz.nd rfl rfl (bI K (pv 6)) (fun _ _ _ _ _=>(aO (i:=0) (by show List.Nodup (["_law_some"]:List Str);decide +kernel) rfl (Or.inl rfl) (Or.inr rfl))) (fun _ _ _ _ _=>cG) (fun _ _ _ _ _=>(cP ["_law_some"] (ahr apH (ak bR)) ["_law_places_here"] [none] ⟨rfl,by decide +kernel,by decide +kernel,by decide +kernel,by decide +kernel,by decide +kernel⟩ rfl (bI K (pv 0)) (fun _ _ _ _ _=>(aO (i:=0) (by show List.Nodup (["_law_places_here"]:List Str);decide +kernel) rfl (Or.inl rfl) (Or.inr rfl))) (fun _ _ _ _ _=>cG) (fun _ _ _ _ _=>(cC (cg K) rfl T.dZ dh (aj (pv 0) ao))))))
   (aq (aQ (i:=8) dz.nd rfl (Or.inl rfl) (pN T.Ia afX (hr.mono (by decide)) rfl T.aor T.afs .nil aH (aj (bh (aN K) (pv 7) aA (fun _ _=>rfl)) (aj (bh (aN K) (pv 7) aA (fun _ _=>rfl)) ao))))
   (aq (dR PassesOwn.never rfl (bI K (pv 7)) (aO (i:=9) dz.nd rfl (Or.inl rfl))
   (aq (cQ (cF K (pv 9) (aj (cD (aj aA ao)) ao)))
   (aB (cQ (cF K (bh (aN K) (pv 9) aA (fun _ _=>rfl)) (aj aA ao))))))
   (aq (bN (PW.pt (kI (bA (oR hr.units) (aR K (pv 8)) (bh (aN K) (pv 6) aA (fun _ _=>rfl)) (bF _)) (lF (bA (oR hr.units) (aR K (pv 8)) (bh (aN K) (pv 6) aA (fun _ _=>rfl)) (bF _))))) (aB (aM cH)) aU)
   (aq (aQ (i:=10) dz.nd rfl (Or.inl rfl) (aC u6 (hr.mono (by decide)) rfl T.GX T.u0.kp T.GR .nil aH (aj (pv 4) (aj (pv 5) (aj (bh (aN K) (pv 6) aA (fun _ _=>rfl)) (aj (bh (aN K) (pv 6) aA (fun _ _=>rfl)) ao))))))
   (aq (bN (bY (bG (aC dB (hr.mono (by decide)) rfl T.jw T.iC.kp T.ju .nil aH (aj (nU (pv 8) T.lH T.Ib Bc (hr.mono (by decide)) T.MF .nil aH (aj (pv 0) (aj (pv 1) ao))) (aj (pv 10) ao))))) (aB (aM cH)) aU)
   (aq (bN (bY (bG (aC Wh (hr.mono (by decide)) rfl T.V4 T.Cm.kp T.V3 .nil aH (aj (pv 0) (aj (pv 1) (aj (pv 8) (aj (pv 2) ao))))))) (aB (aM cH)) aU)
   (aB (aM (aC Wi (hr.mono (by decide)) rfl T.V6 T.Cp.kp T.V5 .nil aH (aj (pv 0) (aj (pv 1) (aj (pv 2) (aj (pv 3) ao))))))))))))))))),?_⟩
  refine⟨_,rfl,p,dp,_,rfl,hp,iB _ _ (by decide +kernel) (by decide +kernel),p,m,c,ps,rfl,hR,fun f tf hf htf=>?_⟩
  have s1:Same H (upd H f (.lst (tf.map V.ref))):=Same.new hf
  have hf1:(upd H f (.lst (tf.map V.ref))) f=some (.lst (tf.map V.ref)):=au
  generalize upd H f (.lst (tf.map V.ref))=H1 at s1 hf1 ⊢
  refine⟨_,rfl,p',dp',_,rfl,s1 _ _ hp',iB _ _ (by decide +kernel) (by decide +kernel),p',m',c,qs,rfl,hR'.same s1,fun g tg hg htg=>⟨_,_,rfl,?_⟩⟩
  have s2:Same H1 (upd H1 g (.lst (tg.map V.ref))):=Same.new hg
  have hg2:(upd H1 g (.lst (tg.map V.ref))) g=some (.lst (tg.map V.ref)):=au
  generalize upd H1 g (.lst (tg.map V.ref))=H2 at s2 hg2 ⊢
  have hf2:=s2 _ _ hf1
  have s02:=s1.trans s2
  have hlf:(tf.map V.ref).length=ps.length:=by rw[List.length_map];exact htf.len
  have hlg:(tg.map V.ref).length=qs.length:=by rw[List.length_map];exact htg.len
  have hPf:dg H2 f ps:=⟨tf,hf2,htf.same s02⟩
  have hPg:dg H2 g qs:=⟨tg,hg2,htg.same s2⟩
  suffices rest:∀ (H7:Hp) (q L1 L2:Addr) (S S':List (List Nat)),Same H2 H7→H7 q=some (.lst [.ref L1,.ref L2])→iw H7 L1 S→iw H7 L2 S'→S.length≤64→S'.length≤64→(∀ y∈S,y.length≤64)→(∀ y∈S',y.length≤64)→tSeq _ _ { nx:=fun x H'=>Q V.non H',rt:=Q } [some (.ref p),some (.ref p'),some (.int cell),some (.int (c:Nat)),some (.ref f),some (.ref g),some (.ref q),none,none,none,none] H7 by
   refine⟨_,rfl,f,_,rfl,.inl (SqL.of hf2),_,rfl,by omega,by omega,fun D1 hD=>?_⟩
   have hn0:(((tf.map V.ref).length:Nat):Int).toNat≤64:=by omega
   generalize (((tf.map V.ref).length:Nat):Int).toNat=n1 at hn0
   refine jm (lo:=0) (n:=n1) (fun i ys H'=>Same H2 H'∧i≤n1∧∃ (ts:List Addr) (S:List (List Nat)),ys=ts.map V.ref∧Rws H' ts S∧(∀ t∈ts,t≠D1)∧S.length=i∧∀ y∈S,y.length≤64) ⟨Same.new hD,Nat.zero_le _,[],[],rfl,trivial,(fun t ht=>by simp at ht),rfl,fun y hy=>by simp at hy⟩ ?_ ?_
   ·rintro i ys H' hi ⟨se,_,ts,S,rfl,hRw,hne,hSl,hSr⟩ hDl
    rw[Int.zero_add]
    refine dF ?_
    refine⟨_,rfl,by show 1≤sizeLine;decide,fun e he=>?_⟩
    have neD:e≠D1:=fun z=>by rw[z,hDl] at he;cases he
    have s'':Same H' (upd H' e (.lst [.int (i:Nat)])):=Same.new he
    refine CE1.mk (s'' _ _ hDl) (aP (by rw[List.length_map,hRw.len];omega)) ⟨Same.up (se.trans s'') hD,hi,ts++[e],S++[[i]],by rw[List.map_append];rfl,?_,fun t ht=>?_,by rw[List.length_append,hSl];rfl,fun y hy=>?_⟩
    ·refine Rws.upd (Rws.snoc (r:=[i]) au (hRw.same s'')) fun z=>?_
     rcases List.mem_append.mp z with z | z
     ·exact hne _ z rfl
     ·exact neD (List.mem_singleton.mp z).symm
    ·rcases List.mem_append.mp ht with z | z
     ·exact hne t z
     ·rw[List.mem_singleton.mp z];exact neD
    ·rcases List.mem_append.mp hy with z | z
     ·exact hSr y z
     ·rw[List.mem_singleton.mp z];show 1≤64;decide
   rintro ys H3 ⟨s3,_,t1,S1,rfl,aqn,_,hSlS1,aqo⟩ kD1
   refine⟨_,rfl,g,_,rfl,.inl (SqL.of (s3 _ _ hg2)),_,rfl,by omega,by omega,fun D2 hD=>?_⟩
   have hn0:(((tg.map V.ref).length:Nat):Int).toNat≤64:=by omega
   generalize (((tg.map V.ref).length:Nat):Int).toNat=n2 at hn0
   refine jm (lo:=0) (n:=n2) (fun i ys H'=>Same H3 H'∧i≤n2∧∃ (ts:List Addr) (S:List (List Nat)),ys=ts.map V.ref∧Rws H' ts S∧(∀ t∈ts,t≠D2)∧S.length=i∧∀ y∈S,y.length≤64) ⟨Same.new hD,Nat.zero_le _,[],[],rfl,trivial,(fun t ht=>by simp at ht),rfl,fun y hy=>by simp at hy⟩ ?_ ?_
   ·rintro i ys H' hi ⟨se,_,ts,S,rfl,hRw,hne,hSl,hSr⟩ hDl
    rw[Int.zero_add]
    refine dF ?_
    refine⟨_,rfl,by show 1≤sizeLine;decide,fun e he=>?_⟩
    have neD:e≠D2:=fun z=>by rw[z,hDl] at he;cases he
    have s'':Same H' (upd H' e (.lst [.int (i:Nat)])):=Same.new he
    refine CE1.mk (s'' _ _ hDl) (aP (by rw[List.length_map,hRw.len];omega)) ⟨Same.up (se.trans s'') hD,hi,ts++[e],S++[[i]],by rw[List.map_append];rfl,?_,fun t ht=>?_,by rw[List.length_append,hSl];rfl,fun y hy=>?_⟩
    ·refine Rws.upd (Rws.snoc (r:=[i]) au (hRw.same s'')) fun z=>?_
     rcases List.mem_append.mp z with z | z
     ·exact hne _ z rfl
     ·exact neD (List.mem_singleton.mp z).symm
    ·rcases List.mem_append.mp ht with z | z
     ·exact hne t z
     ·rw[List.mem_singleton.mp z];exact neD
    ·rcases List.mem_append.mp hy with z | z
     ·exact hSr y z
     ·rw[List.mem_singleton.mp z];show 1≤64;decide
   rintro ys H4 ⟨s4,_,t2,S2,rfl,aqp,_,hSlS2,aqq⟩ kD2
   refine⟨by show 2≤sizeLine;decide,fun q hq=>?_⟩
   have s5:Same H4 (upd H4 q (.lst [.ref D1,.ref D2])):=Same.new hq
   have kq:(upd H4 q (.lst [.ref D1,.ref D2])) q=some (.lst [.ref D1,.ref D2]):=au
   generalize upd H4 q (.lst [.ref D1,.ref D2])=H5 at s5 kq ⊢
   have s25:=s3.trans (s4.trans s5)
   refine⟨_,rfl,cell,3,rfl,rfl,(by show(0:Int) < 3;decide),rfl,_,rfl,?_⟩
   refine ite2 (fun e=>?_) (fun e=>?_)
   ·refine⟨_,rfl,_,rfl,f,p',m',c,ps,qs,rfl,hPf.same s25,hG.2.2.2,hp64,hR'.same (s02.trans s25),hG',fun L1 S H6 hL1 s6 hT1 hS64 hSr=>?_⟩
    refine⟨_,rfl,_,rfl,g,p,m,c,qs,ps,rfl,hPg.same (s25.trans s6),hG'.2.2.2,hq64,hR.same (s02.trans (s25.trans s6)),hG,fun L2 S' H7 hL2 s7 hT2 alg hSr'=>⟨by show 2≤sizeLine;decide,fun q2 hq2=>?_⟩⟩
    have s8:Same H7 (upd H7 q2 (.lst [.ref L1,.ref L2])):=Same.new hq2
    exact rest _ q2 L1 L2 S S' (s25.trans (s6.trans (s7.trans s8))) au ((hT1.same s7).same s8) (hT2.same s8) hS64 alg hSr hSr'
   ·exact rest H5 q D1 D2 S1 S2 s25 kq ⟨t1,s5 _ _ (s4 _ _ kD1),(aqn.same s4).same s5⟩ ⟨t2,s5 _ _ kD2,aqp.same s5⟩ (by omega) (by omega) aqo aqq
  intro H7 q L1 L2 S S' s27 kq hT1 hT2 hS64 alg hSr hSr'
  have s07:=s02.trans s27
  obtain⟨ts1,hL1,hRw1⟩:=id hT1
  obtain⟨ts2,hL2,hRw2⟩:=id hT2
  refine⟨_,rfl,q,rfl,⟨_,SqL.of kq⟩,fun D hD=>cO (xs:=[.ref L1,.ref L2]) (fun i ys H'=>Same H7 H'∧ys.length≤2∧JB H7 D S S' i ys H') ⟨Same.new hD,Nat.zero_le _,rfl⟩ (fun i ys H' _ ⟨e,_⟩=>SqL.of (e _ _ kq)) ?_ ?_⟩
  ·rintro i v ys H8 hv ⟨s8,hyl,hJ⟩ hDl
   obtain⟨L,Sx,rfl,hTx,hx64,hend⟩ : ∃ (L:Addr) (Sx:List (List Nat)),v = .ref L∧iw H7 L Sx∧Sx.length≤64∧∀ (W:Addr) (vs:List Addr) (H9:Hp),Same H8 H9→H8 W=none→(∀ t∈vs,H8 t=none)→TB H7 H9 D W vs Sx→(ys++[V.ref W]).length≤2∧JB H7 D S S' (i+1) (ys++[V.ref W]) (upd H9 D (.lst (ys++[V.ref W]))):=by
    match i,hv,hJ with
    | 0,hv,hJ =>
     cases hv
     cases hJ
     exact⟨L1,S,rfl,hT1,hS64,fun W vs H9 s9 fW fv hB=>⟨by show 1≤2;decide,W,vs,rfl,hB.upd⟩⟩
    | 1,hv,hJ =>
     cases hv
     obtain⟨w1,us1,rfl,hB1⟩:=hJ
     refine⟨L2,S',rfl,hT2,alg,fun W vs H9 s9 fW fv hB=>⟨by show 2≤2;decide,w1,W,us1,vs,rfl,(hB1.same s9).upd,hB.upd,fun z=>?_,fun z=>?_⟩⟩
     ·have e:=hB1.2.2.1
      rw[fv w1 z] at e
      cases e
     ·obtain⟨xs,e⟩:=hB1.2.2.2.1.there z
      rw[fW] at e
      cases e
    | i+2,hv,_=>cases hv
   obtain⟨tx,hLx,hRx⟩:=hTx.same s8
   have hlx:(tx.map V.ref).length=Sx.length:=by rw[List.length_map];exact hRx.len
   refine dF ?_
   refine⟨_,rfl,L,rfl,⟨_,SqL.of hLx⟩,fun W hW=>cO (xs:=tx.map V.ref) (fun i ys H'=>Same H8 H'∧i≤Sx.length∧∃ vs:List Addr,ys=vs.map V.ref∧Rws H' vs (Sx.take i)∧∀ t∈vs,t≠W∧H8 t=none) ⟨Same.new hW,Nat.zero_le _,[],rfl,trivial,fun t ht=>by simp at ht⟩ (fun i ys H' _ ⟨e,_⟩=>SqL.of (e _ _ hLx)) ?_ ?_⟩
   ·rintro i v ys H' hv ⟨se,hi,vs,rfl,hU,hn⟩ hWl
    obtain⟨t,y,rfl,hy,ht⟩:=(hRx.same se).get hv
    have hi':i<Sx.length:=(List.getElem?_eq_some_iff.mp hy).1
    refine dF ?_
    refine⟨_,rfl,t,nums y,rfl,.inl (SqL.of ht),fun e he=>?_⟩
    have s2:Same H' (upd H' e (.lst (nums y))):=Same.new he
    have neD:e≠W:=fun z=>by rw[z,hWl] at he;cases he
    refine CE1.mk (s2 _ _ hWl) (aP (by rw[List.length_map,hU.len,List.length_take];omega)) ⟨Same.up (se.trans s2) hW,hi',vs++[e],by rw[List.map_append];rfl,?_,fun t ht=>?_⟩
    ·rw[List.take_add_one,hy]
     refine Rws.upd (Rws.snoc au (hU.same s2)) fun z=>?_
     rcases List.mem_append.mp z with z | z
     ·exact(hn _ z).1 rfl
     ·exact neD (List.mem_singleton.mp z).symm
    ·rcases List.mem_append.mp ht with z | z
     ·exact hn t z
     ·rw[List.mem_singleton.mp z];exact⟨neD,se.free he⟩
   ·rintro ys H9 ⟨s9,_,vs,rfl,hV,hvn⟩ hWl
    rw[hlx,List.take_length] at hV
    have nWD:W≠D:=fun z=>by rw[z,hDl] at hW;cases hW
    have hnew:TB H7 H9 D W vs Sx:=⟨s8.free hW,nWD,hWl,hV,(fun z=>(hvn W z).1 rfl),fun t ht=>⟨s8.free (hvn t ht).2,fun z=>by have w:=(hvn t ht).2;rw[z,hDl] at w;cases w⟩⟩
    obtain⟨e1,e2⟩:=hend W vs H9 s9 hW (fun t ht=>(hvn t ht).2) hnew
    exact CE1.mk (s9 _ _ hDl) (aP (by omega)) ⟨Same.up (s8.trans s9) hD,e1,e2⟩
  rintro ys H9 ⟨s9,_,hJ⟩ kD
  obtain⟨w1,w2,us1,us2,rfl,⟨fw1,nw1,hw1,hU1,nu11,hu1⟩,⟨fw2,nw2,hw2,hU2,nu22,hu2⟩,nu12,nu21⟩:=hJ
  refine⟨_,rfl,D,_,0,_,rfl,rfl,SqL.of kD,rfl,_,rfl,D,_,1,_,rfl,rfl,SqL.of kD,rfl,fun x dx nx ndx nex=>?_⟩
  have v1:Same H9 (upd (upd H9 dx (.own x)) x (.ins A.cM dx [])):=Same.up (Same.new ndx) nx
  refine⟨x,dx,w1,w2,S,S',rfl,au,⟨us1,v1 _ _ hw1,hU1.same v1⟩,hS64,⟨us2,v1 _ _ hw2,hU2.same v1⟩,alg,fun a b us us' H12 ha hb nab hus hus' hxx haa hRa hbb hRb kp=>⟨rfl,?_⟩⟩
  have v2:Same H9 H12:=fun b o e=>kp b o (v1 b o e) (aL e nx)
  have hAns:Jf A.cM H12 x a b us us' S S':=⟨hxx,haa,hRa,hbb,hRb⟩
  have fa:H9 a=none:=v1.free ha
  have fb:H9 b=none:=v1.free hb
  have fx:H9 x=none:=nx
  have fz:∀ z∈x::a::b::(us++us'),H9 z=none:=fun z hz=>by
   rcases List.mem_cons.mp hz with rfl | hz
   ·exact fx
   ·rcases List.mem_cons.mp hz with rfl | hz
    ·exact fa
    ·rcases List.mem_cons.mp hz with rfl | hz
     ·exact fb
     ·rcases List.mem_append.mp hz with hz | hz
      ·exact v1.free (hus z hz).1
      ·exact v1.free (hus' z hz).1
  have old:∀ {z:Addr} {o:HO},H9 z=some o→z∉x::a::b::(us++us'):=fun {z o} h hz=>by rw[fz z hz] at h;cases h
  have old':∀ {z:Addr} {o:HO},H9 z=some o→z≠D→z≠w1→z≠w2→z∉w1::w2::D::x::a::b::(us++us'):=fun {z o} h e1 e2 e3 hz=>by
   rcases List.mem_cons.mp hz with hz | hz
   ·exact e2 hz
   ·rcases List.mem_cons.mp hz with hz | hz
    ·exact e3 hz
    ·rcases List.mem_cons.mp hz with hz | hz
     ·exact e1 hz
     ·exact old h hz
  have r0:∀ {v:Addr} {usx:List Addr} {Sx:List (List Nat)},v∈usx→Rws H9 usx Sx→(∀ y∈Sx,y.length≤64)→H7 v=none∧v≠D→v≠w1→v≠w2→RwB H7 H12 (w1::w2::D::x::a::b::(us++us')) 0 v:=fun {v usx Sx} hm hRx hSy hv e1 e2=>by
   obtain⟨j,hj⟩:=List.mem_iff_getElem?.mp hm
   obtain⟨t',y',q1,q2,q3⟩:=hRx.get (i:=j) (v:=.ref v) (by rw[List.getElem?_map,hj];rfl)
   injection q1 with q1
   rw[← q1] at q3
   exact⟨hv.1,old' q3 hv.2 e1 e2,nums y',v2 _ _ q3,by rw[aY];exact hSy y' (List.mem_of_getElem? q2)⟩
  refine⟨_,rfl,D,rfl,⟨_,SqL.of (v2 _ _ kD)⟩,f9 (K:=K) (a:=D) (xs:=[.ref w1,.ref w2]) (fun i σ' H'=>Same H7 H'∧i≤2∧H' D=some (.lst [.ref w1,.ref w2])∧Jf A.cM H' x a b us us' S S'∧(∀ z,z=w1∨z=w2→∃ vs:List Addr,H' z=some (.lst (vs.map V.ref))∧vs.length≤64+i∧∀ v∈vs,RwB H7 H' (w1::w2::D::x::a::b::(us++us')) i v)∧∃ o9:Option V,σ' = [some (.ref p),some (.ref p'),some (.int cell),some (.int (c:Nat)),some (.ref f),some (.ref g),some (.ref q),some (.ref D),some (.ref x),o9,none])
   ⟨s9.trans v2,Nat.zero_le _,v2 _ _ kD,hAns,?_,none,rfl⟩ (fun i σ' H' _ ⟨_,_,e,_⟩=>SqL.of e) ?_ ?_⟩
  ·intro z hz
   rcases hz with rfl | rfl
   ·exact⟨us1,v2 _ _ hw1,by rw[hU1.len];omega,fun v hv=>r0 hv hU1 hSr (hu1 v hv) (fun e=>nu11 (by rw[← e];exact hv)) fun e=>nu21 (by rw[← e];exact hv)⟩
   ·exact⟨us2,v2 _ _ hw2,by rw[hU2.len];omega,fun v hv=>r0 hv hU2 hSr' (hu2 v hv) (fun e=>nu12 (by rw[← e];exact hv)) fun e=>nu22 (by rw[← e];exact hv)⟩
  ·rintro i v σ' H13 hv ⟨s13,hi,kD13,hA13,hz13,o9,rfl⟩
   obtain⟨z,rfl,hzz,hi2⟩ : ∃ z,v = .ref z∧(z=w1∨z=w2)∧i < 2:=by
    match i,hv with
    | 0,hv=>cases hv;exact⟨w1,rfl,.inl rfl,by decide⟩
    | 1,hv=>cases hv;exact⟨w2,rfl,.inr rfl,by decide⟩
    | i+2,hv=>cases hv
   obtain⟨vs,hz,hvl,hvs⟩:=hz13 z hzz
   have zw:z∈w1::w2::D::x::a::b::(us++us'):=by
    rcases hzz with rfl | rfl
    ·exact List.mem_cons_self
    ·exact List.mem_cons_of_mem _ List.mem_cons_self
   have fz0:H7 z=none:=by rcases hzz with rfl | rfl <;> assumption
   have nzD:D≠z:=by
     rcases hzz with rfl | rfl;· exact nw1.symm
     exact nw2.symm
   have nza:z∉x::a::b::(us++us'):=by
     rcases hzz with rfl | rfl;· exact old hw1
     exact old hw2
   refine⟨_,rfl,.inl ⟨rfl,_,SqL.of hz⟩,by show 1≤sizeLine;decide,fun e he=>?_⟩
   have sa:Same H13 (upd H13 e (.lst [.int 0])):=Same.new he
   have ke:(upd H13 e (.lst [.int 0])) e=some (.lst [.int 0]):=au
   generalize upd H13 e (.lst [.int 0])=Ha at sa ke ⊢
   refine⟨z,_,_,rfl,rfl,sa _ _ hz,aP (by rw[List.length_map];omega),?_⟩
   have fe:H7 e=none:=s13.free he
   have nez:e≠z:=fun w=>by rw[w,hz] at he;cases he
   have neD:e≠D:=fun w=>by rw[w,kD13] at he;cases he
   have new:e∉w1::w2::D::x::a::b::(us++us'):=fun w=>by
    rcases List.mem_cons.mp w with w | w
    ·obtain⟨_,h,_⟩:=hz13 w1 (.inl rfl);rw[← w,he] at h;cases h
    ·rcases List.mem_cons.mp w with w | w
     ·obtain⟨_,h,_⟩:=hz13 w2 (.inr rfl);rw[← w,he] at h;cases h
     ·rcases List.mem_cons.mp w with w | w
      ·exact neD w
      ·exact hA13.out he w
   have rb:∀ {v:Addr},RwB H7 H13 (w1::w2::D::x::a::b::(us++us')) i v→RwB H7 (upd Ha z (.lst (vs.map V.ref++[.ref e]))) (w1::w2::D::x::a::b::(us++us')) i v:=fun {v} ⟨h1,h2,xs,h3,h4⟩=>⟨h1,h2,xs,by rw[aG (fun w=>h2 (by rw[w];exact zw))];exact sa _ _ h3,h4⟩
   have re:RwB H7 (upd Ha z (.lst (vs.map V.ref++[.ref e]))) (w1::w2::D::x::a::b::(us++us')) i e:=⟨fe,new,_,by rw[aG nez];exact ke,by show 1≤64+i;omega⟩
   have kz:(upd Ha z (.lst (vs.map V.ref++[.ref e]))) z=some (.lst ((vs++[e]).map V.ref)):=by rw[au,List.map_append];rfl
   have kDb:(upd Ha z (.lst (vs.map V.ref++[.ref e]))) D=some (.lst [.ref w1,.ref w2]):=by rw[aG nzD];exact sa _ _ kD13
   have hAb:Jf A.cM (upd Ha z (.lst (vs.map V.ref++[.ref e]))) x a b us us' S S':=(hA13.same sa).upd nza
   have sb:Same H7 (upd Ha z (.lst (vs.map V.ref++[.ref e]))):=Same.up (s13.trans sa) fz0
   have hzb:∀ y,y=w1∨y=w2→∃ vs':List Addr,(upd Ha z (.lst (vs.map V.ref++[.ref e]))) y=some (.lst (vs'.map V.ref))∧vs'.length≤64+(i+1)∧∀ v∈vs',RwB H7 (upd Ha z (.lst (vs.map V.ref++[.ref e]))) (w1::w2::D::x::a::b::(us++us')) i v:=fun y hy=>by
    by_cases w:y=z
    ·subst w
     refine⟨vs++[e],kz,by rw[List.length_append];show vs.length+1≤_;omega,fun v hv=>?_⟩
     rcases List.mem_append.mp hv with hv | hv
     ·exact rb (hvs v hv)
     ·rw[List.mem_singleton.mp hv];exact re
    ·obtain⟨vs',h1,h2,h3⟩:=hz13 y hy
     exact⟨vs',by rw[aG w];exact sa _ _ h1,by omega,fun v hv=>rb (h3 v hv)⟩
   obtain⟨v0,hv0m,hv0⟩ : ∃ v0,RwB H7 (upd Ha z (.lst (vs.map V.ref++[.ref e]))) (w1::w2::D::x::a::b::(us++us')) i v0∧atI ((vs++[e]).map V.ref) ((0:Nat):Int)=some (.ref v0):=by
    cases vs with
    | nil=>exact⟨e,re,bJ rfl⟩
    | cons v vs=>exact⟨v,rb (hvs v List.mem_cons_self),bJ rfl⟩
   generalize upd Ha z (.lst (vs.map V.ref++[.ref e]))=Hb at kz kDb hAb sb hzb hv0m ⊢
   obtain⟨f0,n0,xs,h0,hl0⟩:=hv0m
   refine⟨_,rfl,z,_,0,_,rfl,rfl,SqL.of kz,hv0,.inl ⟨rfl,_,SqL.of h0⟩,v0,_,_,rfl,rfl,h0,aP (by omega),?_⟩
   have m0:∀ {y:Addr},y∈w1::w2::D::x::a::b::(us++us')→y≠v0:=fun hy w=>n0 (by rw[← w];exact hy)
   have na0:v0∉x::a::b::(us++us'):=fun w=>n0 (List.mem_cons_of_mem _ (List.mem_cons_of_mem _ (List.mem_cons_of_mem _ w)))
   refine⟨Same.up sb f0,hi2,by rw[aG (m0 (List.mem_cons_of_mem _ (List.mem_cons_of_mem _ List.mem_cons_self)))];exact kDb,hAb.upd na0,fun y hy=>?_,_,rfl⟩
   have hym:y∈w1::w2::D::x::a::b::(us++us'):=by
    rcases hy with rfl | rfl
    ·exact List.mem_cons_self
    ·exact List.mem_cons_of_mem _ List.mem_cons_self
   obtain⟨vs',h1,h2,h3⟩:=hzb y hy
   refine⟨vs',by rw[aG (m0 hym)];exact h1,h2,fun v hv=>?_⟩
   obtain⟨g1,g2,ys,g3,g4⟩:=h3 v hv
   by_cases w:v=v0
   ·subst w
    rw[h0] at g3
    cases g3
    exact⟨g1,g2,_,au,by rw[List.length_append];show xs.length+1≤_;omega⟩
   ·exact⟨g1,g2,ys,by rw[aG w];exact g3,by omega⟩
  rintro σ' H13 ⟨s13,_,kD13,hA13,_,o9,rfl⟩
  obtain⟨⟨dx3,hx3⟩,ha3,hRa3,hb3,hRb3⟩:=id hA13
  have kq13:=s13 _ _ kq
  have hT13:=hT1.same s13
  have hT23:=hT2.same s13
  refine⟨_,rfl,x,A.cM,dx3,_,_,rfl,hx3,T.lH,T.dX,wW _ _,_,rfl,q,_,0,_,rfl,rfl,SqL.of kq13,rfl,.list (S.map rowD),.list (S.map rowD),su ⟨us,ha3,hRa3⟩,su hT13,iz S,iz S,Cw S,_,rfl,?_⟩
  rw[if_pos rfl,p7,decide_eq_true rfl]
  refine iteF ⟨_,rfl,x,A.cM,dx3,_,_,rfl,hx3,T.lH,T.jk,V7 _ _,_,rfl,q,_,1,_,rfl,rfl,SqL.of kq13,rfl,.list (S'.map rowD),.list (S'.map rowD),su ⟨us',hb3,hRb3⟩,su hT23,iz S',iz S',Cw S',_,rfl,?_⟩
  rw[if_pos rfl,p7,decide_eq_true rfl]
  refine iteF ?_
  have s213:=s27.trans s13
  have s013:=s02.trans s213
  refine⟨_,rfl,_,rfl,_,rfl,q,_,0,_,rfl,rfl,SqL.of kq13,rfl,_,rfl,q,_,1,_,rfl,rfl,SqL.of kq13,rfl,f,g,L1,L2,ps,qs,S,S',rfl,hPf.same s213,hPg.same s213,hT13,hT23,fun y hy=>by have:=hSr y hy;omega,fun y hy=>by have:=hSr' y hy;omega,fun H14 s14=>?_⟩
  have s014:=s013.trans s14
  refine⟨_,rfl,x,dx3,_,rfl,s14 _ _ hx3,ak4 _ _ (by decide +kernel) (by decide +kernel),_,rfl,_,rfl,x,a,b,p,m,p',m',c,ps,qs,S,S',rfl,⟨⟨dx3,s14 _ _ hx3⟩,⟨us,s14 _ _ ha3,hRa3.same s14⟩,⟨us',s14 _ _ hb3,hRb3.same s14⟩⟩,hR.same s014,hG,hR'.same s014,hG',fun H15 s15=>⟨_,rfl,Qp ps qs S S',rfl,_,rfl,iteF ?_⟩⟩
  have t15:=s14.trans s15
  have s015:=s013.trans t15
  have faH:H a=none:=s07.free (s9.free fa)
  obtain⟨tm,hmm,_⟩:=id hPm
  obtain⟨tm',hmm',_⟩:=id hPm'
  refine⟨_,rfl,_,rfl,_,rfl,_,rfl,p,m,p',m',x,a,b,us,us',cell,c,ps,qs,S,S',rfl,hR.same s015,hG,hR'.same s015,hG',⟨dx3,t15 _ _ hx3⟩,t15 _ _ ha3,hRa3.same t15,t15 _ _ hb3,hRb3.same t15,hSr,hSr',(fun z=>(hus a z).2.1 rfl),(fun z=>(hus' a z).2.1 rfl),nab.symm,aL hmm faH,aL hmm' faH,fun H16 b16=>⟨_,rfl,iteF ?_⟩⟩
  have s016:Same H H16:=But.fresh s015 b16 fun t ht=>by rw[List.mem_singleton.mp ht];exact faH
  exact⟨_,rfl,_,rfl,_,rfl,_,rfl,p,m,p',m',cell,c,ps,qs,rfl,hR.same s016,hG,hR'.same s016,hG',fun H17 s17=>k H17 (s016.trans s17)⟩
end
end K12
namespace K12
open PySem L2 TC
def afY (K:W.Frag):Sp:=fun vs H Q _=>∃ (a:Addr) (ns:List Int),vs = [.ref a]∧SqL K H a (ns.map V.int)∧ns.length≤63∧∀ H',Q (.bl true) H'
theorem aqr (x:Int):∃ c:Nat,1≤c∧c≤6∧atI [V.int 3,V.int 4,V.int 2,V.int 5] (x % 4)=some (.int (c:Nat)):=by
 have h:x % 4=0∨x % 4=1∨x % 4=2∨x % 4=3:=by omega
 rcases h with h | h | h | h <;> rw[h]
 ·exact⟨3,by decide,by decide,rfl⟩
 ·exact⟨4,by decide,by decide,rfl⟩
 ·exact⟨2,by decide,by decide,rfl⟩
 ·exact⟨5,by decide,by decide,rfl⟩
section
variable {P:Program} {w:World} {K:W.Frag} {mg:Str→Option Value} {base:Heap} {A:Adr}
theorem apO (T:Txt K mg A):FnOk P w K mg base CX0 15 A.aad A.anr ["_law_script"] (afY K):=by
 have tY:=aaP (P:=P) (w:=w) (base:=base) T
 have Xj:=afQ (P:=P) (w:=w) (base:=base) T
 have SJ:=acZ (P:=P) (w:=w) (base:=base) T
 have Mu:=Jd (P:=P) (w:=w) (base:=base) T
 have SM:=Qw (P:=P) (w:=w) (base:=base) T
 have SN:=Qx (P:=P) (w:=w) (base:=base) T
 refine T.aqf.ok Vz (fun vs H Q E h=>?_) (fun cdv A' outer s H vs Q E hr h=>?_)
 ·obtain⟨a,ns,rfl,_⟩:=h;rfl
 ·obtain⟨a,ns,rfl,hS,hlen,k⟩:=h
  refine⟨_,(aq (aQ (i:=1) Vz.nd rfl (Or.inl rfl) (bh (bQ K) (Ab (aj aA (aj aA (aj aA (aj aA ao))))) (bw mL (aC tY (hr.mono (by decide)) rfl T.tH T.pB.kp T.tG .nil aH (aj (pv 0) (aj aA ao))) aA) (fun _ _=>rfl)))
   (aq (aQ (i:=2) Vz.nd rfl (Or.inl rfl) (pN T.Ca SJ (hr.mono (by decide)) rfl T.akZ T.RJ .nil aH (aj (pv 1) (aj (aC Xj (hr.mono (by decide)) rfl T.W4 T.Ii.kp T.W3 .nil aH (aj (aC tY (hr.mono (by decide)) rfl T.tH T.pB.kp T.tG .nil aH (aj (pv 0) (aj aA ao))) (aj (pv 1) (aj aA ao)))) ao))))
   (aq (aQ (i:=3) Vz.nd rfl (Or.inl rfl) (pN T.Ca SJ (hr.mono (by decide)) rfl T.akZ T.RJ .nil aH (aj (pv 1) (aj (aC Xj (hr.mono (by decide)) rfl T.W4 T.Ii.kp T.W3 .nil aH (aj (aC tY (hr.mono (by decide)) rfl T.tH T.pB.kp T.tG .nil aH (aj (pv 0) (aj aA ao))) (aj (pv 1) (aj aA ao)))) ao))))
   (aq (dR PassesOwn.never rfl (cN rfl T.dO (aj aA ao)) (aO (i:=4) Vz.nd rfl (Or.inl rfl))
   (aq (aQ (i:=5) Vz.nd rfl (Or.inl rfl) (bw eF (aC tY (hr.mono (by decide)) rfl T.tH T.pB.kp T.tG .nil aH (aj (pv 0) (aj (bw eF aA (pv 4)) ao))) (bw uY aA (pv 4))))
   (aq (bN (PW.pt (kI (bY (bG (aC Mu (hr.mono (by decide)) rfl T.Mt T.vg.kp T.Ms .nil aH (aj (pv 2) (aj (pv 5) (aj (pv 1) ao)))))) (lF (bY (bG (aC SM (hr.mono (by decide)) rfl T.RM T.yh.kp T.RL .nil aH (aj (pv 2) (aj (pv 5) (aj (pv 1) ao))))))))) (aB (aM cH)) aU)
   (aB (bN (bY (bG (aC SN (hr.mono (by decide)) rfl T.RT T.yj.kp T.RQ .nil aH (aj (pv 2) (aj (pv 3) (aj (pv 5) (aj (pv 1) ao))))))) (aB (aM cH)) aU)))))
   (aB (aM cH)))))),?_⟩
  refine⟨by show 4≤sizeLine;decide,fun tp htp0=>⟨_,rfl,a,ns,0,rfl,(Same.new htp0).seq hS,fun x0=>⟨x0,4,rfl,rfl,(by show(0:Int) < 4;decide),?_⟩⟩⟩
  obtain⟨c,hc1,hc6,ec⟩:=aqr x0
  refine⟨tp,_,_,_,rfl,rfl,SqT.of au,ec,?_⟩
  have hS1:SqL K (upd H tp (.tup [V.int 3,V.int 4,V.int 2,V.int 5])) a (ns.map V.int):=(Same.new htp0).seq hS
  generalize (upd H tp (.tup [V.int 3,V.int 4,V.int 2,V.int 5]))=H1 at hS1 ⊢
  refine⟨_,rfl,_,rfl,a,ns,1,rfl,hS1,fun x1=>⟨_,rfl,x1,c,6,rfl,hc6,by decide,fun l ps H2 hl s2 hP hpl hps x dx nx ndx nex=>?_⟩⟩
  have hG:Good c ps:=⟨hc1,hc6,by omega,hps⟩
  have s3:Same H2 (upd (upd H2 dx (.own x)) x (.ins A.bB dx [])):=Same.up (Same.new ndx) nx
  refine⟨x,dx,l,c,ps,rfl,au,hP.same s3,hG,fun m H4 hm hR kp=>⟨rfl,?_⟩⟩
  have s4:Same H2 H4:=fun b o e=>kp b o (s3 b o e) (aL e nx)
  have hS4:=(s2.trans s4).seq hS1
  refine⟨_,rfl,_,rfl,a,ns,2,rfl,hS4,fun x1'=>⟨_,rfl,x1',c,3,rfl,hc6,by decide,fun l' qs H5 hl' s5 hP' hql hqs x' dx' nx' ndx' nex'=>?_⟩⟩
  have hG':Good c qs:=⟨hc1,hc6,by omega,hqs⟩
  have s6:Same H5 (upd (upd H5 dx' (.own x')) x' (.ins A.bB dx' [])):=Same.up (Same.new ndx') nx'
  refine⟨x',dx',l',c,qs,rfl,au,hP'.same s6,hG',fun m' H7 hm' hR' kp'=>⟨rfl,?_⟩⟩
  have s7:Same H5 H7:=fun b o e=>kp' b o (s6 b o e) (aL e nx')
  have s57:=s5.trans s7
  refine⟨3,rfl,by decide,by decide,j6 (lo:=0) (n:=3) (fun i σ' H'=>(SqL K H' a (ns.map V.int)∧bV A.bB H' x m c ps∧bV A.bB H' x' m' c qs)∧∃ o4 o5:Option V,σ' = [some (.ref a),some (.int (c:Nat)),some (.ref x),some (.ref x'),o4,o5]) ⟨⟨s57.seq hS4,hR.same s57,hR'⟩,none,none,rfl⟩ ?_ ?_⟩
  ·rintro i σ' H8 hi ⟨⟨hS8,hR8,hR8'⟩,o4,o5,rfl⟩
   rw[Int.zero_add]
   refine⟨_,rfl,_,rfl,3,(i:Int),rfl,rfl,a,ns,3+i,rfl,hS8,fun x2=>⟨_,rfl,977,(i:Int),rfl,rfl,.inl ⟨by decide,by decide⟩,x2,_,rfl,rfl,?_⟩⟩
   refine⟨_,rfl,_,rfl,_,rfl,x,m,_,c,ps,rfl,hR8,hG,by omega,fun H9 s9=>⟨_,rfl,iteF ?_⟩⟩
   refine⟨_,rfl,_,rfl,_,rfl,x,m,_,c,ps,rfl,hR8.same s9,hG,by omega,fun H10 s10=>⟨_,rfl,iteF ?_⟩⟩
   have t10:=s9.trans s10
   refine⟨_,rfl,_,rfl,_,rfl,_,rfl,x,m,x',m',_,c,ps,qs,rfl,hR8.same t10,hG,hR8'.same t10,hG',fun H11 s11=>⟨_,rfl,iteF ?_⟩⟩
   have t11:=t10.trans s11
   exact⟨⟨t11.seq hS8,hR8.same t11,hR8'.same t11⟩,_,_,rfl⟩
  ·rintro σ' H8 ⟨_,o4,o5,rfl⟩
   exact k _
end
end K12
namespace K12
open PySem L2 TC
theorem all_mk {l:W.OpenLaw} {w:World} {K:W.Frag} {h:Heap} {mg:Str→Option Value} {fa gU jz pP mz jX jA pQ kJ qj mX jd uN ql kO uO mY kW jF kY yc yd kZ ye uP mZ qm jG iH gJ jH iI iJ gK iK gM jJ iM je iQ m5 Hx m6 jf qp iR gO uQ jK m7 qt m8 g8 jg m9 qu lg nj lu jh lz nu lA lB ji nA nC nF qw cY qx eO dJ eU jL dM fY eV eX aad:Addr} (X:K.In h) (G:h.Ns mainGlobals mg) (hfa:mg "law" = some (.ref fa))
  (aaU:W.nsIn K mainGlobals "Steps" = some (some (.ref gU)))
  (afZ:W.nsIn K mainGlobals "Rows" = some (some (.ref jz)))
  (aaV:W.nsIn K mainGlobals "Alike" = some (some (.ref pP)))
  (aaW:W.nsIn K mainGlobals "Apart" = some (some (.ref mz)))
  (af0:W.nsIn K mainGlobals "Back" = some (some (.ref jX)))
  (af2:W.nsIn K mainGlobals "Lost" = some (some (.ref jA)))
  (aaX:W.nsIn K mainGlobals "Rules" = some (some (.ref pQ)))
  (Jg:W.nsIn K mainGlobals "is_number" = some (some (.ref kJ)))
  {af3 SQ:Option Addr} {af4:Array (Option Value)} {af5 SX S5 S6 Ec S7:Value}
  (yu:K.lookup kJ=some ⟨af5,af3,.func (W.fnOf "is_number" "is_number" (aF iT) (aD iT) (ak iT) .none SX S5 S6 SQ Ec S7),af4⟩)
  (yw:W.codeIn K Ec "is_number" = true)
  (yx:W.keepIn K (.ref kJ)=true)
  (Wj:W.nsIn K mainGlobals "is_list" = some (some (.ref qj)))
  {akd aaY:Option Addr} {ake:Array (Option Value)} {akf aaZ aa0 aa1 Qy aa2:Value}
  (Lj:K.lookup qj=some ⟨akf,akd,.func (W.fnOf "is_list" "is_list" (aF lM) (aD lM) (ak lM) .none aaZ aa0 aa1 aaY Qy aa2),ake⟩)
  (Ln:W.codeIn K Qy "is_list" = true)
  (Lp:W.keepIn K (.ref qj)=true)
  (Qz:W.nsIn K mainGlobals "is_count" = some (some (.ref mX)))
  {aim Xk:Option Addr} {ain:Array (Option Value)} {aio Xl Xm Xn Jh Xo:Value}
  (Ed:K.lookup mX=some ⟨aio,aim,.func (W.fnOf "is_count" "is_count" (aF jO) (aD jO) (ak jO) .none Xl Xm Xn Xk Jh Xo),ain⟩)
  (Ef:W.codeIn K Jh "is_count" = true)
  (Eg:W.keepIn K (.ref mX)=true)
  (Bd:W.nsIn K mainGlobals "all_columns" = some (some (.ref jd)))
  {aa3 Ji:Option Addr} {aa4:Array (Option Value)} {aa5 Jj Jk Jl w6 Jm:Value}
  (tZ:K.lookup jd=some ⟨aa5,aa3,.func (W.fnOf "all_columns" "all_columns" (aF fB) (aD fB) (ak fB) .none Jj Jk Jl Ji w6 Jm),aa4⟩)
  (t6:W.codeIn K w6 "all_columns" = true)
  (uc:W.keepIn K (.ref jd)=true)
  (aa6:W.nsIn K mainGlobals "is_set" = some (some (.ref uN)))
  {amv aev:Option Addr} {amw:Array (Option Value)} {amx aew aex aey Wk aez:Value}
  (S8:K.lookup uN=some ⟨amx,amv,.func (W.fnOf "is_set" "is_set" (aF oY) (aD oY) (ak oY) .none aew aex aey aev Wk aez),amw⟩)
  (S9:W.codeIn K Wk "is_set" = true)
  (Tc:W.keepIn K (.ref uN)=true)
  (Wl:W.nsIn K mainGlobals "is_rule" = some (some (.ref ql)))
  {akg aa7:Option Addr} {akh:Array (Option Value)} {aki aa8 aa9 abb QB abd:Value}
  (Lq:K.lookup ql=some ⟨aki,akg,.func (W.fnOf "is_rule" "is_rule" (aF lN) (aD lN) (ak lN) .none aa8 aa9 abb aa7 QB abd),akh⟩)
  (Lr:W.codeIn K QB "is_rule" = true)
  (Ls:W.keepIn K (.ref ql)=true)
  (Jo:W.nsIn K mainGlobals "are_rules" = some (some (.ref kO)))
  {af6 Td:Option Addr} {af7:Array (Option Value)} {af8 Te Tf Tg Eh Ti:Value}
  (yC:K.lookup kO=some ⟨af8,af6,.func (W.fnOf "are_rules" "are_rules" (aF gW) (aD gW) (ak gW) .none Te Tf Tg Td Eh Ti),af7⟩)
  (yD:W.codeIn K Eh "are_rules" = true)
  (yE:W.keepIn K (.ref kO)=true)
  (abe:W.nsIn K mainGlobals "is_row" = some (some (.ref uO)))
  {amy aeA:Option Addr} {amz:Array (Option Value)} {amA aeB aeC aeD Wm aeE:Value}
  (Tj:K.lookup uO=some ⟨amA,amy,.func (W.fnOf "is_row" "is_row" (aF mU) (aD mU) (ak mU) .none aeB aeC aeD aeA Wm aeE),amz⟩)
  (Tn:W.codeIn K Wm "is_row" = true)
  (Tp:W.keepIn K (.ref uO)=true)
  (QC:W.nsIn K mainGlobals "is_table" = some (some (.ref mY)))
  {aip Xp:Option Addr} {aiq:Array (Option Value)} {air Xq Xr Xu Jp Xv:Value}
  (Ei:K.lookup mY=some ⟨air,aip,.func (W.fnOf "is_table" "is_table" (aF jn) (aD jn) (ak jn) .none Xq Xr Xu Xp Jp Xv),aiq⟩)
  (Ej:W.codeIn K Jp "is_table" = true)
  (Ek:W.keepIn K (.ref mY)=true)
  (Jq:W.nsIn K mainGlobals "are_parts" = some (some (.ref kW)))
  {af9 Tq:Option Addr} {aga:Array (Option Value)} {agb Tr Tt Tv El Tw:Value}
  (yF:K.lookup kW=some ⟨agb,af9,.func (W.fnOf "are_parts" "are_parts" (aF iU) (aD iU) (ak iU) .none Tr Tt Tv Tq El Tw),aga⟩)
  (yG:W.codeIn K El "are_parts" = true)
  (yH:W.keepIn K (.ref kW)=true)
  (Em:W.nsIn K mainGlobals "need_parts" = some (some (.ref jF)))
  {adi Ng:Option Addr} {adk:Array (Option Value)} {adl Nh Ni Nj Bf Nk:Value}
  (vH:K.lookup jF=some ⟨adl,adi,.func (W.fnOf "need_parts" "need_parts" (aF gw) (aD gw) (ak gw) .none Nh Ni Nj Ng Bf Nk),adk⟩)
  (vI:W.codeIn K Bf "need_parts" = true)
  (vJ:W.keepIn K (.ref jF)=true)
  (Jr:W.nsIn K mainGlobals "is_within" = some (some (.ref kY)))
  {agc Tz:Option Addr} {agd:Array (Option Value)} {agf TF TJ TQ En TV:Value}
  (yI:K.lookup kY=some ⟨agf,agc,.func (W.fnOf "is_within" "is_within" (aF iV) (aD iV) (ak iV) .none TF TJ TQ Tz En TV),agd⟩)
  (yJ:W.codeIn K En "is_within" = true)
  (yK:W.keepIn K (.ref kY)=true)
  (agg:W.nsIn K mainGlobals "cells" = some (some (.ref yc)))
  {anN ais:Option Addr} {anO:Array (Option Value)} {anP ait aiu aiv abf aiw:Value}
  (Zc:K.lookup yc=some ⟨anP,anN,.func (W.fnOf "cells" "cells" (aF qI) (aD qI) (ak qI) .none ait aiu aiv ais abf aiw),anO⟩)
  (Zd:W.codeIn K abf "cells" = true)
  (k_cells:W.keepIn K (.ref yc)=true)
  (agh:W.nsIn K mainGlobals "keeps" = some (some (.ref yd)))
  {anQ aix:Option Addr} {anR:Array (Option Value)} {anS aiy aiz aiA abg aiB:Value}
  (Ze:K.lookup yd=some ⟨anS,anQ,.func (W.fnOf "keeps" "keeps" (aF tu) (aD tu) (ak tu) .none aiy aiz aiA aix abg aiB),anR⟩)
  (Zf:W.codeIn K abg "keeps" = true)
  (Zg:W.keepIn K (.ref yd)=true)
  (Js:W.nsIn K mainGlobals "keeps_all" = some (some (.ref kZ)))
  {agi TX:Option Addr} {agj:Array (Option Value)} {agk TY T3 T4 Eo T5:Value}
  (yL:K.lookup kZ=some ⟨agk,agi,.func (W.fnOf "keeps_all" "keeps_all" (aF gY) (aD gY) (ak gY) .none TY T3 T4 TX Eo T5),agj⟩)
  (yM:W.codeIn K Eo "keeps_all" = true)
  (yN:W.keepIn K (.ref kZ)=true)
  (agl:W.nsIn K mainGlobals "makes" = some (some (.ref ye)))
  {anT aiC:Option Addr} {anU:Array (Option Value)} {anV aiD aiE aiF abh aiG:Value}
  (Zh:K.lookup ye=some ⟨anV,anT,.func (W.fnOf "makes" "makes" (aF qJ) (aD qJ) (ak qJ) .none aiD aiE aiF aiC abh aiG),anU⟩)
  (Zi:W.codeIn K abh "makes" = true)
  (Zj:W.keepIn K (.ref ye)=true)
  (abi:W.nsIn K mainGlobals "row_of" = some (some (.ref uP)))
  {amB aeF:Option Addr} {amC:Array (Option Value)} {amD aeG aeH aeI Wn aeJ:Value}
  (T6:K.lookup uP=some ⟨amD,amB,.func (W.fnOf "row_of" "row_of" (aF mV) (aD mV) (ak mV) .none aeG aeH aeI aeF Wn aeJ),amC⟩)
  (T7:W.codeIn K Wn "row_of" = true)
  (T8:W.keepIn K (.ref uP)=true)
  (QD:W.nsIn K mainGlobals "sheet_of" = some (some (.ref mZ)))
  {aiH Xw:Option Addr} {aiI:Array (Option Value)} {aiJ Xx Xy Xz Jt XC:Value}
  (Ep:K.lookup mZ=some ⟨aiJ,aiH,.func (W.fnOf "sheet_of" "sheet_of" (aF jo) (aD jo) (ak jo) .none Xx Xy Xz Xw Jt XC),aiI⟩)
  (Es:W.codeIn K Jt "sheet_of" = true)
  (Et:W.keepIn K (.ref mZ)=true)
  (Wo:W.nsIn K mainGlobals "lowered" = some (some (.ref qm)))
  {akj abj:Option Addr} {akk:Array (Option Value)} {akl abk abl abm QF abn:Value}
  (Lw:K.lookup qm=some ⟨akl,akj,.func (W.fnOf "lowered" "lowered" (aF lO) (aD lO) (ak lO) .none abk abl abm abj QF abn),akk⟩)
  (Lx:W.codeIn K QF "lowered" = true)
  (Ly:W.keepIn K (.ref qm)=true)
  (Eu:W.nsIn K mainGlobals "after_step" = some (some (.ref jG)))
  {adn Nm:Option Addr} {ado:Array (Option Value)} {adp Np Nq Nr Bg Nt:Value}
  (vK:K.lookup jG=some ⟨adp,adn,.func (W.fnOf "after_step" "after_step" (aF d8) (aD d8) (ak d8) .none Np Nq Nr Nm Bg Nt),ado⟩)
  (vL:W.codeIn K Bg "after_step" = true)
  (vM:W.keepIn K (.ref jG)=true)
  (Ew:W.findIn K (.ref gU) "__init__" = some (some (.ref iH)))
  (Ey:W.isFn K (.ref iH)=true)
  {adq Nu:Option Addr} {adt:Array (Option Value)} {adu Nv Ny Nz Bh NK:Value}
  (vN:K.lookup iH=some ⟨adu,adq,.func (W.fnOf "__init__" "Steps.__init__" (aF gA) (aD gA) (ak gA) .none Nv Ny Nz Nu Bh NK),adt⟩)
  (vO:W.codeIn K Bh "Steps.__init__" = true)
  (vP:W.keepIn K (.ref iH)=true)
  (Bj:W.findIn K (.ref gU) "shows" = some (some (.ref gJ)))
  (Bk:W.isFn K (.ref gJ)=true)
  {abo Ju:Option Addr} {abp:Array (Option Value)} {abq Jv Jw Jx xg Jy:Value}
  (ud:K.lookup gJ=some ⟨abq,abo,.func (W.fnOf "shows" "Steps.shows" (aF fC) (aD fC) (ak fC) .none Jv Jw Jx Ju xg Jy),abp⟩)
  (uf:W.codeIn K xg "Steps.shows" = true)
  (pH:W.keepIn K (.ref gJ)=true)
  (Jz:W.findIn K (.ref jz) "__init__" = some (some (.ref jH)))
  (JC:W.isFn K (.ref jH)=true)
  {agm T9:Option Addr} {agn:Array (Option Value)} {ago Ua Ub Uc Ez Ud:Value}
  (yO:K.lookup jH=some ⟨ago,agm,.func (W.fnOf "__init__" "Rows.__init__" (aF iW) (aD iW) (ak iW) .none Ua Ub Uc T9 Ez Ud),agn⟩)
  (yP:W.codeIn K Ez "Rows.__init__" = true)
  (yQ:W.keepIn K (.ref jH)=true)
  (EY:W.findIn K (.ref jz) "shows" = some (some (.ref iI)))
  (Fb:W.isFn K (.ref iI)=true)
  {adv NP:Option Addr} {adw:Array (Option Value)} {adx NQ NT NZ Bl N5:Value}
  (vQ:K.lookup iI=some ⟨adx,adv,.func (W.fnOf "shows" "Rows.shows" (aF gB) (aD gB) (ak gB) .none NQ NT NZ NP Bl N5),adw⟩)
  (vR:W.codeIn K Bl "Rows.shows" = true)
  (q8:W.keepIn K (.ref iI)=true)
  (Fd:W.findIn K (.ref pP) "__init__" = some (some (.ref iJ)))
  (Fe:W.isFn K (.ref iJ)=true)
  {ady N6:Option Addr} {adz:Array (Option Value)} {adA N7 N8 Oa Bm Ob:Value}
  (vU:K.lookup iJ=some ⟨adA,ady,.func (W.fnOf "__init__" "Alike.__init__" (aF d9) (aD d9) (ak d9) .none N7 N8 Oa N6 Bm Ob),adz⟩)
  (vV:W.codeIn K Bm "Alike.__init__" = true)
  (vW:W.keepIn K (.ref iJ)=true)
  (Bo:W.findIn K (.ref pP) "shows" = some (some (.ref gK)))
  (Bp:W.isFn K (.ref gK)=true)
  {abr JD:Option Addr} {abt:Array (Option Value)} {abu JF JG JH xj JK:Value}
  (ug:K.lookup gK=some ⟨abu,abr,.func (W.fnOf "shows" "Alike.shows" (aF fD) (aD fD) (ak fD) .none JF JG JH JD xj JK),abt⟩)
  (uh:W.codeIn K xj "Alike.shows" = true)
  (pI:W.keepIn K (.ref gK)=true)
  (Fg:W.findIn K (.ref mz) "__init__" = some (some (.ref iK)))
  (Fi:W.isFn K (.ref iK)=true)
  {adB Oc:Option Addr} {adC:Array (Option Value)} {adD Od Oe Og Bq Oh:Value}
  (vX:K.lookup iK=some ⟨adD,adB,.func (W.fnOf "__init__" "Apart.__init__" (aF gC) (aD gC) (ak gC) .none Od Oe Og Oc Bq Oh),adC⟩)
  (vY:W.codeIn K Bq "Apart.__init__" = true)
  (vZ:W.keepIn K (.ref iK)=true)
  (Br:W.findIn K (.ref mz) "shows" = some (some (.ref gM)))
  (Bs:W.isFn K (.ref gM)=true)
  {abv JL:Option Addr} {abw:Array (Option Value)} {abx JM JN JQ xq JR:Value}
  (um:K.lookup gM=some ⟨abx,abv,.func (W.fnOf "shows" "Apart.shows" (aF fG) (aD fG) (ak fG) .none JM JN JQ JL xq JR),abw⟩)
  (uo:W.codeIn K xq "Apart.shows" = true)
  (pJ:W.keepIn K (.ref gM)=true)
  (JS:W.findIn K (.ref jX) "__init__" = some (some (.ref jJ)))
  (JT:W.isFn K (.ref jJ)=true)
  {agp Ue:Option Addr} {agq:Array (Option Value)} {agr Ug Uh Ui Fj Uj:Value}
  (yR:K.lookup jJ=some ⟨agr,agp,.func (W.fnOf "__init__" "Back.__init__" (aF iY) (aD iY) (ak iY) .none Ug Uh Ui Ue Fj Uj),agq⟩)
  (yS:W.codeIn K Fj "Back.__init__" = true)
  (yU:W.keepIn K (.ref jJ)=true)
  (Fl:W.findIn K (.ref jX) "shows" = some (some (.ref iM)))
  (Fo:W.isFn K (.ref iM)=true)
  {adE Oi:Option Addr} {adF:Array (Option Value)} {adG Oj Ol Om Bt Oo:Value}
  (v5:K.lookup iM=some ⟨adG,adE,.func (W.fnOf "shows" "Back.shows" (aF gD) (aD gD) (ak gD) .none Oj Ol Om Oi Bt Oo),adF⟩)
  (v7:W.codeIn K Bt "Back.shows" = true)
  (q9:W.keepIn K (.ref iM)=true)
  (JV:W.findIn K (.ref jA) "__init__" = some (some (.ref je)))
  (JW:W.isFn K (.ref je)=true)
  {ags Uk:Option Addr} {agt:Array (Option Value)} {agu Ul Um Uo Fp Uq:Value}
  (yV:K.lookup je=some ⟨agu,ags,.func (W.fnOf "__init__" "Lost.__init__" (aF fV) (aD fV) (ak fV) .none Ul Um Uo Uk Fp Uq),agt⟩)
  (yW:W.codeIn K Fp "Lost.__init__" = true)
  (yX:W.keepIn K (.ref je)=true)
  (Fq:W.findIn K (.ref jA) "shows" = some (some (.ref iQ)))
  (Ft:W.isFn K (.ref iQ)=true)
  {adH Oq:Option Addr} {adI:Array (Option Value)} {adJ Ot Ou Ov Bu Ow:Value}
  (v8:K.lookup iQ=some ⟨adJ,adH,.func (W.fnOf "shows" "Lost.shows" (aF gF) (aD gF) (ak gF) .none Ot Ou Ov Oq Bu Ow),adI⟩)
  (v9:W.codeIn K Bu "Lost.shows" = true)
  (rm:W.keepIn K (.ref iQ)=true)
  (QG:W.nsIn K mainGlobals "is_place" = some (some (.ref m5)))
  {aiK XD:Option Addr} {aiL:Array (Option Value)} {aiM XF XH XJ JX XM:Value}
  (Fv:K.lookup m5=some ⟨aiM,aiK,.func (W.fnOf "is_place" "is_place" (aF jP) (aD jP) (ak jP) .none XF XH XJ XD JX XM),aiL⟩)
  (Fw:W.codeIn K JX "is_place" = true)
  (Fx:W.keepIn K (.ref m5)=true)
  (akm:W.nsIn K mainGlobals "lead" = some (some (.ref Hx)))
  {aoH alh:Option Addr} {aoI:Array (Option Value)} {aoJ ali alj alk agv alm:Value}
  (agw:K.lookup Hx=some ⟨aoJ,aoH,.func (W.fnOf "lead" "lead" (aF Ad) (aD Ad) (ak Ad) .none ali alj alk alh agv alm),aoI⟩)
  (agx:W.codeIn K agv "lead" = true)
  (agy:W.keepIn K (.ref Hx)=true)
  (QJ:W.nsIn K mainGlobals "all_lead" = some (some (.ref m6)))
  {aiN XQ:Option Addr} {aiO:Array (Option Value)} {aiP XR XS X3 JZ X4:Value}
  (Fy:K.lookup m6=some ⟨aiP,aiN,.func (W.fnOf "all_lead" "all_lead" (aF jq) (aD jq) (ak jq) .none XR XS X3 XQ JZ X4),aiO⟩)
  (Fz:W.codeIn K JZ "all_lead" = true)
  (FJ:W.keepIn K (.ref m6)=true)
  (Bv:W.nsIn K mainGlobals "break_alone" = some (some (.ref jf)))
  {aby J1:Option Addr} {abz:Array (Option Value)} {abA J2 J3 J4 xr J5:Value}
  (uq:K.lookup jf=some ⟨abA,aby,.func (W.fnOf "break_alone" "break_alone" (aF fH) (aD fH) (ak fH) .none J2 J3 J4 J1 xr J5),abz⟩)
  (ur:W.codeIn K xr "break_alone" = true)
  (uw:W.keepIn K (.ref jf)=true)
  (Wq:W.nsIn K mainGlobals "is_step" = some (some (.ref qp)))
  {akn abB:Option Addr} {ako:Array (Option Value)} {akp abC abD abE QK abF:Value}
  (Lz:K.lookup qp=some ⟨akp,akn,.func (W.fnOf "is_step" "is_step" (aF lQ) (aD lQ) (ak lQ) .none abC abD abE abB QK abF),ako⟩)
  (LC:W.codeIn K QK "is_step" = true)
  (LK:W.keepIn K (.ref qp)=true)
  (FN:W.findIn K (.ref pQ) "__init__" = some (some (.ref iR)))
  (FP:W.isFn K (.ref iR)=true)
  {adK Ox:Option Addr} {adL:Array (Option Value)} {adM Oz OD OJ Bw O1:Value}
  (wj:K.lookup iR=some ⟨adM,adK,.func (W.fnOf "__init__" "Rules.__init__" (aF fP) (aD fP) (ak fP) .none Oz OD OJ Ox Bw O1),adL⟩)
  (wk:W.codeIn K Bw "Rules.__init__" = true)
  (wu:W.keepIn K (.ref iR)=true)
  (Bx:W.findIn K (.ref pQ) "rules" = some (some (.ref gO)))
  (BJ:W.isFn K (.ref gO)=true)
  {abG J6:Option Addr} {abH:Array (Option Value)} {abI J7 J8 J9 xu Ka:Value}
  (ux:K.lookup gO=some ⟨abI,abG,.func (W.fnOf "rules" "Rules.rules" (aF fJ) (aD fJ) (ak fJ) .none J7 J8 J9 J6 xu Ka),abH⟩)
  (uy:W.codeIn K xu "Rules.rules" = true)
  (pK:W.keepIn K (.ref gO)=true)
  (abJ:W.nsIn K mainGlobals "spread" = some (some (.ref uQ)))
  {amE aeK:Option Addr} {amF:Array (Option Value)} {amG aeL aeM aeN Wr aeO:Value}
  (Ur:K.lookup uQ=some ⟨amG,amE,.func (W.fnOf "spread" "spread" (aF oZ) (aD oZ) (ak oZ) .none aeL aeM aeN aeK Wr aeO),amF⟩)
  (Us:W.codeIn K Wr "spread" = true)
  (Ut:W.keepIn K (.ref uQ)=true)
  (FQ:W.nsIn K mainGlobals "comes_back" = some (some (.ref jK)))
  {adN O2:Option Addr} {adO:Array (Option Value)} {adP O3 O4 O5 BK O6:Value}
  (wz:K.lookup jK=some ⟨adP,adN,.func (W.fnOf "comes_back" "comes_back" (aF gG) (aD gG) (ak gG) .none O3 O4 O5 O2 BK O6),adO⟩)
  (wA:W.codeIn K BK "comes_back" = true)
  (wB:W.keepIn K (.ref jK)=true)
  (QL:W.nsIn K mainGlobals "steps_by" = some (some (.ref m7)))
  {aiQ X5:Option Addr} {aiR:Array (Option Value)} {aiS X6 X7 X8 Kc Yb:Value}
  (FT:K.lookup m7=some ⟨aiS,aiQ,.func (W.fnOf "steps_by" "steps_by" (aF jQ) (aD jQ) (ak jQ) .none X6 X7 X8 X5 Kc Yb),aiR⟩)
  (FW:W.codeIn K Kc "steps_by" = true)
  (FZ:W.keepIn K (.ref m7)=true)
  (Ws:W.nsIn K mainGlobals "follows" = some (some (.ref qt)))
  {akq abK:Option Addr} {akr:Array (Option Value)} {aks abL abM abN QM abO:Value}
  (LQ:K.lookup qt=some ⟨aks,akq,.func (W.fnOf "follows" "follows" (aF lR) (aD lR) (ak lR) .none abL abM abN abK QM abO),akr⟩)
  (LR:W.codeIn K QM "follows" = true)
  (Ma:W.keepIn K (.ref qt)=true)
  (QS:W.nsIn K mainGlobals "steps_to" = some (some (.ref m8)))
  {aiT Yc:Option Addr} {aiU:Array (Option Value)} {aiV Yd Ye Yg Kd Yh:Value}
  (Ga:K.lookup m8=some ⟨aiV,aiT,.func (W.fnOf "steps_to" "steps_to" (aF jR) (aD jR) (ak jR) .none Yd Ye Yg Yc Kd Yh),aiU⟩)
  (Gb:W.codeIn K Kd "steps_to" = true)
  (Gd:W.keepIn K (.ref m8)=true)
  (xG:W.nsIn K mainGlobals "first_useful" = some (some (.ref g8)))
  {YZ GZ:Option Addr} {Y0:Array (Option Value)} {Y4 G3 G4 G5 u9 G6:Value}
  (rA:K.lookup g8=some ⟨Y4,YZ,.func (W.fnOf "first_useful" "first_useful" (aF dw) (aD dw) (ak dw) .none G3 G4 G5 GZ u9 G6),Y0⟩)
  (rB:W.codeIn K u9 "first_useful" = true)
  (rC:W.keepIn K (.ref g8)=true)
  (BL:W.nsIn K mainGlobals "_law_cell_at" = some (some (.ref jg)))
  {abP Ke:Option Addr} {abQ:Array (Option Value)} {abR Kf Kg Kh xH Kl:Value}
  (uz:K.lookup jg=some ⟨abR,abP,.func (W.fnOf "_law_cell_at" "_law_cell_at" (aF fK) (aD fK) (ak fK) .none Kf Kg Kh Ke xH Kl),abQ⟩)
  (uD:W.codeIn K xH "_law_cell_at" = true)
  (uE:W.keepIn K (.ref jg)=true)
  (QT:W.nsIn K mainGlobals "_law_draw" = some (some (.ref m9)))
  {aiW Yi:Option Addr} {aiX:Array (Option Value)} {aiY Yj Yk Yl Km Ym:Value}
  (Ge:K.lookup m9=some ⟨aiY,aiW,.func (W.fnOf "_law_draw" "_law_draw" (aF jT) (aD jT) (ak jT) .none Yj Yk Yl Yi Km Ym),aiX⟩)
  (Gf:W.codeIn K Km "_law_draw" = true)
  (Gg:W.keepIn K (.ref m9)=true)
  (Wt:W.nsIn K mainGlobals "_law_set" = some (some (.ref qu)))
  {akt abS:Option Addr} {aku:Array (Option Value)} {akv abT abU abV QV abW:Value}
  (Mf:K.lookup qu=some ⟨akv,akt,.func (W.fnOf "_law_set" "_law_set" (aF lU) (aD lU) (ak lU) .none abT abU abV abS QV abW),aku⟩)
  (Mg:W.codeIn K QV "_law_set" = true)
  (Mh:W.keepIn K (.ref qu)=true)
  (Ko:W.nsIn K mainGlobals "_law_pairs" = some (some (.ref lg)))
  {agz Uu:Option Addr} {agA:Array (Option Value)} {agB Uv Uw Ux Gh Uy:Value}
  (yZ:K.lookup lg=some ⟨agB,agz,.func (W.fnOf "_law_pairs" "_law_pairs" (aF iZ) (aD iZ) (ak iZ) .none Uv Uw Ux Uu Gh Uy),agA⟩)
  (za:W.codeIn K Gh "_law_pairs" = true)
  (zb:W.keepIn K (.ref lg)=true)
  (QW:W.nsIn K mainGlobals "_law_like" = some (some (.ref nj)))
  {aiZ Yn:Option Addr} {ai0:Array (Option Value)} {ai1 Yo Yp Yq Kp Yr:Value}
  (Gi:K.lookup nj=some ⟨ai1,aiZ,.func (W.fnOf "_law_like" "_law_like" (aF jU) (aD jU) (ak jU) .none Yo Yp Yq Yn Kp Yr),ai0⟩)
  (Gj:W.codeIn K Kp "_law_like" = true)
  (Gk:W.keepIn K (.ref nj)=true)
  (Kq:W.nsIn K mainGlobals "_law_keeps" = some (some (.ref lu)))
  {agC Uz:Option Addr} {agD:Array (Option Value)} {agE UG UJ UL Gm UW:Value}
  (zc:K.lookup lu=some ⟨agE,agC,.func (W.fnOf "_law_keeps" "_law_keeps" (aF jb) (aD jb) (ak jb) .none UG UJ UL Uz Gm UW),agD⟩)
  (zf:W.codeIn K Gm "_law_keeps" = true)
  (zj:W.keepIn K (.ref lu)=true)
  (BP:W.nsIn K mainGlobals "_law_numbers" = some (some (.ref jh)))
  {abX Kr:Option Addr} {abY:Array (Option Value)} {abZ Ks Ku Kv xJ Kw:Value}
  (uF:K.lookup jh=some ⟨abZ,abX,.func (W.fnOf "_law_numbers" "_law_numbers" (aF dU) (aD dU) (ak dU) .none Ks Ku Kv Kr xJ Kw),abY⟩)
  (uG:W.codeIn K xJ "_law_numbers" = true)
  (uH:W.keepIn K (.ref jh)=true)
  (Ky:W.nsIn K mainGlobals "_law_steps" = some (some (.ref lz)))
  {agF U0:Option Addr} {agG:Array (Option Value)} {agH U3 U4 U5 Gn U6:Value}
  (zm:K.lookup lz=some ⟨agH,agF,.func (W.fnOf "_law_steps" "_law_steps" (aF jc) (aD jc) (ak jc) .none U3 U4 U5 U0 Gn U6),agG⟩)
  (zq:W.codeIn K Gn "_law_steps" = true)
  (zu:W.keepIn K (.ref lz)=true)
  (QX:W.nsIn K mainGlobals "_law_rows" = some (some (.ref nu)))
  {ai2 Ys:Option Addr} {ai3:Array (Option Value)} {ai4 Yt Yu Yv Kz Yw:Value}
  (Gp:K.lookup nu=some ⟨ai4,ai2,.func (W.fnOf "_law_rows" "_law_rows" (aF jr) (aD jr) (ak jr) .none Yt Yu Yv Ys Kz Yw),ai3⟩)
  (Gq:W.codeIn K Kz "_law_rows" = true)
  (Gr:W.keepIn K (.ref nu)=true)
  (KC:W.nsIn K mainGlobals "_law_parts" = some (some (.ref lA)))
  {agI U7:Option Addr} {agJ:Array (Option Value)} {agK U8 U9 Va Gs Vb:Value}
  (zx:K.lookup lA=some ⟨agK,agI,.func (W.fnOf "_law_parts" "_law_parts" (aF fX) (aD fX) (ak fX) .none U8 U9 Va U7 Gs Vb),agJ⟩)
  (zy:W.codeIn K Gs "_law_parts" = true)
  (zA:W.keepIn K (.ref lA)=true)
  (KD:W.nsIn K mainGlobals "_law_sheet" = some (some (.ref lB)))
  {agL Vc:Option Addr} {agM:Array (Option Value)} {agN Vd Ve Vf Gu Vg:Value}
  (zB:K.lookup lB=some ⟨agN,agL,.func (W.fnOf "_law_sheet" "_law_sheet" (aF gZ) (aD gZ) (ak gZ) .none Vd Ve Vf Vc Gu Vg),agM⟩)
  (zE:W.codeIn K Gu "_law_sheet" = true)
  (zF:W.keepIn K (.ref lB)=true)
  (BR:W.nsIn K mainGlobals "_law_stepped" = some (some (.ref ji)))
  {ab0 KH:Option Addr} {ab1:Array (Option Value)} {ab2 KJ KN KQ xK KR:Value}
  (uI:K.lookup ji=some ⟨ab2,ab0,.func (W.fnOf "_law_stepped" "_law_stepped" (aF fM) (aD fM) (ak fM) .none KJ KN KQ KH xK KR),ab1⟩)
  (uJ:W.codeIn K xK "_law_stepped" = true)
  (uK:W.keepIn K (.ref ji)=true)
  (QZ:W.nsIn K mainGlobals "_law_back" = some (some (.ref nA)))
  {ai5 Yx:Option Addr} {ai6:Array (Option Value)} {ai7 Yy Yz YB KY YC:Value}
  (Gv:K.lookup nA=some ⟨ai7,ai5,.func (W.fnOf "_law_back" "_law_back" (aF jt) (aD jt) (ak jt) .none Yy Yz YB Yx KY YC),ai6⟩)
  (Gw:W.codeIn K KY "_law_back" = true)
  (Gx:W.keepIn K (.ref nA)=true)
  (Q0:W.nsIn K mainGlobals "_law_lost" = some (some (.ref nC)))
  {ai8 YD:Option Addr} {ai9:Array (Option Value)} {aja YF YG YH KZ YJ:Value}
  (Gy:K.lookup nC=some ⟨aja,ai8,.func (W.fnOf "_law_lost" "_law_lost" (aF fQ) (aD fQ) (ak fQ) .none YF YG YH YD KZ YJ),ai9⟩)
  (Gz:W.codeIn K KZ "_law_lost" = true)
  (GC:W.keepIn K (.ref nC)=true)
  (Q5:W.nsIn K mainGlobals "_law_says" = some (some (.ref nF)))
  {ajb YK:Option Addr} {ajc:Array (Option Value)} {ajd YL YM YQ K1 YS:Value}
  (GD:K.lookup nF=some ⟨ajd,ajb,.func (W.fnOf "_law_says" "_law_says" (aF jV) (aD jV) (ak jV) .none YL YM YQ YK K1 YS),ajc⟩)
  (GF:W.codeIn K K1 "_law_says" = true)
  (GJ:W.keepIn K (.ref nF)=true)
  (Wu:W.nsIn K mainGlobals "_law_row" = some (some (.ref qw)))
  {akx ab3:Option Addr} {aky:Array (Option Value)} {akz ab4 ab5 ab6 Q6 ab7:Value}
  (Mi:K.lookup qw=some ⟨akz,akx,.func (W.fnOf "_law_row" "_law_row" (aF kh) (aD kh) (ak kh) .none ab4 ab5 ab6 ab3 Q6 ab7),aky⟩)
  (Mj:W.codeIn K Q6 "_law_row" = true)
  (Ml:W.keepIn K (.ref qw)=true)
  (oV:W.nsIn K mainGlobals "_law_follows_right" = some (some (.ref cY)))
  {K3 uT:Option Addr} {K4:Array (Option Value)} {K5 uU uV uW nR uX:Value}
  (jZ:K.lookup cY=some ⟨K5,K3,.func (W.fnOf "_law_follows_right" "_law_follows_right" (aF bZ) (aD bZ) (ak bZ) .none uU uV uW uT nR uX),K4⟩)
  (j4:W.codeIn K nR "_law_follows_right" = true)
  (j5:W.keepIn K (.ref cY)=true)
  (Wv:W.nsIn K mainGlobals "_law_put" = some (some (.ref qx)))
  {akA ab8:Option Addr} {akB:Array (Option Value)} {akC ab9 acd ace Q7 acf:Value}
  (Mp:K.lookup qx=some ⟨akC,akA,.func (W.fnOf "_law_put" "_law_put" (aF lV) (aD lV) (ak lV) .none ab9 acd ace ab8 Q7 acf),akB⟩)
  (Mq:W.codeIn K Q7 "_law_put" = true)
  (Mr:W.keepIn K (.ref qx)=true)
  (sJ:W.nsIn K mainGlobals "_law_anew_right" = some (some (.ref eO)))
  {Vh zG:Option Addr} {Vi:Array (Option Value)} {Vj zH zJ zK rD zL:Value}
  (n6:K.lookup eO=some ⟨Vj,Vh,.func (W.fnOf "_law_anew_right" "_law_anew_right" (aF cR) (aD cR) (ak cR) .none zH zJ zK zG rD zL),Vi⟩)
  (oh:W.codeIn K rD "_law_anew_right" = true)
  (ou:W.keepIn K (.ref eO)=true)
  (rE:W.nsIn K mainGlobals "_law_parts_right" = some (some (.ref dJ)))
  {Q8 xM:Option Addr} {Q9:Array (Option Value)} {Ra xO xP xQ p8 xR:Value}
  (mC:K.lookup dJ=some ⟨Ra,Q8,.func (W.fnOf "_law_parts_right" "_law_parts_right" (aF bW) (aD bW) (ak bW) .none xO xP xQ xM p8 xR),Q9⟩)
  (mD:W.codeIn K p8 "_law_parts_right" = true)
  (mF:W.keepIn K (.ref dJ)=true)
  (sO:W.nsIn K mainGlobals "_law_parts_anew" = some (some (.ref eU)))
  {Vk zM:Option Addr} {Vl:Array (Option Value)} {Vm zN zO zP rF zQ:Value}
  (oA:K.lookup eU=some ⟨Vm,Vk,.func (W.fnOf "_law_parts_anew" "_law_parts_anew" (aF cT) (aD cT) (ak cT) .none zN zO zP zM rF zQ),Vl⟩)
  (oE:W.codeIn K rF "_law_parts_anew" = true)
  (oF:W.keepIn K (.ref eU)=true)
  (GK:W.nsIn K mainGlobals "_law_places" = some (some (.ref jL)))
  {adQ O7:Option Addr} {adR:Array (Option Value)} {adS O8 O9 Pa BV Pb:Value}
  (wC:K.lookup jL=some ⟨adS,adQ,.func (W.fnOf "_law_places" "_law_places" (aF gH) (aD gH) (ak gH) .none O8 O9 Pa O7 BV Pb),adR⟩)
  (wD:W.codeIn K BV "_law_places" = true)
  (wF:W.keepIn K (.ref jL)=true)
  (rG:W.nsIn K mainGlobals "_law_lists_right" = some (some (.ref dM)))
  {Rb xT:Option Addr} {Rc:Array (Option Value)} {Rf xU xV xW qg xX:Value}
  (mG:K.lookup dM=some ⟨Rf,Rb,.func (W.fnOf "_law_lists_right" "_law_lists_right" (aF bR) (aD bR) (ak bR) .none xU xV xW xT qg xX),Rc⟩)
  (mH:W.codeIn K qg "_law_lists_right" = true)
  (mJ:W.keepIn K (.ref dM)=true)
  (vd:W.nsIn K mainGlobals "_law_alike_due" = some (some (.ref fY)))
  {Ww Cz:Option Addr} {Wx:Array (Option Value)} {Wy CG CJ CP sS CQ:Value}
  (pR:K.lookup fY=some ⟨Wy,Ww,.func (W.fnOf "_law_alike_due" "_law_alike_due" (aF dD) (aD dD) (ak dD) .none CG CJ CP Cz sS CQ),Wx⟩)
  (pU:W.codeIn K sS "_law_alike_due" = true)
  (pW:W.keepIn K (.ref fY)=true)
  (sU:W.nsIn K mainGlobals "_law_there_anew" = some (some (.ref eV)))
  {Vn zR:Option Addr} {Vo:Array (Option Value)} {Vp zT zU zV rH zW:Value}
  (oG:K.lookup eV=some ⟨Vp,Vn,.func (W.fnOf "_law_there_anew" "_law_there_anew" (aF cU) (aD cU) (ak cU) .none zT zU zV zR rH zW),Vo⟩)
  (oH:W.codeIn K rH "_law_there_anew" = true)
  (oJ:W.keepIn K (.ref eV)=true)
  (sV:W.nsIn K mainGlobals "_law_side_right" = some (some (.ref eX)))
  {Vq zX:Option Addr} {Vr:Array (Option Value)} {Vs zY zZ z6 rJ z7:Value}
  (oK:K.lookup eX=some ⟨Vs,Vq,.func (W.fnOf "_law_side_right" "_law_side_right" (aF cW) (aD cW) (ak cW) .none zY zZ z6 zX rJ z7),Vr⟩)
  (oM:W.codeIn K rJ "_law_side_right" = true)
  (oN:W.keepIn K (.ref eX)=true)
  (aln:W.nsIn K mainGlobals "law" = some (some (.ref aad)))
  {apP anW:Option Addr} {apQ:Array (Option Value)} {apR anY anZ an0 akD an1:Value}
  (alo:K.lookup aad=some ⟨apR,apP,.func (W.fnOf "law" "law" (aF Mx) (aD Mx) (ak Mx) .none anY anZ an0 anW akD an1),apQ⟩)
  (alp:W.codeIn K akD "law" = true)
  (alq:W.keepIn K (.ref aad)=true)
  (acg:W.plainGet K gU Str.empty=true)
  (ach:W.hasDictIn K gU=true)
  (aci:W.plainOver K gU=true)
  (acj:W.findIn K (.ref gU) "__setattr__" = some (some (.builtin "object.__setattr__")))
  (BZ:W.makesIn K gU=true)
  (ack:W.keepIn K (.ref gU)=true)
  (eE:W.findIn K (.ref gU) "places" = some none)
  (agO:W.plainGet K jz Str.empty=true)
  (agP:W.hasDictIn K jz=true)
  (agQ:W.plainOver K jz=true)
  (agR:W.findIn K (.ref jz) "__setattr__" = some (some (.builtin "object.__setattr__")))
  (Lb:W.makesIn K jz=true)
  (agS:W.keepIn K (.ref jz)=true)
  (jj:W.findIn K (.ref jz) "one" = some none)
  (cX:W.findIn K (.ref jz) "other" = some none)
  (acn:W.plainGet K pP Str.empty=true)
  (aco:W.hasDictIn K pP=true)
  (acp:W.plainOver K pP=true)
  (acq:W.findIn K (.ref pP) "__setattr__" = some (some (.builtin "object.__setattr__")))
  (Ia:W.makesIn K pP=true)
  (acr:W.keepIn K (.ref pP)=true)
  (dX:W.findIn K (.ref pP) "there" = some none)
  (jk:W.findIn K (.ref pP) "back" = some none)
  (acs:W.plainGet K mz Str.empty=true)
  (acu:W.hasDictIn K mz=true)
  (acv:W.plainOver K mz=true)
  (acw:W.findIn K (.ref mz) "__setattr__" = some (some (.builtin "object.__setattr__")))
  (Ie:W.makesIn K mz=true)
  (acy:W.keepIn K (.ref mz)=true)
  (gQ:W.findIn K (.ref mz) "side" = some none)
  (ig:W.findIn K (.ref mz) "place" = some none)
  (jM:W.findIn K (.ref mz) "one" = some none)
  (jx:W.findIn K (.ref mz) "other" = some none)
  (agT:W.plainGet K jX Str.empty=true)
  (agU:W.hasDictIn K jX=true)
  (agV:W.plainOver K jX=true)
  (agW:W.findIn K (.ref jX) "__setattr__" = some (some (.builtin "object.__setattr__")))
  (Ld:W.makesIn K jX=true)
  (agX:W.keepIn K (.ref jX)=true)
  (dY:W.findIn K (.ref jX) "steps" = some none)
  (agY:W.plainGet K jA Str.empty=true)
  (agZ:W.hasDictIn K jA=true)
  (ag0:W.plainOver K jA=true)
  (ag1:W.findIn K (.ref jA) "__setattr__" = some (some (.builtin "object.__setattr__")))
  (Le:W.makesIn K jA=true)
  (ag2:W.keepIn K (.ref jA)=true)
  (cu:W.findIn K (.ref jA) "table" = some none)
  (eY:W.findIn K (.ref jA) "row" = some none)
  (acz:W.plainGet K pQ Str.empty=true)
  (acA:W.hasDictIn K pQ=true)
  (acB:W.plainOver K pQ=true)
  (acC:W.findIn K (.ref pQ) "__setattr__" = some (some (.builtin "object.__setattr__")))
  (Ca:W.makesIn K pQ=true)
  (acD:W.keepIn K (.ref pQ)=true)
  (bx:W.findIn K (.ref pQ) "columns" = some none)
  (kj:W.findIn K (.ref pQ) "pairs" = some none)
  (acE:W.findIn K (.ref gU) "__class__" = some (some (.builtin "object.__class__")))
  (acF:W.specialIn K (.builtin "object.__class__") "__get__" = some (some (.builtin "getset_descriptor.__get__")))
  (acG:W.takesIn K (.builtin "object.__class__")=some true)
  (acH:W.mroIn K gU (.type "object")=some true)
  (kE:W.kitOne K (.ref gU) (.ref gU)=some true)
  (pD:W.kitOne K (.ref gU) (.ref jz)=some false)
  (tK:W.kitOne K (.ref gU) (.ref jX)=some false)
  (tM:W.kitOne K (.ref gU) (.ref jA)=some false)
  (ag3:W.findIn K (.ref jz) "__class__" = some (some (.builtin "object.__class__")))
  (ag4:W.specialIn K (.builtin "object.__class__") "__get__" = some (some (.builtin "getset_descriptor.__get__")))
  (ag5:W.takesIn K (.builtin "object.__class__")=some true)
  (ag6:W.mroIn K jz (.type "object")=some true)
  (lZ:W.kitOne K (.ref jz) (.ref gU)=some false)
  (qO:W.kitOne K (.ref jz) (.ref jz)=some true)
  (vz:W.kitOne K (.ref jz) (.ref jX)=some false)
  (vA:W.kitOne K (.ref jz) (.ref jA)=some false)
  (ag7:W.findIn K (.ref jX) "__class__" = some (some (.builtin "object.__class__")))
  (ag8:W.specialIn K (.builtin "object.__class__") "__get__" = some (some (.builtin "getset_descriptor.__get__")))
  (ag9:W.takesIn K (.builtin "object.__class__")=some true)
  (aha:W.mroIn K jX (.type "object")=some true)
  (tO:W.kitOne K (.ref jX) (.ref gU)=some false)
  (vB:W.kitOne K (.ref jX) (.ref jz)=some false)
  (qP:W.kitOne K (.ref jX) (.ref jX)=some true)
  (qQ:W.kitOne K (.ref jX) (.ref jA)=some false)
  (ahb:W.findIn K (.ref jA) "__class__" = some (some (.builtin "object.__class__")))
  (ahc:W.specialIn K (.builtin "object.__class__") "__get__" = some (some (.builtin "getset_descriptor.__get__")))
  (ahd:W.takesIn K (.builtin "object.__class__")=some true)
  (ahe:W.mroIn K jA (.type "object")=some true)
  (tQ:W.kitOne K (.ref jA) (.ref gU)=some false)
  (vC:W.kitOne K (.ref jA) (.ref jz)=some false)
  (qR:W.kitOne K (.ref jA) (.ref jX)=some false)
  (qT:W.kitOne K (.ref jA) (.ref jA)=some true)
  (yo:W.nsIn K mainGlobals "all" = some none)
  (ahX:W.nsIn K mainGlobals "any" = some none)
  (Qm:W.nsIn K mainGlobals "bool" = some none)
  (lD:W.nsIn K mainGlobals "enumerate" = some none)
  (aeh:W.nsIn K mainGlobals "int" = some none)
  (bU:W.nsIn K mainGlobals "isinstance" = some none)
  (gh:W.nsIn K mainGlobals "len" = some none)
  (dZ:W.nsIn K mainGlobals "list" = some none)
  (aei:W.nsIn K mainGlobals "min" = some none)
  (dO:W.nsIn K mainGlobals "range" = some none)
  (yp:W.nsIn K mainGlobals "tuple" = some none)
  (aej:W.nsIn K mainGlobals "zip" = some none)
  {acI:Tok} (nM:W.nsIn K mainGlobals "MOST_COLUMNS" = some (some (.int 6 acI)))
  {ahf:Tok} (qU:W.nsIn K mainGlobals "MOST_RULES" = some (some (.int 64 ahf)))
  {aje:Tok} (uR:W.nsIn K mainGlobals "MOST_ROWS" = some (some (.int 64 aje)))
  {adT:Tok} (pF:W.nsIn K mainGlobals "MOST_NUMBER" = some (some (.int 99 adT)))
  {ahg:Tok} (qW:W.nsIn K mainGlobals "MOST_PARTS" = some (some (.int 64 ahg)))
  : ∃ fd:FuncData,(∀ (s:Shared) (v:Value),BindsTo s fd ⟨[v],[]⟩ [("_law_script",v)])∧∀ base:Heap,K.In base→base.Ns mainGlobals mg→FnOk l.prog w K mg base CX0 15 fa fd ["_law_script"] (afY K):=by
 have e:=hfa.symm.trans (W.mg_of X G aln)
 cases e
 have T:Txt K mg ⟨kJ,(W.fnOf "is_number" "is_number" (aF iT) (aD iT) (ak iT) .none SX S5 S6 SQ Ec S7),qj,(W.fnOf "is_list" "is_list" (aF lM) (aD lM) (ak lM) .none aaZ aa0 aa1 aaY Qy aa2),mX,(W.fnOf "is_count" "is_count" (aF jO) (aD jO) (ak jO) .none Xl Xm Xn Xk Jh Xo),jd,(W.fnOf "all_columns" "all_columns" (aF fB) (aD fB) (ak fB) .none Jj Jk Jl Ji w6 Jm),uN,(W.fnOf "is_set" "is_set" (aF oY) (aD oY) (ak oY) .none aew aex aey aev Wk aez),ql,(W.fnOf "is_rule" "is_rule" (aF lN) (aD lN) (ak lN) .none aa8 aa9 abb aa7 QB abd),kO,(W.fnOf "are_rules" "are_rules" (aF gW) (aD gW) (ak gW) .none Te Tf Tg Td Eh Ti),uO,(W.fnOf "is_row" "is_row" (aF mU) (aD mU) (ak mU) .none aeB aeC aeD aeA Wm aeE),mY,(W.fnOf "is_table" "is_table" (aF jn) (aD jn) (ak jn) .none Xq Xr Xu Xp Jp Xv),kW,(W.fnOf "are_parts" "are_parts" (aF iU) (aD iU) (ak iU) .none Tr Tt Tv Tq El Tw),jF,(W.fnOf "need_parts" "need_parts" (aF gw) (aD gw) (ak gw) .none Nh Ni Nj Ng Bf Nk),kY,(W.fnOf "is_within" "is_within" (aF iV) (aD iV) (ak iV) .none TF TJ TQ Tz En TV),yc,(W.fnOf "cells" "cells" (aF qI) (aD qI) (ak qI) .none ait aiu aiv ais abf aiw),yd,(W.fnOf "keeps" "keeps" (aF tu) (aD tu) (ak tu) .none aiy aiz aiA aix abg aiB),kZ,(W.fnOf "keeps_all" "keeps_all" (aF gY) (aD gY) (ak gY) .none TY T3 T4 TX Eo T5),ye,(W.fnOf "makes" "makes" (aF qJ) (aD qJ) (ak qJ) .none aiD aiE aiF aiC abh aiG),uP,(W.fnOf "row_of" "row_of" (aF mV) (aD mV) (ak mV) .none aeG aeH aeI aeF Wn aeJ),mZ,(W.fnOf "sheet_of" "sheet_of" (aF jo) (aD jo) (ak jo) .none Xx Xy Xz Xw Jt XC),qm,(W.fnOf "lowered" "lowered" (aF lO) (aD lO) (ak lO) .none abk abl abm abj QF abn),jG,(W.fnOf "after_step" "after_step" (aF d8) (aD d8) (ak d8) .none Np Nq Nr Nm Bg Nt),iH,(W.fnOf "__init__" "Steps.__init__" (aF gA) (aD gA) (ak gA) .none Nv Ny Nz Nu Bh NK),gJ,(W.fnOf "shows" "Steps.shows" (aF fC) (aD fC) (ak fC) .none Jv Jw Jx Ju xg Jy),jH,(W.fnOf "__init__" "Rows.__init__" (aF iW) (aD iW) (ak iW) .none Ua Ub Uc T9 Ez Ud),iI,(W.fnOf "shows" "Rows.shows" (aF gB) (aD gB) (ak gB) .none NQ NT NZ NP Bl N5),iJ,(W.fnOf "__init__" "Alike.__init__" (aF d9) (aD d9) (ak d9) .none N7 N8 Oa N6 Bm Ob),gK,(W.fnOf "shows" "Alike.shows" (aF fD) (aD fD) (ak fD) .none JF JG JH JD xj JK),iK,(W.fnOf "__init__" "Apart.__init__" (aF gC) (aD gC) (ak gC) .none Od Oe Og Oc Bq Oh),gM,(W.fnOf "shows" "Apart.shows" (aF fG) (aD fG) (ak fG) .none JM JN JQ JL xq JR),jJ,(W.fnOf "__init__" "Back.__init__" (aF iY) (aD iY) (ak iY) .none Ug Uh Ui Ue Fj Uj),iM,(W.fnOf "shows" "Back.shows" (aF gD) (aD gD) (ak gD) .none Oj Ol Om Oi Bt Oo),je,(W.fnOf "__init__" "Lost.__init__" (aF fV) (aD fV) (ak fV) .none Ul Um Uo Uk Fp Uq),iQ,(W.fnOf "shows" "Lost.shows" (aF gF) (aD gF) (ak gF) .none Ot Ou Ov Oq Bu Ow),m5,(W.fnOf "is_place" "is_place" (aF jP) (aD jP) (ak jP) .none XF XH XJ XD JX XM),Hx,(W.fnOf "lead" "lead" (aF Ad) (aD Ad) (ak Ad) .none ali alj alk alh agv alm),m6,(W.fnOf "all_lead" "all_lead" (aF jq) (aD jq) (ak jq) .none XR XS X3 XQ JZ X4),jf,(W.fnOf "break_alone" "break_alone" (aF fH) (aD fH) (ak fH) .none J2 J3 J4 J1 xr J5),qp,(W.fnOf "is_step" "is_step" (aF lQ) (aD lQ) (ak lQ) .none abC abD abE abB QK abF),iR,(W.fnOf "__init__" "Rules.__init__" (aF fP) (aD fP) (ak fP) .none Oz OD OJ Ox Bw O1),gO,(W.fnOf "rules" "Rules.rules" (aF fJ) (aD fJ) (ak fJ) .none J7 J8 J9 J6 xu Ka),uQ,(W.fnOf "spread" "spread" (aF oZ) (aD oZ) (ak oZ) .none aeL aeM aeN aeK Wr aeO),jK,(W.fnOf "comes_back" "comes_back" (aF gG) (aD gG) (ak gG) .none O3 O4 O5 O2 BK O6),m7,(W.fnOf "steps_by" "steps_by" (aF jQ) (aD jQ) (ak jQ) .none X6 X7 X8 X5 Kc Yb),qt,(W.fnOf "follows" "follows" (aF lR) (aD lR) (ak lR) .none abL abM abN abK QM abO),m8,(W.fnOf "steps_to" "steps_to" (aF jR) (aD jR) (ak jR) .none Yd Ye Yg Yc Kd Yh),g8,(W.fnOf "first_useful" "first_useful" (aF dw) (aD dw) (ak dw) .none G3 G4 G5 GZ u9 G6),jg,(W.fnOf "_law_cell_at" "_law_cell_at" (aF fK) (aD fK) (ak fK) .none Kf Kg Kh Ke xH Kl),m9,(W.fnOf "_law_draw" "_law_draw" (aF jT) (aD jT) (ak jT) .none Yj Yk Yl Yi Km Ym),qu,(W.fnOf "_law_set" "_law_set" (aF lU) (aD lU) (ak lU) .none abT abU abV abS QV abW),lg,(W.fnOf "_law_pairs" "_law_pairs" (aF iZ) (aD iZ) (ak iZ) .none Uv Uw Ux Uu Gh Uy),nj,(W.fnOf "_law_like" "_law_like" (aF jU) (aD jU) (ak jU) .none Yo Yp Yq Yn Kp Yr),lu,(W.fnOf "_law_keeps" "_law_keeps" (aF jb) (aD jb) (ak jb) .none UG UJ UL Uz Gm UW),jh,(W.fnOf "_law_numbers" "_law_numbers" (aF dU) (aD dU) (ak dU) .none Ks Ku Kv Kr xJ Kw),lz,(W.fnOf "_law_steps" "_law_steps" (aF jc) (aD jc) (ak jc) .none U3 U4 U5 U0 Gn U6),nu,(W.fnOf "_law_rows" "_law_rows" (aF jr) (aD jr) (ak jr) .none Yt Yu Yv Ys Kz Yw),lA,(W.fnOf "_law_parts" "_law_parts" (aF fX) (aD fX) (ak fX) .none U8 U9 Va U7 Gs Vb),lB,(W.fnOf "_law_sheet" "_law_sheet" (aF gZ) (aD gZ) (ak gZ) .none Vd Ve Vf Vc Gu Vg),ji,(W.fnOf "_law_stepped" "_law_stepped" (aF fM) (aD fM) (ak fM) .none KJ KN KQ KH xK KR),nA,(W.fnOf "_law_back" "_law_back" (aF jt) (aD jt) (ak jt) .none Yy Yz YB Yx KY YC),nC,(W.fnOf "_law_lost" "_law_lost" (aF fQ) (aD fQ) (ak fQ) .none YF YG YH YD KZ YJ),nF,(W.fnOf "_law_says" "_law_says" (aF jV) (aD jV) (ak jV) .none YL YM YQ YK K1 YS),qw,(W.fnOf "_law_row" "_law_row" (aF kh) (aD kh) (ak kh) .none ab4 ab5 ab6 ab3 Q6 ab7),cY,(W.fnOf "_law_follows_right" "_law_follows_right" (aF bZ) (aD bZ) (ak bZ) .none uU uV uW uT nR uX),qx,(W.fnOf "_law_put" "_law_put" (aF lV) (aD lV) (ak lV) .none ab9 acd ace ab8 Q7 acf),eO,(W.fnOf "_law_anew_right" "_law_anew_right" (aF cR) (aD cR) (ak cR) .none zH zJ zK zG rD zL),dJ,(W.fnOf "_law_parts_right" "_law_parts_right" (aF bW) (aD bW) (ak bW) .none xO xP xQ xM p8 xR),eU,(W.fnOf "_law_parts_anew" "_law_parts_anew" (aF cT) (aD cT) (ak cT) .none zN zO zP zM rF zQ),jL,(W.fnOf "_law_places" "_law_places" (aF gH) (aD gH) (ak gH) .none O8 O9 Pa O7 BV Pb),dM,(W.fnOf "_law_lists_right" "_law_lists_right" (aF bR) (aD bR) (ak bR) .none xU xV xW xT qg xX),fY,(W.fnOf "_law_alike_due" "_law_alike_due" (aF dD) (aD dD) (ak dD) .none CG CJ CP Cz sS CQ),eV,(W.fnOf "_law_there_anew" "_law_there_anew" (aF cU) (aD cU) (ak cU) .none zT zU zV zR rH zW),eX,(W.fnOf "_law_side_right" "_law_side_right" (aF cW) (aD cW) (ak cW) .none zY zZ z6 zX rJ z7),fa,(W.fnOf "law" "law" (aF Mx) (aD Mx) (ak Mx) .none anY anZ an0 anW akD an1),gU,jz,pP,mz,jX,jA,pQ⟩:=by
  constructor
  ·exact aJ (st:=iT) yu yw yx
  ·exact(aJ (st:=iT) yu yw yx).binds (ps:=["value", "least", "most"]) fun _ _ _ _ _ _ us hl=>match us,hl with | [_,_,_],_=>rfl
  ·exact W.mg_of X G Jg
  ·exact aJ (st:=lM) Lj Ln Lp
  ·exact(aJ (st:=lM) Lj Ln Lp).binds (ps:=["value", "least", "most"]) fun _ _ _ _ _ _ us hl=>match us,hl with | [_,_,_],_=>rfl
  ·exact W.mg_of X G Wj
  ·exact aJ (st:=jO) Ed Ef Eg
  ·exact(aJ (st:=jO) Ed Ef Eg).binds (ps:=["columns"]) fun _ _ _ _ _ _ us hl=>match us,hl with | [_],_=>rfl
  ·exact W.mg_of X G Qz
  ·exact aJ (st:=fB) tZ t6 uc
  ·exact(aJ (st:=fB) tZ t6 uc).binds (ps:=["columns"]) fun _ _ _ _ _ _ us hl=>match us,hl with | [_],_=>rfl
  ·exact W.mg_of X G Bd
  ·exact aJ (st:=oY) S8 S9 Tc
  ·exact(aJ (st:=oY) S8 S9 Tc).binds (ps:=["value", "columns"]) fun _ _ _ _ _ _ us hl=>match us,hl with | [_,_],_=>rfl
  ·exact W.mg_of X G aa6
  ·exact aJ (st:=lN) Lq Lr Ls
  ·exact(aJ (st:=lN) Lq Lr Ls).binds (ps:=["value", "columns"]) fun _ _ _ _ _ _ us hl=>match us,hl with | [_,_],_=>rfl
  ·exact W.mg_of X G Wl
  ·exact aJ (st:=gW) yC yD yE
  ·exact(aJ (st:=gW) yC yD yE).binds (ps:=["value", "columns"]) fun _ _ _ _ _ _ us hl=>match us,hl with | [_,_],_=>rfl
  ·exact W.mg_of X G Jo
  ·exact aJ (st:=mU) Tj Tn Tp
  ·exact(aJ (st:=mU) Tj Tn Tp).binds (ps:=["value", "columns"]) fun _ _ _ _ _ _ us hl=>match us,hl with | [_,_],_=>rfl
  ·exact W.mg_of X G abe
  ·exact aJ (st:=jn) Ei Ej Ek
  ·exact(aJ (st:=jn) Ei Ej Ek).binds (ps:=["value", "columns"]) fun _ _ _ _ _ _ us hl=>match us,hl with | [_,_],_=>rfl
  ·exact W.mg_of X G QC
  ·exact aJ (st:=iU) yF yG yH
  ·exact(aJ (st:=iU) yF yG yH).binds (ps:=["value", "columns"]) fun _ _ _ _ _ _ us hl=>match us,hl with | [_,_],_=>rfl
  ·exact W.mg_of X G Jq
  ·exact aJ (st:=gw) vH vI vJ
  ·exact(aJ (st:=gw) vH vI vJ).binds (ps:=["columns", "parts"]) fun _ _ _ _ _ _ us hl=>match us,hl with | [_,_],_=>rfl
  ·exact W.mg_of X G Em
  ·exact aJ (st:=iV) yI yJ yK
  ·exact(aJ (st:=iV) yI yJ yK).binds (ps:=["some", "whole"]) fun _ _ _ _ _ _ us hl=>match us,hl with | [_,_],_=>rfl
  ·exact W.mg_of X G Jr
  ·exact aJ (st:=qI) Zc Zd k_cells
  ·exact(aJ (st:=qI) Zc Zd k_cells).binds (ps:=["row", "some"]) fun _ _ _ _ _ _ us hl=>match us,hl with | [_,_],_=>rfl
  ·exact W.mg_of X G agg
  ·exact aJ (st:=tu) Ze Zf Zg
  ·exact(aJ (st:=tu) Ze Zf Zg).binds (ps:=["table", "rule"]) fun _ _ _ _ _ _ us hl=>match us,hl with | [_,_],_=>rfl
  ·exact W.mg_of X G agh
  ·exact aJ (st:=gY) yL yM yN
  ·exact(aJ (st:=gY) yL yM yN).binds (ps:=["table", "pairs"]) fun _ _ _ _ _ _ us hl=>match us,hl with | [_,_],_=>rfl
  ·exact W.mg_of X G Js
  ·exact aJ (st:=qJ) Zh Zi Zj
  ·exact(aJ (st:=qJ) Zh Zi Zj).binds (ps:=["table", "parts", "row"]) fun _ _ _ _ _ _ us hl=>match us,hl with | [_,_,_],_=>rfl
  ·exact W.mg_of X G agl
  ·exact aJ (st:=mV) T6 T7 T8
  ·exact(aJ (st:=mV) T6 T7 T8).binds (ps:=["columns", "some", "number"]) fun _ _ _ _ _ _ us hl=>match us,hl with | [_,_,_],_=>rfl
  ·exact W.mg_of X G abi
  ·exact aJ (st:=jo) Ep Es Et
  ·exact(aJ (st:=jo) Ep Es Et).binds (ps:=["columns", "parts"]) fun _ _ _ _ _ _ us hl=>match us,hl with | [_,_],_=>rfl
  ·exact W.mg_of X G QD
  ·exact aJ (st:=lO) Lw Lx Ly
  ·exact(aJ (st:=lO) Lw Lx Ly).binds (ps:=["number", "one", "other"]) fun _ _ _ _ _ _ us hl=>match us,hl with | [_,_,_],_=>rfl
  ·exact W.mg_of X G Wo
  ·exact aJ (st:=d8) vK vL vM
  ·exact(aJ (st:=d8) vK vL vM).binds (ps:=["sheet", "right", "one", "other"]) fun _ _ _ _ _ _ us hl=>match us,hl with | [_,_,_,_],_=>rfl
  ·exact W.mg_of X G Eu
  ·exact aJ (st:=gA) vN vO vP
  ·exact(aJ (st:=gA) vN vO vP).binds (ps:=["self", "places"]) fun _ _ _ _ _ _ us hl=>match us,hl with | [_,_],_=>rfl
  ·exact⟨BZ,Ew,Ey,ack⟩
  ·exact aJ (st:=fC) ud uf pH
  ·exact(aJ (st:=fC) ud uf pH).binds (ps:=["self", "rules", "left", "right"]) fun _ _ _ _ _ _ us hl=>match us,hl with | [_,_,_,_],_=>rfl
  ·exact⟨Bj,Bk,pH⟩
  ·exact aJ (st:=iW) yO yP yQ
  ·exact(aJ (st:=iW) yO yP yQ).binds (ps:=["self", "one", "other"]) fun _ _ _ _ _ _ us hl=>match us,hl with | [_,_,_],_=>rfl
  ·exact⟨Lb,Jz,JC,agS⟩
  ·exact aJ (st:=gB) vQ vR q8
  ·exact(aJ (st:=gB) vQ vR q8).binds (ps:=["self", "rules", "left", "right"]) fun _ _ _ _ _ _ us hl=>match us,hl with | [_,_,_,_],_=>rfl
  ·exact⟨EY,Fb,q8⟩
  ·exact aJ (st:=d9) vU vV vW
  ·exact(aJ (st:=d9) vU vV vW).binds (ps:=["self", "there", "back"]) fun _ _ _ _ _ _ us hl=>match us,hl with | [_,_,_],_=>rfl
  ·exact⟨Ia,Fd,Fe,acr⟩
  ·exact aJ (st:=fD) ug uh pI
  ·exact(aJ (st:=fD) ug uh pI).binds (ps:=["self", "one", "other"]) fun _ _ _ _ _ _ us hl=>match us,hl with | [_,_,_],_=>rfl
  ·exact⟨Bo,Bp,pI⟩
  ·exact aJ (st:=gC) vX vY vZ
  ·exact(aJ (st:=gC) vX vY vZ).binds (ps:=["self", "side", "place", "one", "other"]) fun _ _ _ _ _ _ us hl=>match us,hl with | [_,_,_,_,_],_=>rfl
  ·exact⟨Ie,Fg,Fi,acy⟩
  ·exact aJ (st:=fG) um uo pJ
  ·exact(aJ (st:=fG) um uo pJ).binds (ps:=["self", "one", "other"]) fun _ _ _ _ _ _ us hl=>match us,hl with | [_,_,_],_=>rfl
  ·exact⟨Br,Bs,pJ⟩
  ·exact aJ (st:=iY) yR yS yU
  ·exact(aJ (st:=iY) yR yS yU).binds (ps:=["self", "steps"]) fun _ _ _ _ _ _ us hl=>match us,hl with | [_,_],_=>rfl
  ·exact⟨Ld,JS,JT,agX⟩
  ·exact aJ (st:=gD) v5 v7 q9
  ·exact(aJ (st:=gD) v5 v7 q9).binds (ps:=["self", "rules", "parts"]) fun _ _ _ _ _ _ us hl=>match us,hl with | [_,_,_],_=>rfl
  ·exact⟨Fl,Fo,q9⟩
  ·exact aJ (st:=fV) yV yW yX
  ·exact(aJ (st:=fV) yV yW yX).binds (ps:=["self", "table", "row"]) fun _ _ _ _ _ _ us hl=>match us,hl with | [_,_,_],_=>rfl
  ·exact⟨Le,JV,JW,ag2⟩
  ·exact aJ (st:=gF) v8 v9 rm
  ·exact(aJ (st:=gF) v8 v9 rm).binds (ps:=["self", "rules", "parts"]) fun _ _ _ _ _ _ us hl=>match us,hl with | [_,_,_],_=>rfl
  ·exact⟨Fq,Ft,rm⟩
  ·exact aJ (st:=jP) Fv Fw Fx
  ·exact(aJ (st:=jP) Fv Fw Fx).binds (ps:=["value", "things"]) fun _ _ _ _ _ _ us hl=>match us,hl with | [_,_],_=>rfl
  ·exact W.mg_of X G QG
  ·exact aJ (st:=Ad) agw agx agy
  ·exact(aJ (st:=Ad) agw agx agy).binds (ps:=["places", "rules", "left", "right"]) fun _ _ _ _ _ _ us hl=>match us,hl with | [_,_,_,_],_=>rfl
  ·exact W.mg_of X G akm
  ·exact aJ (st:=jq) Fy Fz FJ
  ·exact(aJ (st:=jq) Fy Fz FJ).binds (ps:=["lists", "rules", "others"]) fun _ _ _ _ _ _ us hl=>match us,hl with | [_,_,_],_=>rfl
  ·exact W.mg_of X G QJ
  ·exact aJ (st:=fH) uq ur uw
  ·exact(aJ (st:=fH) uq ur uw).binds (ps:=["rows", "rules", "rule"]) fun _ _ _ _ _ _ us hl=>match us,hl with | [_,_,_],_=>rfl
  ·exact W.mg_of X G Bv
  ·exact aJ (st:=lQ) Lz LC LK
  ·exact(aJ (st:=lQ) Lz LC LK).binds (ps:=["step", "pairs", "sheet"]) fun _ _ _ _ _ _ us hl=>match us,hl with | [_,_,_],_=>rfl
  ·exact W.mg_of X G Wq
  ·exact aJ (st:=fP) wj wk wu
  ·exact(aJ (st:=fP) wj wk wu).binds (ps:=["self", "columns", "rules"]) fun _ _ _ _ _ _ us hl=>match us,hl with | [_,_,_],_=>rfl
  ·exact⟨Ca,FN,FP,acD⟩
  ·exact aJ (st:=fJ) ux uy pK
  ·exact(aJ (st:=fJ) ux uy pK).binds (ps:=["self"]) fun _ _ _ _ _ _ us hl=>match us,hl with | [_],_=>rfl
  ·exact⟨Bx,BJ,pK⟩
  ·exact aJ (st:=oZ) Ur Us Ut
  ·exact(aJ (st:=oZ) Ur Us Ut).binds (ps:=["pairs", "some"]) fun _ _ _ _ _ _ us hl=>match us,hl with | [_,_],_=>rfl
  ·exact W.mg_of X G abJ
  ·exact aJ (st:=gG) wz wA wB
  ·exact(aJ (st:=gG) wz wA wB).binds (ps:=["rules", "parts"]) fun _ _ _ _ _ _ us hl=>match us,hl with | [_,_],_=>rfl
  ·exact W.mg_of X G FQ
  ·exact aJ (st:=jQ) FT FW FZ
  ·exact(aJ (st:=jQ) FT FW FZ).binds (ps:=["sheet", "place", "rule"]) fun _ _ _ _ _ _ us hl=>match us,hl with | [_,_,_],_=>rfl
  ·exact W.mg_of X G QL
  ·exact aJ (st:=lR) LQ LR Ma
  ·exact(aJ (st:=lR) LQ LR Ma).binds (ps:=["rules", "left", "right"]) fun _ _ _ _ _ _ us hl=>match us,hl with | [_,_,_],_=>rfl
  ·exact W.mg_of X G Ws
  ·exact aJ (st:=jR) Ga Gb Gd
  ·exact(aJ (st:=jR) Ga Gb Gd).binds (ps:=["pairs", "left", "right"]) fun _ _ _ _ _ _ us hl=>match us,hl with | [_,_,_],_=>rfl
  ·exact W.mg_of X G QS
  ·exact aJ (st:=dw) rA rB rC
  ·exact(aJ (st:=dw) rA rB rC).binds (ps:=["pairs", "known"]) fun _ _ _ _ _ _ us hl=>match us,hl with | [_,_],_=>rfl
  ·exact W.mg_of X G xG
  ·exact aJ (st:=fK) uz uD uE
  ·exact(aJ (st:=fK) uz uD uE).binds (ps:=["_law_script", "_law_k"]) fun _ _ _ _ _ _ us hl=>match us,hl with | [_,_],_=>rfl
  ·exact W.mg_of X G BL
  ·exact aJ (st:=jT) Ge Gf Gg
  ·exact(aJ (st:=jT) Ge Gf Gg).binds (ps:=["_law_cell", "_law_k", "_law_many"]) fun _ _ _ _ _ _ us hl=>match us,hl with | [_,_,_],_=>rfl
  ·exact W.mg_of X G QT
  ·exact aJ (st:=lU) Mf Mg Mh
  ·exact(aJ (st:=lU) Mf Mg Mh).binds (ps:=["_law_cell", "_law_columns"]) fun _ _ _ _ _ _ us hl=>match us,hl with | [_,_],_=>rfl
  ·exact W.mg_of X G Wt
  ·exact aJ (st:=iZ) yZ za zb
  ·exact(aJ (st:=iZ) yZ za zb).binds (ps:=["_law_cell", "_law_columns", "_law_most"]) fun _ _ _ _ _ _ us hl=>match us,hl with | [_,_,_],_=>rfl
  ·exact W.mg_of X G Ko
  ·exact aJ (st:=jU) Gi Gj Gk
  ·exact(aJ (st:=jU) Gi Gj Gk).binds (ps:=["_law_one", "_law_other", "_law_some"]) fun _ _ _ _ _ _ us hl=>match us,hl with | [_,_,_],_=>rfl
  ·exact W.mg_of X G QW
  ·exact aJ (st:=jb) zc zf zj
  ·exact(aJ (st:=jb) zc zf zj).binds (ps:=["_law_table", "_law_rule"]) fun _ _ _ _ _ _ us hl=>match us,hl with | [_,_],_=>rfl
  ·exact W.mg_of X G Kq
  ·exact aJ (st:=dU) uF uG uH
  ·exact(aJ (st:=dU) uF uG uH).binds (ps:=["_law_found", "_law_most"]) fun _ _ _ _ _ _ us hl=>match us,hl with | [_,_],_=>rfl
  ·exact W.mg_of X G BP
  ·exact aJ (st:=jc) zm zq zu
  ·exact(aJ (st:=jc) zm zq zu).binds (ps:=["_law_pairs_here", "_law_left", "_law_right", "_law_places_here"]) fun _ _ _ _ _ _ us hl=>match us,hl with | [_,_,_,_],_=>rfl
  ·exact W.mg_of X G Ky
  ·exact aJ (st:=jr) Gp Gq Gr
  ·exact(aJ (st:=jr) Gp Gq Gr).binds (ps:=["_law_pairs_here", "_law_columns", "_law_left", "_law_right", "_law_one", "_law_other"]) fun _ _ _ _ _ _ us hl=>match us,hl with | [_,_,_,_,_,_],_=>rfl
  ·exact W.mg_of X G QX
  ·exact aJ (st:=fX) zx zy zA
  ·exact(aJ (st:=fX) zx zy zA).binds (ps:=["_law_cell", "_law_columns"]) fun _ _ _ _ _ _ us hl=>match us,hl with | [_,_],_=>rfl
  ·exact W.mg_of X G KC
  ·exact aJ (st:=gZ) zB zE zF
  ·exact(aJ (st:=gZ) zB zE zF).binds (ps:=["_law_parts_here", "_law_columns"]) fun _ _ _ _ _ _ us hl=>match us,hl with | [_,_],_=>rfl
  ·exact W.mg_of X G KD
  ·exact aJ (st:=fM) uI uJ uK
  ·exact(aJ (st:=fM) uI uJ uK).binds (ps:=["_law_sheet_here", "_law_one", "_law_other", "_law_right"]) fun _ _ _ _ _ _ us hl=>match us,hl with | [_,_,_,_],_=>rfl
  ·exact W.mg_of X G BR
  ·exact aJ (st:=jt) Gv Gw Gx
  ·exact(aJ (st:=jt) Gv Gw Gx).binds (ps:=["_law_pairs_here", "_law_columns", "_law_parts_here", "_law_steps_here"]) fun _ _ _ _ _ _ us hl=>match us,hl with | [_,_,_,_],_=>rfl
  ·exact W.mg_of X G QZ
  ·exact aJ (st:=fQ) Gy Gz GC
  ·exact(aJ (st:=fQ) Gy Gz GC).binds (ps:=["_law_pairs_here", "_law_columns", "_law_parts_here", "_law_table", "_law_row_here"]) fun _ _ _ _ _ _ us hl=>match us,hl with | [_,_,_,_,_],_=>rfl
  ·exact W.mg_of X G Q0
  ·exact aJ (st:=jV) GD GF GJ
  ·exact(aJ (st:=jV) GD GF GJ).binds (ps:=["_law_said", "_law_due"]) fun _ _ _ _ _ _ us hl=>match us,hl with | [_,_],_=>rfl
  ·exact W.mg_of X G Q5
  ·exact aJ (st:=kh) Mi Mj Ml
  ·exact(aJ (st:=kh) Mi Mj Ml).binds (ps:=["_law_cell", "_law_columns"]) fun _ _ _ _ _ _ us hl=>match us,hl with | [_,_],_=>rfl
  ·exact W.mg_of X G Wu
  ·exact aJ (st:=bZ) jZ j4 j5
  ·exact(aJ (st:=bZ) jZ j4 j5).binds (ps:=["_law_rules", "_law_cell", "_law_columns"]) fun _ _ _ _ _ _ us hl=>match us,hl with | [_,_,_],_=>rfl
  ·exact W.mg_of X G oV
  ·exact aJ (st:=lV) Mp Mq Mr
  ·exact(aJ (st:=lV) Mp Mq Mr).binds (ps:=["_law_some", "_law_others"]) fun _ _ _ _ _ _ us hl=>match us,hl with | [_,_],_=>rfl
  ·exact W.mg_of X G Wv
  ·exact aJ (st:=cR) n6 oh ou
  ·exact(aJ (st:=cR) n6 oh ou).binds (ps:=["_law_rules", "_law_answer", "_law_cell", "_law_columns", "_law_left", "_law_right"]) fun _ _ _ _ _ _ us hl=>match us,hl with | [_,_,_,_,_,_],_=>rfl
  ·exact W.mg_of X G sJ
  ·exact aJ (st:=bW) mC mD mF
  ·exact(aJ (st:=bW) mC mD mF).binds (ps:=["_law_rules", "_law_cell", "_law_columns"]) fun _ _ _ _ _ _ us hl=>match us,hl with | [_,_,_],_=>rfl
  ·exact W.mg_of X G rE
  ·exact aJ (st:=cT) oA oE oF
  ·exact(aJ (st:=cT) oA oE oF).binds (ps:=["_law_rules", "_law_parts_here", "_law_answer", "_law_other", "_law_cell", "_law_columns"]) fun _ _ _ _ _ _ us hl=>match us,hl with | [_,_,_,_,_,_],_=>rfl
  ·exact W.mg_of X G sO
  ·exact aJ (st:=gH) wC wD wF
  ·exact(aJ (st:=gH) wC wD wF).binds (ps:=["_law_pairs_here", "_law_rules"]) fun _ _ _ _ _ _ us hl=>match us,hl with | [_,_],_=>rfl
  ·exact W.mg_of X G GK
  ·exact aJ (st:=bR) mG mH mJ
  ·exact(aJ (st:=bR) mG mH mJ).binds (ps:=["_law_one", "_law_other", "_law_cell", "_law_columns"]) fun _ _ _ _ _ _ us hl=>match us,hl with | [_,_,_,_],_=>rfl
  ·exact W.mg_of X G rG
  ·exact aJ (st:=dD) pR pU pW
  ·exact(aJ (st:=dD) pR pU pW).binds (ps:=["_law_pairs_here", "_law_others", "_law_there", "_law_back_here"]) fun _ _ _ _ _ _ us hl=>match us,hl with | [_,_,_,_],_=>rfl
  ·exact W.mg_of X G vd
  ·exact aJ (st:=cU) oG oH oJ
  ·exact(aJ (st:=cU) oG oH oJ).binds (ps:=["_law_one", "_law_other", "_law_answer", "_law_cell"]) fun _ _ _ _ _ _ us hl=>match us,hl with | [_,_,_,_],_=>rfl
  ·exact W.mg_of X G sU
  ·exact aJ (st:=cW) oK oM oN
  ·exact(aJ (st:=cW) oK oM oN).binds (ps:=["_law_one", "_law_other", "_law_cell", "_law_columns"]) fun _ _ _ _ _ _ us hl=>match us,hl with | [_,_,_,_],_=>rfl
  ·exact W.mg_of X G sV
  ·exact aJ (st:=Mx) alo alp alq
  ·exact(aJ (st:=Mx) alo alp alq).binds (ps:=["_law_script"]) fun _ _ _ _ _ _ us hl=>match us,hl with | [_],_=>rfl
  ·exact W.mg_of X G aln
  ·exact⟨acg,ach,aci,acj⟩
  ·exact W.mg_of X G aaU
  ·exact eE
  ·exact⟨agO,agP,agQ,agR⟩
  ·exact W.mg_of X G afZ
  ·exact jj
  ·exact cX
  ·exact⟨acn,aco,acp,acq⟩
  ·exact W.mg_of X G aaV
  ·exact dX
  ·exact jk
  ·exact⟨acs,acu,acv,acw⟩
  ·exact W.mg_of X G aaW
  ·exact gQ
  ·exact ig
  ·exact jM
  ·exact jx
  ·exact⟨agT,agU,agV,agW⟩
  ·exact W.mg_of X G af0
  ·exact dY
  ·exact⟨agY,agZ,ag0,ag1⟩
  ·exact W.mg_of X G af2
  ·exact cu
  ·exact eY
  ·exact⟨acz,acA,acB,acC⟩
  ·exact W.mg_of X G aaX
  ·exact bx
  ·exact kj
  ·exact⟨acE,acF,acG,acH⟩
  ·exact kE
  ·exact pD
  ·exact tK
  ·exact tM
  ·exact⟨ag3,ag4,ag5,ag6⟩
  ·exact lZ
  ·exact qO
  ·exact vz
  ·exact vA
  ·exact⟨ag7,ag8,ag9,aha⟩
  ·exact tO
  ·exact vB
  ·exact qP
  ·exact qQ
  ·exact⟨ahb,ahc,ahd,ahe⟩
  ·exact tQ
  ·exact vC
  ·exact qR
  ·exact qT
  ·exact W.mg_none_of X G yo
  ·exact W.mg_none_of X G ahX
  ·exact W.mg_none_of X G Qm
  ·exact W.mg_none_of X G lD
  ·exact W.mg_none_of X G aeh
  ·exact W.mg_none_of X G bU
  ·exact W.mg_none_of X G gh
  ·exact W.mg_none_of X G dZ
  ·exact W.mg_none_of X G aei
  ·exact W.mg_none_of X G dO
  ·exact W.mg_none_of X G yp
  ·exact W.mg_none_of X G aej
  ·exact⟨_,W.mg_of X G nM⟩
  ·exact⟨_,W.mg_of X G qU⟩
  ·exact⟨_,W.mg_of X G uR⟩
  ·exact⟨_,W.mg_of X G pF⟩
  ·exact⟨_,W.mg_of X G qW⟩
 exact⟨_,fun s v=>.of_eq rfl,fun base _ _=>apO T⟩
theorem walk {l:W.OpenLaw} {q:Program} {loose:List Str} {XP:(Str→Option Value)→Heap→Prop} {YP:World→Heap→Prop} {d:DefRec} {K:Params→W.Frag} (hn:l.most=some 63) (hdf:d.params.defaults = [])
  (hY:∀ (w:World) (h:Heap),YP w h→(K w.params).In h)
  (F:∀ (w:World) (mg:Str→Option Value) (fa:Addr) (h:Heap),(K w.params).In h→h.Ns mainGlobals mg→mg d.name=some (.ref fa) →
   ∃ fd:FuncData,(∀ (s:Shared) (u:Value),BindsTo s fd ⟨[u],[]⟩ [("_law_script",u)])∧∀ base:Heap,(K w.params).In base→base.Ns mainGlobals mg→FnOk l.prog w (K w.params) mg base CX0 15 fa fd ["_law_script"] (afY (K w.params))) :
  W.WalkO q loose XP YP l.row.toRowW d [] (fun f vs=>PySem.call f vs) :=
 L2.aod (n:=63) (k:=15) (x := "_law_script") (CX:=fun _=>CX0) (sp:=fun w=>afY (K w.params)) hn (by decide) hdf ⟨rfl,by decide,by decide⟩ hY F (fun _ _ a ns hl _ hS=>⟨a,ns,rfl,hS,hl,fun _=>rfl⟩) fun _ _ _ _ _ z=>z
end K12
namespace PySem.W.Fast
def tw15471105063712203826:Unit:=()
def tw4598176861389806140:Unit:=()
def tw10319572960959314617:Unit:=()
def tw4235599054168324399:Unit:=()
def tw13937009215983880096:Unit:=()
def tw16523981381182016356:Unit:=()
def tw18355905464972586689:Unit:=()
def tw5906536090329576232:Unit:=()
def tw9648764231303639639:Unit:=()
def tw18106340944747114070:Unit:=()
def tw12364121217682424505:Unit:=()
def tw13496469257160484827:Unit:=()
def tw16792999113291847297:Unit:=()
def tw6264198735237716514:Unit:=()
def tw11564400513443963369:Unit:=()
def tw8038747713955579381:Unit:=()
def tw232988110760873340:Unit:=()
def tw9927493482718989584:Unit:=()
def tw576960123281185728:Unit:=()
def tw9139310703635761946:Unit:=()
def tw14003750128926728954:Unit:=()
def tw11358404369734172951:Unit:=()
def tw8334399696427595532:Unit:=()
def tw18373207177699707342:Unit:=()
def tw18430656550086852559:Unit:=()
def tw4941113146557917751:Unit:=()
def tw7415047994026421814:Unit:=()
def tw5929999025359051501:Unit:=()
def tw5128294269544192746:Unit:=()
def tw794316152818690357:Unit:=()
def tw5766026244147883075:Unit:=()
def tw16365263375250733693:Unit:=()
def tw13773515924926017525:Unit:=()
def tw14272206755784285537:Unit:=()
def tw409457955606034924:Unit:=()
def tw2863803420373652077:Unit:=()
def tw18220551112565907656:Unit:=()
def tw17531781338193632018:Unit:=()
def tw2133017192249560697:Unit:=()
def tw7381548403706641328:Unit:=()
def tw14961613655633615195:Unit:=()
def tw2243208414993763990:Unit:=()
def tw11043453180712354518:Unit:=()
def tw11126910687080947154:Unit:=()
def tw16922612960174614218:Unit:=()
def tw14571718471671140809:Unit:=()
def tw190834783058394405:Unit:=()
def tw9649488547771838163:Unit:=()
def tw7705983251498311397:Unit:=()
def tw13188692423943963647:Unit:=()
def tw17073265424103197489:Unit:=()
def tw4708263294522315164:Unit:=()
def tw5957511866744208156:Unit:=()
def tw14162302289433655485:Unit:=()
def tw15630642549091714458:Unit:=()
def tw2810553154609189655:Unit:=()
def tw14124600309825134996:Unit:=()
def tw14684249498657143480:Unit:=()
def tw15444603141381965089:Unit:=()
def tw9236231855319219573:Unit:=()
def tw15430722924848622536:Unit:=()
def tw5611581354469133925:Unit:=()
def tw7836634994220886482:Unit:=()
def tw11283027124731825646:Unit:=()
def tw16776208872257039097:Unit:=()
def tw14577911907598632174:Unit:=()
def tw15189836100144741351:Unit:=()
def tw2341924789864271957:Unit:=()
def tw5318997081674580190:Unit:=()
def tw15481292580414509765:Unit:=()
def tw5954912894690132649:Unit:=()
def tw9441798563936007072:Unit:=()
def tw1628726773943161600:Unit:=()
def tw5788550378006875239:Unit:=()
def tw6523517543291200928:Unit:=()
def tw10123369765244323145:Unit:=()
def tw2905920707065152553:Unit:=()
def tw4845002811782673677:Unit:=()
def tw17821982344123024137:Unit:=()
def tw14573265599717943326:Unit:=()
def tw17265551905730717389:Unit:=()
def tw12968838457903145677:Unit:=()
def tw7658449353694848687:Unit:=()
def tw4285026740440928941:Unit:=()
def tw2837219010736111095:Unit:=()
def tw7983468629192896647:Unit:=()
def tw13608068095388278162:Unit:=()
def tw3845397809010785179:Unit:=()
def tw16500737924298158148:Unit:=()
def tw15947920020856398294:Unit:=()
def tw9184394404298467946:Unit:=()
def tw7493869067072394849:Unit:=()
def tw10111975996968544829:Unit:=()
def tw11107184791636404648:Unit:=()
def tw14221527541065288222:Unit:=()
def tw12275826641990721744:Unit:=()
def tw17590925164278820089:Unit:=()
def tw679517090490056094:Unit:=()
def tw4995506623483364458:Unit:=()
def tw12790473211697878708:Unit:=()
def tw17995907178364355583:Unit:=()
def tw3564898172185681852:Unit:=()
def tw13649385879104865269:Unit:=()
def tw4927800713952158687:Unit:=()
def tw7014111824812057127:Unit:=()
def tw13481861781059877447:Unit:=()
def tw15655941123690183422:Unit:=()
def tw2761963132265259464:Unit:=()
def tw11355513328554661515:Unit:=()
def tw2561414890745335945:Unit:=()
def tw8311609925236189027:Unit:=()
def tw668366568754261461:Unit:=()
def tw12797616822490034360:Unit:=()
def tw10162569691453307527:Unit:=()
def tw4966539788365339498:Unit:=()
def tw14709328514158353689:Unit:=()
def tw15495135952819728989:Unit:=()
def tw10637767348899866335:Unit:=()
def tw2898851914854025407:Unit:=()
def tw3676366335273101759:Unit:=()
def tw11495544160533005825:Unit:=()
def tw774061630873135958:Unit:=()
def tw206785207844611252:Unit:=()
def tw10736151908747241012:Unit:=()
def tw6658880139843956258:Unit:=()
def tw11042424287369871987:Unit:=()
def tw11228445720002474706:Unit:=()
def tw3649388368933364120:Unit:=()
def tw3047495647309448808:Unit:=()
def tw6080270313366096346:Unit:=()
def tw1933741263325385144:Unit:=()
def tw4745904683407178063:Unit:=()
def tw14934003986332862891:Unit:=()
def tw12974308851999461010:Unit:=()
def tw6129805591823206286:Unit:=()
def tw14462958708908052189:Unit:=()
def tw16502258355374855005:Unit:=()
def tw16736003381223842864:Unit:=()
def tw17064152925615596402:Unit:=()
def tw14076961733936481332:Unit:=()
def tw2692202956515840695:Unit:=()
def tw13871586851552678172:Unit:=()
def tw12431580602103939160:Unit:=()
def tw14281430075535275674:Unit:=()
def tw15287390831016757894:Unit:=()
def tw14078229003239560671:Unit:=()
def tw12702853097047886628:Unit:=()
def tw553388041939969196:Unit:=()
def tw11216600804530146403:Unit:=()
def tw4904714577927272987:Unit:=()
def tw512918210575624953:Unit:=()
def tw9440657813372324919:Unit:=()
def tw13697288564695050379:Unit:=()
def tw6395164425678436924:Unit:=()
def tw15030726442767881563:Unit:=()
def tw11909389561866828859:Unit:=()
def tw1908522318248183574:Unit:=()
def tw13818827392854477617:Unit:=()
def tw7115883239364805619:Unit:=()
def tw6085578269971301670:Unit:=()
def tw10767169961684506166:Unit:=()
def tw5986446086131105544:Unit:=()
def tw4998183113525128798:Unit:=()
def tw9065067143609055577:Unit:=()
def tw8536502369064583296:Unit:=()
def tw14069324412331963880:Unit:=()
def tw10420459056955191850:Unit:=()
def tw3023152439226438120:Unit:=()
def tw10460762478828081969:Unit:=()
def tw7992319970870145100:Unit:=()
def tw12052405624059361326:Unit:=()
def tw15718526094603473607:Unit:=()
def tw15013166735526952957:Unit:=()
def tw5648768689027932445:Unit:=()
def tw2885806582714439631:Unit:=()
def tw7638115842647779721:Unit:=()
def tw3781828004067862953:Unit:=()
def tw888345668095021852:Unit:=()
def tw12524714838200262271:Unit:=()
def tw4262884691653924012:Unit:=()
def tw1576793577708770082:Unit:=()
def tw17463064031723255544:Unit:=()
def tw11200092352634199726:Unit:=()
def tw14487976029444617488:Unit:=()
def tw13875435703338930625:Unit:=()
def tw15902049422536175324:Unit:=()
def tw3571298121633859017:Unit:=()
def tw16814225269250555947:Unit:=()
def tw15703638790796293713:Unit:=()
def tw10492411129885014564:Unit:=()
def tw16491535368922721036:Unit:=()
def tw286350180946089862:Unit:=()
def tw12900876573180605522:Unit:=()
def tw8191383714681073637:Unit:=()
def tw7190300261564269815:Unit:=()
def tw13858209919741245628:Unit:=()
def tw7990473513200506252:Unit:=()
def tw9097767400401476316:Unit:=()
def tw11441199162766355442:Unit:=()
def tw13523864686688886287:Unit:=()
def tw8594283460523862775:Unit:=()
def tw8589517684532648067:Unit:=()
def tw4423355868599807862:Unit:=()
def tw426857498538328908:Unit:=()
def tw12487641887322970173:Unit:=()
def tw11036992189590712291:Unit:=()
def tw404169288924301779:Unit:=()
def tw6483686191418019239:Unit:=()
def tw9416916783840246959:Unit:=()
def tw18034437712349415802:Unit:=()
def tw9669228959089476020:Unit:=()
def tw4129678803952165609:Unit:=()
def tw13029804737367660870:Unit:=()
def tw2959144128744404086:Unit:=()
def tw1688625680461642720:Unit:=()
def tw5950758569289418508:Unit:=()
def tw6625631842880957170:Unit:=()
def tw7651797084507375053:Unit:=()
def tw15624174903064820352:Unit:=()
def tw4417540646472231951:Unit:=()
def tw16657953878886576333:Unit:=()
def tw12972305805293021050:Unit:=()
def tw10001305891567697876:Unit:=()
def tw14466876414412510057:Unit:=()
def tw11262517607044656644:Unit:=()
def tw1514380384301170853:Unit:=()
def tw15720524047185087412:Unit:=()
def tw13711296680334890829:Unit:=()
def tw12531950907267239404:Unit:=()
def tw10637174802411670710:Unit:=()
def tw7534502583600866664:Unit:=()
def tw15939471118732673217:Unit:=()
def tw12267324568856012139:Unit:=()
def tw17869909632143230886:Unit:=()
def tw12983604875191180151:Unit:=()
def tw13394234553744549717:Unit:=()
def tw14623256164846713792:Unit:=()
def tw1763802646440840481:Unit:=()
def tw15130551249833118311:Unit:=()
def tw10482410496553389000:Unit:=()
def tw8393852691216088503:Unit:=()
def tw17144768416183132432:Unit:=()
def tw15783040871434728440:Unit:=()
def tw15315240623319086407:Unit:=()
def tw7262663301112761025:Unit:=()
def tw3241471573677731345:Unit:=()
def tw7371592832322244270:Unit:=()
def tw14320164481409952304:Unit:=()
def tw3368584668125611926:Unit:=()
def tw10453419654261574091:Unit:=()
def tw13304410713134209382:Unit:=()
def tw8956799028278290230:Unit:=()
def tw6416399015301973041:Unit:=()
def tw3435153502402720959:Unit:=()
def tw10022630003759016580:Unit:=()
def tw11919173415773088876:Unit:=()
def tw500700766057684562:Unit:=()
def tw10403656286998136426:Unit:=()
def tw10659924285074740019:Unit:=()
def tw1547766235379708562:Unit:=()
def tw2121029709974897572:Unit:=()
def tw4459975352180516839:Unit:=()
def tw3208356956115842061:Unit:=()
def tw5976955494111307624:Unit:=()
def tw6777162737470955502:Unit:=()
def tw17380517848277372629:Unit:=()
def tw9121647695871701745:Unit:=()
def tw1053740040929051636:Unit:=()
def tw13740333246113733946:Unit:=()
def tw7074925564318986609:Unit:=()
def tw16664711365057177896:Unit:=()
def tw2425180482318995956:Unit:=()
def tw1740227549921671932:Unit:=()
def tw4775847423633809937:Unit:=()
def tw11603659264251210608:Unit:=()
def tw712647787804043069:Unit:=()
def tw2765596870473548682:Unit:=()
def tw3033933843772861792:Unit:=()
def tw10845887466111794232:Unit:=()
def tw9340739964059924254:Unit:=()
def tw3750967860475266030:Unit:=()
def tw6914959448541325647:Unit:=()
def tw15385138147437856425:Unit:=()
def tw14947814562021098034:Unit:=()
def tw13848596351296617900:Unit:=()
def tw14992695403181972088:Unit:=()
def tw1336035099634306908:Unit:=()
def tw9399508768196059054:Unit:=()
def tw17744696013911020246:Unit:=()
def tw951718836331815361:Unit:=()
def tw88773753387503624:Unit:=()
def tw8378545611973927147:Unit:=()
def tw5044393927187089728:Unit:=()
def tw14885042940180589430:Unit:=()
def tw17529669769975700583:Unit:=()
def tw1748431519326772861:Unit:=()
def tw1349286569714445621:Unit:=()
def tw4000107922198285085:Unit:=()
def tw3472012230106542233:Unit:=()
def tw11522743916188907578:Unit:=()
def tw11252068893949946203:Unit:=()
def tw2463997565459385539:Unit:=()
def tw13774935200488051842:Unit:=()
def tw18289167759224395398:Unit:=()
def tw3636758696983109048:Unit:=()
def tw14136711517042100855:Unit:=()
def tw11004143563246412628:Unit:=()
def tw1898537599226090306:Unit:=()
def tw789223601884747771:Unit:=()
def tw5961433376590154940:Unit:=()
def tw5475095015301981315:Unit:=()
def tw4816720871014903168:Unit:=()
def tw15197868303482758240:Unit:=()
def tw18092470553581903105:Unit:=()
def tw15576153953328932741:Unit:=()
def tw14998119217830632499:Unit:=()
def tw8172597318212538592:Unit:=()
def tw6797013494712684112:Unit:=()
def tw7062981241778350565:Unit:=()
def tw6827150978169621835:Unit:=()
def tw8823652232955629269:Unit:=()
def tw718900728597473544:Unit:=()
def tw10469008095874478272:Unit:=()
def tw1361784353966709168:Unit:=()
def tw7810558721027517082:Unit:=()
def tw5205868327356674203:Unit:=()
def tw10559010600659249242:Unit:=()
def tw11596524725216479937:Unit:=()
def tw1561389205368580995:Unit:=()
def tw11477182086518187617:Unit:=()
def tw18336386053395696428:Unit:=()
def tw11646228467777619595:Unit:=()
def tw8343031363654131907:Unit:=()
def tw13473177030324198951:Unit:=()
def tw11051399323025539484:Unit:=()
def tw12195299859975417193:Unit:=()
def tw18353949656428067609:Unit:=()
def tw15192221089619065661:Unit:=()
def tw3396824171463286222:Unit:=()
def tw10186534189857312515:Unit:=()
def tw4407243250117563541:Unit:=()
def tw7918860131620567394:Unit:=()
def tw16218235006559139365:Unit:=()
def tw5918296417513032984:Unit:=()
def tw7295753480435264509:Unit:=()
def tw15590643351280054744:Unit:=()
def tw4465910410839949976:Unit:=()
def tw6083853789825392476:Unit:=()
def tw12456493808928890916:Unit:=()
def tw11240149462774796098:Unit:=()
def tw7842835843344693091:Unit:=()
def tw6203489766459699795:Unit:=()
def tw4095793032031733538:Unit:=()
def tw17318753753548852309:Unit:=()
def tw8804443712813082407:Unit:=()
def tw14876694047908146641:Unit:=()
def tw7053481898974738870:Unit:=()
def tw4536822890873571758:Unit:=()
def tw5407649897242481413:Unit:=()
def tw14620448562319845481:Unit:=()
def tw6156867227803752455:Unit:=()
def tw15521533390942978953:Unit:=()
def tw3900423264237067091:Unit:=()
def tw11245029164983145371:Unit:=()
def tw6170138839700376689:Unit:=()
def tw2185349598677966899:Unit:=()
def tw113174346219209425:Unit:=()
def tw3896012670614019756:Unit:=()
def tw3902302314370008388:Unit:=()
def tw16091644898578634876:Unit:=()
def tw8673676248832141638:Unit:=()
def tw16441084981193816305:Unit:=()
def tw1817550546122631994:Unit:=()
def tw3981620764471031440:Unit:=()
def tw14406910888986992505:Unit:=()
def tw4143696579328040779:Unit:=()
def tw16637307787214824118:Unit:=()
def tw2408996369136771737:Unit:=()
def tw16893802016882853373:Unit:=()
def tw7424354397018317932:Unit:=()
def tw1693814769135277871:Unit:=()
def tw7557898798753770577:Unit:=()
def tw4840680493908228106:Unit:=()
def tw1419558604164512063:Unit:=()
def tw13575304654981741628:Unit:=()
def tw17803010356131688480:Unit:=()
def tw8004949397703569745:Unit:=()
def tw13779944992410599439:Unit:=()
def tw5300919521687807613:Unit:=()
def tw17838479042460663225:Unit:=()
def tw9124728817424080672:Unit:=()
def tw6802811525827552908:Unit:=()
def tw11878445229734869393:Unit:=()
def tw15007745550141602052:Unit:=()
def tw8419519404265169477:Unit:=()
def tw11175079133183015483:Unit:=()
def tw9206094793016788532:Unit:=()
def tw10871751637347958261:Unit:=()
def tw17295400855365283656:Unit:=()
def tw18232169668116920049:Unit:=()
def tw11148415339591437000:Unit:=()
def tw7025637422181668482:Unit:=()
def tw14664978556328017820:Unit:=()
def tw17753563305783507313:Unit:=()
def tw17999914122928636260:Unit:=()
def tw11166985815482411708:Unit:=()
def tw7432298360131514628:Unit:=()
def tw5727818339524429302:Unit:=()
def tw2934897583354320081:Unit:=()
def tw9329395873234981471:Unit:=()
def tw1892354275326295586:Unit:=()
def tw1514818343359091790:Unit:=()
def tw13408334123762944126:Unit:=()
def tw1516985807315796815:Unit:=()
def tw14805834524430807505:Unit:=()
def tw5346319939815146672:Unit:=()
def tw13566510543105111472:Unit:=()
def tw13806425192272904514:Unit:=()
def tw16440352682756592457:Unit:=()
def tw12601788562373267769:Unit:=()
def tw299233039791767731:Unit:=()
def tw11280129952770608633:Unit:=()
def tw7947377475479944770:Unit:=()
def tw17140547950627204541:Unit:=()
def tw6219770817273311906:Unit:=()
def tw8799817910198147566:Unit:=()
def tw18036631410848803314:Unit:=()
def tw18012376210528453552:Unit:=()
def tw13887429886796987725:Unit:=()
def tw2434981551330553374:Unit:=()
def tw871779373780656951:Unit:=()
def tw18261013111656216403:Unit:=()
def tw2013922387214407268:Unit:=()
def tw9315210953329713497:Unit:=()
def tw2257732368763047246:Unit:=()
def tw2704277279055935412:Unit:=()
def tw13759530819491342266:Unit:=()
def tw10764858103688377074:Unit:=()
def tw13337877163499560583:Unit:=()
def tw13542043355200503990:Unit:=()
def tw17776039191739494233:Unit:=()
def tw6659033715062649947:Unit:=()
def tw11823907060663827479:Unit:=()
def tw7139157512808543377:Unit:=()
def tw11500434810262138716:Unit:=()
def tw11786257656666127500:Unit:=()
def tw11827000445668307524:Unit:=()
def tw11347337230938063842:Unit:=()
def tw15890777196947389574:Unit:=()
def tw16487957174792005246:Unit:=()
def tw14206404241194390435:Unit:=()
def tw14297267452350195751:Unit:=()
def tw5090800330793090731:Unit:=()
def tw10639489623621313031:Unit:=()
def tw16314523192798393927:Unit:=()
def tw7262192641601144023:Unit:=()
def tw11729310021852369188:Unit:=()
def tw5131728511375958746:Unit:=()
def tw2119026800518288510:Unit:=()
def tw1107277701410220487:Unit:=()
def tw14465205882154210578:Unit:=()
def tw10902574578944711711:Unit:=()
def tw6825331471369589605:Unit:=()
def tw12998346058831217315:Unit:=()
def tw7524222563650416183:Unit:=()
def tw11733262926348660541:Unit:=()
def tw11315659476910062522:Unit:=()
def tw7846423121911725738:Unit:=()
def tw7474593278444103250:Unit:=()
def tw4509131354296134581:Unit:=()
def tw1101823202396392137:Unit:=()
def tw10610440553639476024:Unit:=()
def tw8299269382009924526:Unit:=()
def tw16813315120687685243:Unit:=()
def tw11077678812189102603:Unit:=()
def tw7652861142827843946:Unit:=()
def tw15441560002637684142:Unit:=()
def tw16709257476261367011:Unit:=()
def tw5620721976736572509:Unit:=()
def tw9233986786528597391:Unit:=()
def tw13694261394936671345:Unit:=()
def tw7557669712743528424:Unit:=()
def tw8450494586054036382:Unit:=()
def tw3571528258647963607:Unit:=()
def tw10459094286198309932:Unit:=()
def tw5989523992323696666:Unit:=()
def tw821864075068744661:Unit:=()
def tw16217367898172028125:Unit:=()
def tw1921422245784156156:Unit:=()
def tw15382093439499531587:Unit:=()
def tw17806085453331263902:Unit:=()
def tw355784496268934862:Unit:=()
def tw9698909960082620720:Unit:=()
def tw8573644208602683109:Unit:=()
def tw12010697678448284838:Unit:=()
def tw11076730920568343121:Unit:=()
def tw2035858972884047645:Unit:=()
def tw9026969362626627801:Unit:=()
def tw10321519068092988372:Unit:=()
def tw8150000953676539964:Unit:=()
def tw11127037485578380837:Unit:=()
def tw4102408647310323784:Unit:=()
def tw14192420996982502019:Unit:=()
def tw4878064559003853673:Unit:=()
def tw2984471694971067331:Unit:=()
def tw13735083169815098378:Unit:=()
def tw7341874763104237773:Unit:=()
def tw16510524469118258626:Unit:=()
def tw7213310124123312348:Unit:=()
def tw18108317885508964984:Unit:=()
def tw18031972024427327688:Unit:=()
def tw3647831493418855500:Unit:=()
def tw5731977329157036442:Unit:=()
def tw6712609633589777195:Unit:=()
def tw17879538821250832224:Unit:=()
def tw15366001602428746821:Unit:=()
def tw191880087841595845:Unit:=()
def tw13904012983103151548:Unit:=()
def tw480057140261372087:Unit:=()
def tw7581525275081510241:Unit:=()
def tw18263393825256076455:Unit:=()
def tw17101645428078221938:Unit:=()
def tw5197529648677715263:Unit:=()
def tw16850912590307962067:Unit:=()
def tw13881111998625986988:Unit:=()
def tw12320412672668134690:Unit:=()
def tw3741442933117470817:Unit:=()
def tw9817351540326198172:Unit:=()
def tw15938470412585937625:Unit:=()
def tw15311938088589859062:Unit:=()
def tw2779081017495345271:Unit:=()
def tw3207245875773348390:Unit:=()
def tw4164412403494698876:Unit:=()
def tw15819489038221191089:Unit:=()
def tw5833952592110684524:Unit:=()
def tw15582632864438627391:Unit:=()
def tw16539315064323225933:Unit:=()
def tw16572905229682443503:Unit:=()
def tw13605463335254950668:Unit:=()
def tw10971835723340478612:Unit:=()
def tw12658478838473717099:Unit:=()
def tw14783309506122495735:Unit:=()
def tw3993957111577187810:Unit:=()
def tw13086139721806854455:Unit:=()
def tw13386003018656661638:Unit:=()
def tw13402405945556094004:Unit:=()
def tw11070329693607460880:Unit:=()
def tw9169833739074290218:Unit:=()
def tw17876845943253193528:Unit:=()
def tw11765012256068192418:Unit:=()
def tw8620560513684326305:Unit:=()
def tw12662869383061949932:Unit:=()
def tw4757189980996203063:Unit:=()
def tw2750508609364488058:Unit:=()
def tw14294873354055031898:Unit:=()
def tw6876145314710321872:Unit:=()
def tw12592666906457701201:Unit:=()
def tw6135631592962285177:Unit:=()
def tw2237259892110504862:Unit:=()
def tw7214365191448176081:Unit:=()
def tw10538724972343554835:Unit:=()
def tw11873346497415747550:Unit:=()
def tw9851842665602701757:Unit:=()
def tw14259802952207740446:Unit:=()
def tw14306592665368528265:Unit:=()
def tw14156746385379676124:Unit:=()
def tw1247332379324276970:Unit:=()
def tw11576041160329110070:Unit:=()
def tw9503356827979917095:Unit:=()
def tw14440082846627179708:Unit:=()
def tw2528062405306846241:Unit:=()
def tw11855150012762610799:Unit:=()
def tw14038757779400421900:Unit:=()
def tw3235345431434167559:Unit:=()
def tw139130768076560021:Unit:=()
def tw14689750914099714220:Unit:=()
def tw18221047210609019675:Unit:=()
def tw13982869043700209912:Unit:=()
def tw6264000236650848951:Unit:=()
def tw5753291225393542358:Unit:=()
def tw7214632939539470562:Unit:=()
def tw8625322080965580239:Unit:=()
def tw10009910618794082173:Unit:=()
def tw1971510089928931051:Unit:=()
def tw6898420500140742842:Unit:=()
def tw2295156539863952505:Unit:=()
def tw6680069202867699005:Unit:=()
def tw5557745577441050045:Unit:=()
def tw8134977251593530195:Unit:=()
end PySem.W.Fast
open PySem PySem.W PyProof.Rows
set_option maxRecDepth 100000 in
set_option maxHeartbeats 0 in
theorem PySem.Challenge.cw_tellscolumns_k12_answers_by_hand_holds : PySem.Challenge.rw_tellscolumns_k12_answers_by_hand.Holds := by
 w_on;o_law;k_head;(case hw=>w_witness2)
 k_fill
 refine K12.walk (l:=PySem.Challenge.rw_tellscolumns_k12_answers_by_hand) rfl rfl (fun w h Y=>W.kIn_of Y) ?F
 case F =>
  intro w mg fa h KX G hmg
  refine' K12.all_mk KX G hmg ?aaU ?afZ ?aaV ?aaW ?af0 ?af2 ?aaX ?Jg ?yu ?yw ?yx ?Wj ?Lj ?Ln ?Lp ?Qz ?Ed ?Ef ?Eg ?Bd ?tZ ?t6 ?uc ?aa6 ?S8 ?S9 ?Tc ?Wl ?Lq ?Lr ?Ls ?Jo ?yC ?yD ?yE ?abe ?Tj ?Tn ?Tp ?QC ?Ei ?Ej ?Ek ?Jq ?yF ?yG ?yH ?Em ?vH ?vI ?vJ ?Jr ?yI ?yJ ?yK ?agg ?Zc ?Zd ?k_cells ?agh ?Ze ?Zf ?Zg ?Js ?yL ?yM ?yN ?agl ?Zh ?Zi ?Zj ?abi ?T6 ?T7 ?T8 ?QD ?Ep ?Es ?Et ?Wo ?Lw ?Lx ?Ly ?Eu ?vK ?vL ?vM ?Ew ?Ey ?vN ?vO ?vP ?Bj ?Bk ?ud ?uf ?pH ?Jz ?JC ?yO ?yP ?yQ ?EY ?Fb ?vQ ?vR ?q8 ?Fd ?Fe ?vU ?vV ?vW ?Bo ?Bp ?ug ?uh ?pI ?Fg ?Fi ?vX ?vY ?vZ ?Br ?Bs ?um ?uo ?pJ ?JS ?JT ?yR ?yS ?yU ?Fl ?Fo ?v5 ?v7 ?q9 ?JV ?JW ?yV ?yW ?yX ?Fq ?Ft ?v8 ?v9 ?rm ?QG ?Fv ?Fw ?Fx ?akm ?agw ?agx ?agy ?QJ ?Fy ?Fz ?FJ ?Bv ?uq ?ur ?uw ?Wq ?Lz ?LC ?LK ?FN ?FP ?wj ?wk ?wu ?Bx ?BJ ?ux ?uy ?pK ?abJ ?Ur ?Us ?Ut ?FQ ?wz ?wA ?wB ?QL ?FT ?FW ?FZ ?Ws ?LQ ?LR ?Ma ?QS ?Ga ?Gb ?Gd ?xG ?rA ?rB ?rC ?BL ?uz ?uD ?uE ?QT ?Ge ?Gf ?Gg ?Wt ?Mf ?Mg ?Mh ?Ko ?yZ ?za ?zb ?QW ?Gi ?Gj ?Gk ?Kq ?zc ?zf ?zj ?BP ?uF ?uG ?uH ?Ky ?zm ?zq ?zu ?QX ?Gp ?Gq ?Gr ?KC ?zx ?zy ?zA ?KD ?zB ?zE ?zF ?BR ?uI ?uJ ?uK ?QZ ?Gv ?Gw ?Gx ?Q0 ?Gy ?Gz ?GC ?Q5 ?GD ?GF ?GJ ?Wu ?Mi ?Mj ?Ml ?oV ?jZ ?j4 ?j5 ?Wv ?Mp ?Mq ?Mr ?sJ ?n6 ?oh ?ou ?rE ?mC ?mD ?mF ?sO ?oA ?oE ?oF ?GK ?wC ?wD ?wF ?rG ?mG ?mH ?mJ ?vd ?pR ?pU ?pW ?sU ?oG ?oH ?oJ ?sV ?oK ?oM ?oN ?aln ?alo ?alp ?alq ?acg ?ach ?aci ?acj ?BZ ?ack ?eE ?agO ?agP ?agQ ?agR ?Lb ?agS ?jj ?cX ?acn ?aco ?acp ?acq ?Ia ?acr ?dX ?jk ?acs ?acu ?acv ?acw ?Ie ?acy ?gQ ?ig ?jM ?jx ?agT ?agU ?agV ?agW ?Ld ?agX ?dY ?agY ?agZ ?ag0 ?ag1 ?Le ?ag2 ?cu ?eY ?acz ?acA ?acB ?acC ?Ca ?acD ?bx ?kj ?acE ?acF ?acG ?acH ?kE ?pD ?tK ?tM ?ag3 ?ag4 ?ag5 ?ag6 ?lZ ?qO ?vz ?vA ?ag7 ?ag8 ?ag9 ?aha ?tO ?vB ?qP ?qQ ?ahb ?ahc ?ahd ?ahe ?tQ ?vC ?qR ?qT ?yo ?ahX ?Qm ?lD ?aeh ?bU ?gh ?dZ ?aei ?dO ?yp ?aej ?nM ?qU ?uR ?pF ?qW
  (case aaU=>k_is)
  (case afZ=>k_is)
  (case aaV=>k_is)
  (case aaW=>k_is)
  (case af0=>k_is)
  (case af2=>k_is)
  (case aaX=>k_is)
  (case Jg=>k_is)
  (case yu=>k_is)
  (case yw=>k_is)
  (case yx=>k_is)
  (case Wj=>k_is)
  (case Lj=>k_is)
  (case Ln=>k_is)
  (case Lp=>k_is)
  (case Qz=>k_is)
  (case Ed=>k_is)
  (case Ef=>k_is)
  (case Eg=>k_is)
  (case Bd=>k_is)
  (case tZ=>k_is)
  (case t6=>k_is)
  (case uc=>k_is)
  (case aa6=>k_is)
  (case S8=>k_is)
  (case S9=>k_is)
  (case Tc=>k_is)
  (case Wl=>k_is)
  (case Lq=>k_is)
  (case Lr=>k_is)
  (case Ls=>k_is)
  (case Jo=>k_is)
  (case yC=>k_is)
  (case yD=>k_is)
  (case yE=>k_is)
  (case abe=>k_is)
  (case Tj=>k_is)
  (case Tn=>k_is)
  (case Tp=>k_is)
  (case QC=>k_is)
  (case Ei=>k_is)
  (case Ej=>k_is)
  (case Ek=>k_is)
  (case Jq=>k_is)
  (case yF=>k_is)
  (case yG=>k_is)
  (case yH=>k_is)
  (case Em=>k_is)
  (case vH=>k_is)
  (case vI=>k_is)
  (case vJ=>k_is)
  (case Jr=>k_is)
  (case yI=>k_is)
  (case yJ=>k_is)
  (case yK=>k_is)
  (case agg=>k_is)
  (case Zc=>k_is)
  (case Zd=>k_is)
  (case k_cells=>k_is)
  (case agh=>k_is)
  (case Ze=>k_is)
  (case Zf=>k_is)
  (case Zg=>k_is)
  (case Js=>k_is)
  (case yL=>k_is)
  (case yM=>k_is)
  (case yN=>k_is)
  (case agl=>k_is)
  (case Zh=>k_is)
  (case Zi=>k_is)
  (case Zj=>k_is)
  (case abi=>k_is)
  (case T6=>k_is)
  (case T7=>k_is)
  (case T8=>k_is)
  (case QD=>k_is)
  (case Ep=>k_is)
  (case Es=>k_is)
  (case Et=>k_is)
  (case Wo=>k_is)
  (case Lw=>k_is)
  (case Lx=>k_is)
  (case Ly=>k_is)
  (case Eu=>k_is)
  (case vK=>k_is)
  (case vL=>k_is)
  (case vM=>k_is)
  (case Ew=>k_is)
  (case Ey=>k_is)
  (case vN=>k_is)
  (case vO=>k_is)
  (case vP=>k_is)
  (case Bj=>k_is)
  (case Bk=>k_is)
  (case ud=>k_is)
  (case uf=>k_is)
  (case pH=>k_is)
  (case Jz=>k_is)
  (case JC=>k_is)
  (case yO=>k_is)
  (case yP=>k_is)
  (case yQ=>k_is)
  (case EY=>k_is)
  (case Fb=>k_is)
  (case vQ=>k_is)
  (case vR=>k_is)
  (case q8=>k_is)
  (case Fd=>k_is)
  (case Fe=>k_is)
  (case vU=>k_is)
  (case vV=>k_is)
  (case vW=>k_is)
  (case Bo=>k_is)
  (case Bp=>k_is)
  (case ug=>k_is)
  (case uh=>k_is)
  (case pI=>k_is)
  (case Fg=>k_is)
  (case Fi=>k_is)
  (case vX=>k_is)
  (case vY=>k_is)
  (case vZ=>k_is)
  (case Br=>k_is)
  (case Bs=>k_is)
  (case um=>k_is)
  (case uo=>k_is)
  (case pJ=>k_is)
  (case JS=>k_is)
  (case JT=>k_is)
  (case yR=>k_is)
  (case yS=>k_is)
  (case yU=>k_is)
  (case Fl=>k_is)
  (case Fo=>k_is)
  (case v5=>k_is)
  (case v7=>k_is)
  (case q9=>k_is)
  (case JV=>k_is)
  (case JW=>k_is)
  (case yV=>k_is)
  (case yW=>k_is)
  (case yX=>k_is)
  (case Fq=>k_is)
  (case Ft=>k_is)
  (case v8=>k_is)
  (case v9=>k_is)
  (case rm=>k_is)
  (case QG=>k_is)
  (case Fv=>k_is)
  (case Fw=>k_is)
  (case Fx=>k_is)
  (case akm=>k_is)
  (case agw=>k_is)
  (case agx=>k_is)
  (case agy=>k_is)
  (case QJ=>k_is)
  (case Fy=>k_is)
  (case Fz=>k_is)
  (case FJ=>k_is)
  (case Bv=>k_is)
  (case uq=>k_is)
  (case ur=>k_is)
  (case uw=>k_is)
  (case Wq=>k_is)
  (case Lz=>k_is)
  (case LC=>k_is)
  (case LK=>k_is)
  (case FN=>k_is)
  (case FP=>k_is)
  (case wj=>k_is)
  (case wk=>k_is)
  (case wu=>k_is)
  (case Bx=>k_is)
  (case BJ=>k_is)
  (case ux=>k_is)
  (case uy=>k_is)
  (case pK=>k_is)
  (case abJ=>k_is)
  (case Ur=>k_is)
  (case Us=>k_is)
  (case Ut=>k_is)
  (case FQ=>k_is)
  (case wz=>k_is)
  (case wA=>k_is)
  (case wB=>k_is)
  (case QL=>k_is)
  (case FT=>k_is)
  (case FW=>k_is)
  (case FZ=>k_is)
  (case Ws=>k_is)
  (case LQ=>k_is)
  (case LR=>k_is)
  (case Ma=>k_is)
  (case QS=>k_is)
  (case Ga=>k_is)
  (case Gb=>k_is)
  (case Gd=>k_is)
  (case xG=>k_is)
  (case rA=>k_is)
  (case rB=>k_is)
  (case rC=>k_is)
  (case BL=>k_is)
  (case uz=>k_is)
  (case uD=>k_is)
  (case uE=>k_is)
  (case QT=>k_is)
  (case Ge=>k_is)
  (case Gf=>k_is)
  (case Gg=>k_is)
  (case Wt=>k_is)
  (case Mf=>k_is)
  (case Mg=>k_is)
  (case Mh=>k_is)
  (case Ko=>k_is)
  (case yZ=>k_is)
  (case za=>k_is)
  (case zb=>k_is)
  (case QW=>k_is)
  (case Gi=>k_is)
  (case Gj=>k_is)
  (case Gk=>k_is)
  (case Kq=>k_is)
  (case zc=>k_is)
  (case zf=>k_is)
  (case zj=>k_is)
  (case BP=>k_is)
  (case uF=>k_is)
  (case uG=>k_is)
  (case uH=>k_is)
  (case Ky=>k_is)
  (case zm=>k_is)
  (case zq=>k_is)
  (case zu=>k_is)
  (case QX=>k_is)
  (case Gp=>k_is)
  (case Gq=>k_is)
  (case Gr=>k_is)
  (case KC=>k_is)
  (case zx=>k_is)
  (case zy=>k_is)
  (case zA=>k_is)
  (case KD=>k_is)
  (case zB=>k_is)
  (case zE=>k_is)
  (case zF=>k_is)
  (case BR=>k_is)
  (case uI=>k_is)
  (case uJ=>k_is)
  (case uK=>k_is)
  (case QZ=>k_is)
  (case Gv=>k_is)
  (case Gw=>k_is)
  (case Gx=>k_is)
  (case Q0=>k_is)
  (case Gy=>k_is)
  (case Gz=>k_is)
  (case GC=>k_is)
  (case Q5=>k_is)
  (case GD=>k_is)
  (case GF=>k_is)
  (case GJ=>k_is)
  (case Wu=>k_is)
  (case Mi=>k_is)
  (case Mj=>k_is)
  (case Ml=>k_is)
  (case oV=>k_is)
  (case jZ=>k_is)
  (case j4=>k_is)
  (case j5=>k_is)
  (case Wv=>k_is)
  (case Mp=>k_is)
  (case Mq=>k_is)
  (case Mr=>k_is)
  (case sJ=>k_is)
  (case n6=>k_is)
  (case oh=>k_is)
  (case ou=>k_is)
  (case rE=>k_is)
  (case mC=>k_is)
  (case mD=>k_is)
  (case mF=>k_is)
  (case sO=>k_is)
  (case oA=>k_is)
  (case oE=>k_is)
  (case oF=>k_is)
  (case GK=>k_is)
  (case wC=>k_is)
  (case wD=>k_is)
  (case wF=>k_is)
  (case rG=>k_is)
  (case mG=>k_is)
  (case mH=>k_is)
  (case mJ=>k_is)
  (case vd=>k_is)
  (case pR=>k_is)
  (case pU=>k_is)
  (case pW=>k_is)
  (case sU=>k_is)
  (case oG=>k_is)
  (case oH=>k_is)
  (case oJ=>k_is)
  (case sV=>k_is)
  (case oK=>k_is)
  (case oM=>k_is)
  (case oN=>k_is)
  (case aln=>k_is)
  (case alo=>k_is)
  (case alp=>k_is)
  (case alq=>k_is)
  (case acg=>k_is)
  (case ach=>k_is)
  (case aci=>k_is)
  (case acj=>k_is)
  (case BZ=>k_is)
  (case ack=>k_is)
  (case eE=>k_is)
  (case agO=>k_is)
  (case agP=>k_is)
  (case agQ=>k_is)
  (case agR=>k_is)
  (case Lb=>k_is)
  (case agS=>k_is)
  (case jj=>k_is)
  (case cX=>k_is)
  (case acn=>k_is)
  (case aco=>k_is)
  (case acp=>k_is)
  (case acq=>k_is)
  (case Ia=>k_is)
  (case acr=>k_is)
  (case dX=>k_is)
  (case jk=>k_is)
  (case acs=>k_is)
  (case acu=>k_is)
  (case acv=>k_is)
  (case acw=>k_is)
  (case Ie=>k_is)
  (case acy=>k_is)
  (case gQ=>k_is)
  (case ig=>k_is)
  (case jM=>k_is)
  (case jx=>k_is)
  (case agT=>k_is)
  (case agU=>k_is)
  (case agV=>k_is)
  (case agW=>k_is)
  (case Ld=>k_is)
  (case agX=>k_is)
  (case dY=>k_is)
  (case agY=>k_is)
  (case agZ=>k_is)
  (case ag0=>k_is)
  (case ag1=>k_is)
  (case Le=>k_is)
  (case ag2=>k_is)
  (case cu=>k_is)
  (case eY=>k_is)
  (case acz=>k_is)
  (case acA=>k_is)
  (case acB=>k_is)
  (case acC=>k_is)
  (case Ca=>k_is)
  (case acD=>k_is)
  (case bx=>k_is)
  (case kj=>k_is)
  (case acE=>k_is)
  (case acF=>k_is)
  (case acG=>k_is)
  (case acH=>k_is)
  (case kE=>kit_is)
  (case pD=>kit_is)
  (case tK=>kit_is)
  (case tM=>kit_is)
  (case ag3=>k_is)
  (case ag4=>k_is)
  (case ag5=>k_is)
  (case ag6=>k_is)
  (case lZ=>kit_is)
  (case qO=>kit_is)
  (case vz=>kit_is)
  (case vA=>kit_is)
  (case ag7=>k_is)
  (case ag8=>k_is)
  (case ag9=>k_is)
  (case aha=>k_is)
  (case tO=>kit_is)
  (case vB=>kit_is)
  (case qP=>kit_is)
  (case qQ=>kit_is)
  (case ahb=>k_is)
  (case ahc=>k_is)
  (case ahd=>k_is)
  (case ahe=>k_is)
  (case tQ=>kit_is)
  (case vC=>kit_is)
  (case qR=>kit_is)
  (case qT=>kit_is)
  (case yo=>k_is)
  (case ahX=>k_is)
  (case Qm=>k_is)
  (case lD=>k_is)
  (case aeh=>k_is)
  (case bU=>k_is)
  (case gh=>k_is)
  (case dZ=>k_is)
  (case aei=>k_is)
  (case dO=>k_is)
  (case yp=>k_is)
  (case aej=>k_is)
  (case nM=>k_is)
  (case qU=>k_is)
  (case uR=>k_is)
  (case pF=>k_is)
  (case qW=>k_is)
