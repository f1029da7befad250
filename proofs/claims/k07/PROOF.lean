import PyProof.Rows.All
import Wide.All
import OpenK.AllK
import Wide.FinOn
import Lean
import PyProof.EqAt
import PyProof.EqKinds
import PyProof.TupleCall
import KE.KSortTup
import PyProof.NeKinds
import PyProof.ExcBaseAll.ValueError
import PyProof.ExcArgsOwn
import PyProof.NsDelKeeps
import PyProof.RulesAs
import PyProof.FString
import PyProof.AttrMissSeq
import PyProof.WalksS
import KE.KDictList
import KE.KDictSum
import PyProof.MinMaxWalk
import KE.KMinKey
import PyProof.Rows.CallKwBuiltin
import PyProof.Rows.RuleDivmod
import PyProof.ListMulAny
import PyProof.FactsAll.tuple
import KE.KRevIter
import PyProof.EnumMake
import KE.KMulAny
import PyProof.FactsAll.range
import PySem.Challenge.RW_holefloor_k07_whole_orders_numbered
set_option Elab.async false
set_option linter.all false
set_option maxRecDepth 100000
namespace L2
open PySem PySem.Spec PyProof.Rows
abbrev Key:=Sum Int Str
def keyIs:Key->Value->Bool
 | .inl k,v=>Value.isInt k v
 | .inr x,v=>Value.isStrOf x v
def keyH (w:World):Key->Int
 | .inl k=>hashInt k
 | .inr x=>hashStr w x
theorem Za3:∀ {k:Key} {v:Value},keyIs k v=true->(∃ i t,k=Sum.inl i/\v=Value.int i t)\/(∃ x t,k=Sum.inr x/\v=Value.str x t)
 | .inl i,v,h=>by
  obtain ⟨t,e⟩:=Value.isInt_shape (k:=i) (v:=v) h
  exact .inl ⟨i,t,rfl,e⟩
 | .inr x,v,h=>by
  obtain ⟨t,e⟩:=Value.isStrOf_shape (x:=x) (v:=v) h
  exact .inr ⟨x,t,rfl,e⟩
theorem Zi7 (i:Int) (t:Tok):keyIs (.inl i) (.int i t)=true:=by simp [keyIs,Value.isInt]
theorem Zj7 (x:Str) (t:Tok):keyIs (.inr x) (.str x t)=true:=by simp [keyIs,Value.isStrOf]
theorem Zol (a b:Int):decide ((Sum.inl a:Key)=Sum.inl b)=(a == b):=by
 by_cases e:a=b
 ·subst e; simp
 ·have h:¬ (Sum.inl a:Key)=Sum.inl b:=fun q=>e (Sum.inl.inj q)
  rw [decide_eq_false h]
  exact (beq_eq_false_iff_ne.mpr e).symm
theorem Zoh (a b:Str):decide ((Sum.inr a:Key)=Sum.inr b)=decide (a=b):=by
 by_cases e:a=b
 ·subst e; simp
 ·have h:¬ (Sum.inr a:Key)=Sum.inr b:=fun q=>e (Sum.inr.inj q)
  rw [decide_eq_false h,decide_eq_false e]
theorem Zos (a:Int) (b:Str):decide ((Sum.inl a:Key)=Sum.inr b)=false:=decide_eq_false (fun q=>nomatch q)
theorem Zpl (a:Str) (b:Int):decide ((Sum.inr a:Key)=Sum.inl b)=false:=decide_eq_false (fun q=>nomatch q)
def mixKind (prog:Program) (w:World):PySem.KeyKind prog w Key where
 is:=keyIs
 hash:=keyH w
 inj:=fun v a b ha hb=>by
  rcases Za3 ha with ⟨i,t,rfl,rfl⟩ | ⟨x,t,rfl,rfl⟩
  ·rcases Za3 hb with ⟨j,u,rfl,e⟩ | ⟨y,u,rfl,e⟩
   ·injection e with e1 _; rw [e1]
   ·exact nomatch e
  ·rcases Za3 hb with ⟨j,u,rfl,e⟩ | ⟨y,u,rfl,e⟩
   ·exact nomatch e
   ·injection e with e1 _; rw [e1]
 byValue:=fun k v h=>by
  rcases Za3 h with ⟨i,t,rfl,rfl⟩ | ⟨x,t,rfl,rfl⟩ <;> rfl
 pyHash:=fun hv h=>by
  rcases Za3 hv with ⟨i,t,rfl,rfl⟩ | ⟨x,t,rfl,rfl⟩
  ·exact wpAny_pyHash_int h
  ·exact wpAny_pyHash_str h
 eqBool:=fun hu hv h=>by
  rcases Za3 hu with ⟨i,t,rfl,rfl⟩ | ⟨x,t,rfl,rfl⟩
  ·rcases Za3 hv with ⟨j,u,rfl,rfl⟩ | ⟨y,u,rfl,rfl⟩
   ·rw [Zol] at h; exact wpAny_eqBool_int h
   ·rw [Zos] at h; exact SeqAt.EqAt.int_str i t y u _ _ _ _ h
  ·rcases Za3 hv with ⟨j,u,rfl,rfl⟩ | ⟨y,u,rfl,rfl⟩
   ·rw [Zpl] at h; exact SeqAt.EqAt.str_int x t j u _ _ _ _ h
   ·rw [Zoh] at h; exact wpAny_eqBool_str h
 «strs»:=fun k x t v h=>by
  rcases Za3 h with ⟨i,u,rfl,e⟩ | ⟨y,u,rfl,e⟩
  ·exact nomatch e
  ·injection e with e1 _
   subst e1
   cases v <;> rfl
theorem Zgx (prog:Program) (w:World) (i:Int) (t:Tok):(mixKind prog w).is (.inl i) (.int i t)=true:=Zi7 i t
theorem Zg1 (prog:Program) (w:World) (x:Str) (t:Tok):(mixKind prog w).is (.inr x) (.str x t)=true:=Zj7 x t
end L2
namespace L2
open PySem PySem.Spec PyProof.Rows
inductive V where
 | non | bl (b:Bool) | int (i:Int) | str (x:Str) | byt (b:Array UInt8) | flt (b:UInt64) | ref (a:Addr) | ty (n:String)
 deriving DecidableEq
def RelV:V->Value->Prop
 | .non,u=>u=Value.none
 | .bl b,u=>u=Value.bool b
 | .int i,u=>∃ t,u=Value.int i t
 | .str x,u=>∃ t,u=Value.str x t
 | .byt b,u=>∃ t,u=Value.bytes b t
 | .flt b,u=>∃ t,u=Value.float b t
 | .ref a,u=>u=Value.ref a
 | .ty n,u=>u=Value.type n
abbrev Vals:List V->List Value->Prop:=Paired RelV
theorem Vals.length {xs:List V} {us:List Value} (r:Vals xs us):xs.length=us.length:=Paired.length r
theorem Vals.get:∀ {xs:List V} {us:List Value} {i:Nat} {x:V},Vals xs us->xs[i]? = some x->∃ u,us[i]? = some u/\RelV x u
 | _,_,_,_,.nil,e=>by simp at e
 | _,_,0,_,.cons r _,e=>by simp at e; subst e; exact ⟨_,rfl,r⟩
 | _,_,i + 1,x,.cons _ t,e=>by
  obtain ⟨u,h1,h2⟩:=Vals.get (i:=i) (x:=x) t (by simpa using e)
  exact ⟨u,by simpa using h1,h2⟩
theorem Vals.set {x:V} {u:Value} (r:RelV x u):∀ {xs:List V} {us:List Value} (i:Nat),Vals xs us->Vals (xs.set i x) (us.set i u)
 | _,_,_,.nil=>.nil
 | _,_,0,.cons _ t=>.cons r t
 | _,_,i + 1,.cons q t=>.cons q (Vals.set r i t)
theorem Vals.append:∀ {xs ys:List V} {us ws:List Value},Vals xs us->Vals ys ws->Vals (xs ++ ys) (us ++ ws)
 | _,_,_,_,.nil,s=>s
 | _,_,_,_,.cons r t,s=>.cons r (Vals.append t s)
theorem Vals.take:∀ {xs:List V} {us:List Value} (n:Nat),Vals xs us->Vals (xs.take n) (us.take n)
 | _,_,0,_=>.nil
 | _,_,_ + 1,.nil=>.nil
 | _,_,n + 1,.cons r t=>.cons r (Vals.take n t)
theorem Vals.drop:∀ {xs:List V} {us:List Value} (n:Nat),Vals xs us->Vals (xs.drop n) (us.drop n)
 | _,_,0,r=>r
 | _,_,_ + 1,.nil=>.nil
 | _,_,n + 1,.cons _ t=>Vals.drop n t
def RelO:Option V->Option Value->Prop
 | some v,some u=>RelV v u
 | none,none=>True
 | _,_=>False
def KV {κ:Type}:List (κ × V)->List (κ × Value)->Prop:=Paired fun (p:κ × V) (q:κ × Value)=>p.1=q.1/\RelV p.2 q.2
def kV:Key->V
 | .inl i=>.int i
 | .inr x=>.str x
inductive HO where
 /-- a list -/
 | lst (xs:List V)
 /-- a tuple (never changes) -/
 | tup (xs:List V)
 /-- a dict whose keys are ints and texts; one whose keys are tuples of ints and texts (the empty one is both) -/
 | dK (kvs:List (Key × V)) | dT (kvs:List (List Key × V))
 /-- a set of ints: its members,its size -/
 | set (S:Int->Bool) (n:Nat)
 /-- an instance of the class at C,its dict at dx,its attributes -/
 | ins (C dx:Addr) (fs:List (Str × V))
 /-- the dict of the instance at x -/
 | own (x:Addr)
 /-- the dict of an exception -/
 | xd (fs:List (Str × V))
 /-- a bound method,f of x -/
 | met (f x:Addr)
 /-- a range object lo,lo + 1,.. below hi -/
 | rng (lo hi:Int)
 /-- a thing that is known to the object (the script; a dict while a loop walks it): read,never written while it is so -/
 | frz (o:Obj) (u:HO)
 /-- a code object's table -/
 | tbl (ps:Array Value)
 /-- any other thing,by what is true of its one object (a def of one's own: SetO a S n:=HO.ext fun h=>..) -/
 | ext (φ:Heap->Prop)
abbrev Hp:=Addr->Option HO
def upd (H:Hp) (a:Addr) (o:HO):Hp:=fun b=>if b=a then some o else H b
theorem Zam {H:Hp} {a:Addr} {o:HO}:upd H a o a=some o:=by unfold upd; rw [if_pos rfl]
theorem Zaj {H:Hp} {a b:Addr} {o:HO} (h:b ≠ a):upd H a o b=H b:=by unfold upd; rw [if_neg h]
theorem Zmn {H:Hp} {a:Addr} {o u:HO}:upd (upd H a o) a u=upd H a u:=by
 funext b; unfold upd; split <;> rfl
theorem Zpz {H:Hp} {a b:Addr} {o u:HO} (h:H a=some o) (h':H b=some u) (d:o ≠ u):a ≠ b:=by
 intro e; subst e; rw [h] at h'; exact d (Option.some.inj h')
theorem Zak {H:Hp} {a b:Addr} {o:HO} (h:H a=some o) (h':H b=none):a ≠ b:=by
 intro e; subst e; rw [h] at h'; cases h'
def IsTupN (h:Heap) (a:Addr) (its:Array Value):Prop:=∃ o,h.get? a=some o/\(o.cls=.type "tuple" /\ ∃ n,o.data=.seq its n)/\o.dict=none
theorem IsTupN.tup {h:Heap} {a:Addr} {its:Array Value} (x:IsTupN h a its):IsTup h a its:=let ⟨o,e,c,_⟩:=x; ⟨o,e,c⟩
theorem IsTupN.new (h:Heap) (items:Array Value):IsTupN (h.push { cls:=.type "tuple",data:=.seq items }) h.objs.size items:=⟨_,Heap.get?_push_size _ rfl,⟨rfl,_,rfl⟩,rfl⟩
section
variable (P:Program) (w:World)
def ObjOk (H:Hp) (h:Heap) (a:Addr):HO->Prop
 | .lst xs=>xs.length<=sizeLine/\∃ (its:List Value) (n:Nat),Vals xs its/\h.get? a=some { cls:=.type "list",data:=.seq its.toArray n }
 | .tup xs=>xs.length<=sizeLine/\∃ its:List Value,Vals xs its/\IsTupN h a its.toArray
 | .dK kvs=>kvs.length<=sizeLine/\(a == sysModules)=false/\∃ vs,KV kvs vs/\h.DictOf (mixKind P w) a vs
 | .dT kvs=>kvs.length<=sizeLine/\(a == sysModules)=false/\∃ xs:List (List Key × Addr × Value),
   Paired (fun (p:List Key × V) (q:List Key × Addr × Value)=>p.1=q.1/\H q.2.1=some (.tup (p.1.map kV))/\RelV p.2 q.2.2) kvs xs ∧
   ∃ o es ep,h.get? a=some o/\o.ExactDict/\o.data=.dict es ep/\es.toList=xs.map (entryOfKey (tupleKind (mixKind P w)))/\(xs.map (·.1)).Nodup
 | .set S n=>h.SetOf (intKind P w) a S n
 | .ins C dx fs=>H dx=some (.own a)/\fs.length<=1000/\dx ≠ a/\h.get? a=some (PySem.W.instObj C dx) ∧
   ∃ mA,h.Ns1 dx mA/\(∀ f,RelO (fs.lookup f) (mA f))/\PySem.Within mA (fs.map (·.1))
 | .own _=>∃ o,h.get? a=some o
 | .xd fs=>∃ mA,h.Ns1 a mA/\∀ f,RelO (fs.lookup f) (mA f)
 | .rng lo hi=>∃ t u v,h.get? a=some { cls:=.type "range",data:=.fields #[.int lo t,.int hi u,.int 1 v] }
 | .frz o u=>h.get? a=some o/\ObjOk H h a u
 | .tbl ps=>h.get? a=some { cls:=.none,data:=.fields ps }
 | .met f x=>h.get? a=some (PySem.W.methodObj (.ref f) (.ref x))
 | .ext φ=>φ h/\(∃ o,h.get? a=some o)/\∀ h1 h2:Heap,φ h1->(∀ o,h1.get? a=some o->h2.get? a=some o) -> φ h2
def HOk (H:Hp) (h:Heap):Prop:=∀ a o,H a=some o->ObjOk P w H h a o
end
section
variable {P:Program} {w:World} {H H':Hp} {h h':Heap} {a:Addr} {o:HO}
theorem ObjOk.lt (x:ObjOk P w H h a o):a < h.objs.size:=by
 cases o with
 | lst xs=>obtain ⟨_,_,_,_,e⟩:=x; exact Heap.lt_size e
 | tup xs=>obtain ⟨_,_,_,p⟩:=x; exact p.tup.lt
 | dK kvs=>obtain ⟨_,_,_,_,o,_,_,e,_⟩:=x; exact Heap.lt_size e
 | dT kvs=>obtain ⟨_,_,_,_,o,_,_,e,_⟩:=x; exact Heap.lt_size e
 | set S n=>obtain ⟨o,_,_,_,e,_⟩:=x; exact Heap.lt_size e
 | ins C dx fs=>obtain ⟨_,_,_,e,_⟩:=x; exact Heap.lt_size e
 | own y=>obtain ⟨_,e⟩:=x; exact Heap.lt_size e
 | xd fs=>obtain ⟨_,⟨_,_,_,e,_⟩,_⟩:=x; exact Heap.lt_size e
 | rng lo hi=>obtain ⟨_,_,_,e⟩:=x; exact Heap.lt_size e
 | frz ob u=>obtain ⟨e,_⟩:=x; exact Heap.lt_size e
 | tbl ps=>exact Heap.lt_size (show h.get? a=some _ from x)
 | met f y=>exact Heap.lt_size (show h.get? a=some _ from x)
 | ext φ=>obtain ⟨_,⟨_,e⟩,_⟩:=x; exact Heap.lt_size e
theorem Paired.mapP {α β:Type} {F G:α -> β -> Prop}:∀ {l₁:List α} {l₂:List β},Paired F l₁ l₂ -> (∀ a b,F a b->G a b)->Paired G l₁ l₂
 | _,_,.nil,_=>.nil
 | _,_,.cons r t,f=>.cons (f _ _ r) (Paired.mapP t f)
theorem ObjOk.stay (x:ObjOk P w H h a o) (k:∀ b u,(b=a\/H b=some (.own a))->h.get? b=some u->h'.get? b=some u)
  (ho:∀ b,H b=some (.own a)->H' b=some (.own a)) (ht:∀ b xs,H b=some (.tup xs)->H' b=some (.tup xs)):ObjOk P w H' h' a o:=by
 induction o with
 | lst xs=>obtain ⟨z,its,n,r,e⟩:=x; exact ⟨z,its,n,r,k _ _ (.inl rfl) e⟩
 | tup xs=>obtain ⟨z,its,r,ob,e,c⟩:=x; exact ⟨z,its,r,ob,k _ _ (.inl rfl) e,c⟩
 | dK kvs=>obtain ⟨z,y,vs,r,ob,es,ep,e,c⟩:=x; exact ⟨z,y,vs,r,ob,es,ep,k _ _ (.inl rfl) e,c⟩
 | dT kvs=>
  obtain ⟨z,y,xs,r,ob,es,ep,e,c⟩:=x
  exact ⟨z,y,xs,Paired.mapP r fun p q z=>⟨z.1,ht _ _ z.2.1,z.2.2⟩,ob,es,ep,k _ _ (.inl rfl) e,c⟩
 | set S n=>obtain ⟨ob,es,ep,t,e,c⟩:=x; exact ⟨ob,es,ep,t,k _ _ (.inl rfl) e,c⟩
 | ins C dx fs=>
  obtain ⟨d,z,ne,e,mA,⟨od,es,ep,e2,c⟩,r⟩:=x
  exact ⟨ho _ d,z,ne,k _ _ (.inl rfl) e,mA,⟨od,es,ep,k _ _ (.inr d) e2,c⟩,r⟩
 | own y=>obtain ⟨ob,e⟩:=x; exact ⟨ob,k _ _ (.inl rfl) e⟩
 | xd fs=>obtain ⟨mA,⟨od,es,ep,e,c⟩,r⟩:=x; exact ⟨mA,⟨od,es,ep,k _ _ (.inl rfl) e,c⟩,r⟩
 | rng lo hi=>obtain ⟨t,u,v,e⟩:=x; exact ⟨t,u,v,k _ _ (.inl rfl) e⟩
 | frz ob u ih=>obtain ⟨e,q⟩:=x; exact ⟨k _ _ (.inl rfl) e,ih q⟩
 | tbl ps=>
  have e:h.get? a=some { cls:=.none,data:=.fields ps }:=x
  show h'.get? a=some { cls:=.none,data:=.fields ps }
  exact k a _ (.inl rfl) e
 | met f y=>
  have e:h.get? a=some (PySem.W.methodObj (.ref f) (.ref y)):=x
  show h'.get? a=some (PySem.W.methodObj (.ref f) (.ref y))
  exact k a _ (.inl rfl) e
 | ext φ=>obtain ⟨p,⟨o,e⟩,st⟩:=x; exact ⟨st _ _ p fun o q=>k _ _ (.inl rfl) q,⟨o,k _ _ (.inl rfl) e⟩,st⟩
theorem HOk.lt (x:HOk P w H h) (e:H a=some o):a < h.objs.size:=(x a o e).lt
theorem HOk.fresh (x:HOk P w H h) (e:h.objs.size<=a):H a=none:=by
 cases q:H a with
 | none=>rfl
 | some u=>exact absurd (Nat.lt_of_lt_of_le (x.lt q) e) (Nat.lt_irrefl _)
theorem HOk.kept (x:HOk P w H h) (k:∀ b u,h.get? b=some u->h'.get? b=some u):HOk P w H h':=fun a o e=>
 (x a o e).stay (fun b u _ q=>k b u q) (fun _ q=>q) fun _ _ q=>q
theorem HOk.laid (x:HOk P w H h) (k:∀ b u,h.get? b=some u->h'.get? b=some u) (hp:h.objs.size<=a) (new:ObjOk P w (upd H a o) h' a o):HOk P w (upd H a o) h':=fun b u e=>by
 have hn:=x.fresh hp
 by_cases hb:b=a
 ·subst hb; rw [Zam] at e; cases e; exact new
 ·rw [Zaj hb] at e
  exact (x b u e).stay (fun c v _ q=>k c v q) (fun c q=>by rw [Zaj (Zak q hn)]; exact q) fun c xs q=>by rw [Zaj (Zak q hn)]; exact q
end
def Rd (H:Hp) (a:Addr) (u:HO):Prop:=H a=some u\/∃ o,H a=some (.frz o u)
theorem Rd.ok {P:Program} {w:World} {H:Hp} {h:Heap} {a:Addr} {u:HO} (r:Rd H a u) (x:HOk P w H h):ObjOk P w H h a u:=by
 rcases r with r | ⟨o,r⟩
 ·exact x a u r
 ·obtain ⟨_,q⟩:=x a _ r
  exact q
def Mut:Option HO->Prop
 | some (.lst _)=>True
 | some (.dK _)=>True
 | some (.dT _)=>True
 | some (.set _ _)=>True
 | some (.ins _ _ _)=>True
 | some (.ext _)=>True
 | _=>False
section
variable {P:Program} {w:World} {H:Hp} {h h':Heap} {x e:Addr} {o':HO}
theorem HOk.write (ok:HOk P w H h) (mu:Mut (H x)) (he:e=x\/H e=some (.own x)) (k:∀ b u,b ≠ e->h.get? b=some u->h'.get? b=some u) (heo:∃ u,h'.get? e=some u)
  (new:ObjOk P w (upd H x o') h' x o'):HOk P w (upd H x o') h':=fun b u q=>by
 have nown:∀ c y,H c=some (.own y)->c ≠ x:=fun c y r z=>by subst z; rw [r] at mu; exact mu
 have ntup:∀ c xs,H c=some (.tup xs)->c ≠ x:=fun c xs r z=>by subst z; rw [r] at mu; exact mu
 by_cases hb:b=x
 ·subst hb; rw [Zam] at q; cases q; exact new
 ·rw [Zaj hb] at q
  by_cases hbe:b=e
  ·have q':H b=some (.own x):=by
    rcases he with z | z
    ·exact absurd (hbe.trans z) hb
    ·rw [hbe]; exact z
   rw [q] at q'; cases q'
   obtain ⟨v,hv⟩:=heo
   exact ⟨v,by rw [hbe]; exact hv⟩
  ·refine (ok b u q).stay (fun c v hc r=>k c v ?_ r) (fun c r=>by rw [Zaj (nown c b r)]; exact r) fun c xs r=>by rw [Zaj (ntup c xs r)]; exact r
   rcases hc with rfl | hc
   ·exact hbe
   ·rintro rfl
    rcases he with z | z
    ·exact nown c b hc z
    ·rw [hc] at z; cases z; exact hb rfl
end
structure Un (fs ex:List Addr) (H H':Hp) (h h':Heap):Prop where
 keep:∀ b o,h.get? b=some o->H b=none->b ∉ fs->b ∉ ex->h'.get? b=some o
 slot:∀ b o,h.get? b=some o->H b=none->b ∈ fs->b ∉ ex->∃ sl,h'.get? b=some { o with slots:=sl }
 free:∀ b o,h.get? b=some o->H b=none->b ∉ ex->H' b=none
 there:∀ b o,h.get? b=some o->b ∉ ex->∃ o',h'.get? b=some o'
 tups:∀ b xs,H b=some (.tup xs)->H' b=some (.tup xs)
 frzs:∀ b o u,H b=some (.frz o u)->H' b=some (.frz o u)
 tbls:∀ b ps,H b=some (.tbl ps)->∃ more,H' b=some (.tbl (ps ++ more))
section
variable {fs fs' ex ex':List Addr} {H H1 H2:Hp} {h h1 h2 h':Heap} {a x e:Addr} {o:HO}
theorem Un.any (u:Un fs ex H H1 h h1) {b:Addr} {ob:Obj} (q:h.get? b=some ob) (n:H b=none) (hx:b ∉ ex):∃ sl,h1.get? b=some { ob with slots:=sl }:=by
 by_cases hb:b ∈ fs
 ·exact u.slot b ob q n hb hx
 ·exact ⟨ob.slots,u.keep b ob q n hb hx⟩
theorem Un.kept (k:∀ b u,h.get? b=some u->h'.get? b=some u):Un fs ex H H h h':=
 ⟨fun b ob q _ _ _=>k b ob q,fun b ob q _ _ _=>⟨ob.slots,k b ob q⟩,fun _ _ _ n _=>n,fun b ob q _=>⟨ob,k b ob q⟩,fun _ _ q=>q,fun _ _ _ q=>q,fun _ ps q=>⟨#[],by rw [q]; simp⟩⟩
theorem Un.refl:Un fs ex H H h h:=Un.kept fun _ _ q=>q
theorem Un.laid (k:∀ b u,h.get? b=some u->h'.get? b=some u) (hp:h.objs.size<=a) (hn:H a=none):Un fs ex H (upd H a o) h h' where
 keep:=fun b u q _ _ _=>k b u q
 slot:=fun b u q _ _ _=>⟨u.slots,k b u q⟩
 free:=fun b u q n _=>by rw [Zaj (Nat.ne_of_lt (Nat.lt_of_lt_of_le (Heap.lt_size q) hp))]; exact n
 there:=fun b u q _=>⟨u,k b u q⟩
 tups:=fun b xs q=>by rw [Zaj (Zak q hn)]; exact q
 frzs:=fun b u xs q=>by rw [Zaj (Zak q hn)]; exact q
 tbls:=fun b ps q=>⟨#[],by rw [Zaj (Zak q hn),q]; simp⟩
theorem Un.write (mu:Mut (H x)) (he:e=x\/H e=some (.own x)) (k:∀ b u,b ≠ e->h.get? b=some u->h'.get? b=some u) (heo:∃ u,h'.get? e=some u):Un fs ex H (upd H x o) h h':=by
 have hx:∀ b,H b=none->b ≠ x:=fun b n z=>by subst z; rw [n] at mu; exact mu
 have hb:∀ b,H b=none->b ≠ e:=fun b n z=>by
  subst z
  rcases he with r | r
  ·exact hx b n r
  ·rw [n] at r; cases r
 have hm:∀ b u,H b=some u->¬ Mut (some u)->b ≠ x:=fun b u q nm z=>by subst z; rw [q] at mu; exact nm mu
 refine ⟨fun b u q n _ _=>k b u (hb b n) q,fun b u q n _ _=>⟨u.slots,k b u (hb b n) q⟩,fun b u q n _=>by rw [Zaj (hx b n)]; exact n,fun b u q _=>?_,
  fun b xs q=>by rw [Zaj (hm b _ q fun z=>z)]; exact q,fun b u xs q=>by rw [Zaj (hm b _ q fun z=>z)]; exact q,fun b ps q=>⟨#[],by rw [Zaj (hm b _ q fun z=>z),q]; simp⟩⟩
 by_cases hbe:b=e
 ·subst hbe; exact heo
 ·exact ⟨u,k b u hbe q⟩
end
def trk (h:Heap) (H:Hp):List Addr:=(List.range h.objs.size).filter fun a=>(H a).isSome
def hidT (h:Heap) (H:Hp):Heap:=PySem.W.hideAll h (trk h H)
theorem Zj5 (h:Heap) (H:Hp):(hidT h H).objs.size=h.objs.size:=PySem.W.hideAll_size _ _
theorem Zk1 {h:Heap} {H:Hp} {b:Addr} {o:Obj} (e:h.get? b=some o) (n:H b=none):(hidT h H).get? b=some o:=
 PySem.W.hideAll_get _ e fun hm=>by
  have q:(H b).isSome=true:=(List.mem_filter.mp hm).2
  rw [n] at q; simp at q
theorem Zm9 {h:Heap} {H:Hp} {b:Addr} {o:Obj} (e:(hidT h H).get? b=some o):h.get? b=some o/\H b=none:=by
 have e':h.get? b=some o:=PySem.W.of_hideAll (trk h H) e
 refine ⟨e',?_⟩
 cases q:H b with
 | none=>rfl
 | some x=>
  have hm:b ∈ trk h H:=List.mem_filter.mpr ⟨List.mem_range.mpr (Heap.lt_size e'),by simp [q]⟩
  have z:(hidT h H).get? b=none:=PySem.W.hideAll_none (trk h H) hm
  rw [z] at e; cases e
def allNews (g h:Heap) (L:Addr):List (Addr × Obj):=(List.range h.objs.size).filterMap fun a=>if a=L\/(g.get? a).isSome=true then none else (h.get? a).map fun o=>(a,o)
def rest (g h:Heap) (L d:Addr):List (Addr × Obj):=(allNews g h L).filter fun p=>decide (p.1 ≠ d)
end L2
namespace L2
open PySem PySem.Spec PyProof.Rows
structure Mod (K:PySem.W.Frag) (mg:Str->Option Value) (base:Heap):Prop where
 kin:K.In base
 glob:base.Ns mainGlobals mg
 blt:∃ mb,base.Ns builtinsNs mb/\∀ x:Str,x ≠ "__name__" -> mb x=bootBuiltins x
 nolimit:base.NoLimit
structure Cx where
 prog:Program
 w:World
 K:PySem.W.Frag
 mg:Str->Option Value
 base:Heap
 A:Around
 N:List Str
 s₀:Shared
 H₀:Hp
 env:Env
 outer:List Env
 stack:List Env
 ex:List Addr
 fn:Str->Bool
 calm:Bool
 pn:List (Addr × Obj)
 xe:Value->Shared->Prop
def frs (l:List Env):List Addr:=l.filterMap (·.frame)
abbrev Cx.fs (X:Cx):List Addr:=frs X.outer
def Vis (sc:Scope) (x:Str):Prop:=sc.names.lookup x=some .local\/sc.names.lookup x=some .cell\/sc.names.lookup x=some .free
def Loc (sc:Scope) (x:Str):Prop:=sc.names.lookup x=some .local\/sc.names.lookup x=some .cell
def Look (env:Env) (h:Heap) (m:Str->Option Value) (x:Str) (u:Value):Prop:=
 (env.kindOf x=some .local/\m x=some u)\/((env.kindOf x=some .cell\/env.kindOf x=some .free)/\∃ c,env.cells.lookup x=some c/\h.IsCell c (some u))
structure Cx.Ok (X:Cx):Prop where
 mod:Mod X.K X.mg X.base
 kind:X.env.scope.kind=.function
 glob:X.env.globals=mainGlobals
 blt:X.env.builtins=builtinsNs
 above:X.s₀.heap.objs.size<=X.env.locals
 inj:∀ x y c,X.env.cells.lookup x=some c->X.env.cells.lookup y=some c->x=y
 has:∀ x,(X.env.kindOf x=some .cell\/X.env.kindOf x=some .free)->∃ c,X.env.cells.lookup x=some c
 cab:∀ x c,X.fn x=true->X.env.cells.lookup x=some c->X.s₀.heap.objs.size<=c
 hd:X.calm=true->X.A.handled=none
 frames:X.A.frames=some X.stack
 stk:X.stack=X.outer\/(X.stack=X.env :: X.outer/\X.env.frame=some X.env.locals)
 exf:∀ b ∈ X.ex,b ≠ X.env.locals/\∀ x c,X.env.cells.lookup x=some c->c ≠ b
 bs:∀ b o,X.base.get? b=some o->X.s₀.heap.get? b=some o/\X.H₀ b=none
 bsz:X.base.objs.size<=X.s₀.heap.objs.size
 noex:∀ b o,X.base.get? b=some o->b ∉ X.ex
 exfs:∀ b ∈ X.ex,b ∉ X.fs
 funs:X.s₀.heap.FunFrames X.base X.outer
 frf:∀ b ∈ X.fs,X.H₀ b=none
structure Inv (X:Cx) (pins:List (Addr × Obj)) (σ:List (Option V)) (H:Hp) (s:Shared):Prop where
 ok:X.Ok
 os:s.os=X.s₀.os
 bare:AllBare s.gens
 base:Un X.fs X.ex X.H₀ H X.s₀.heap s.heap
 loc:∃ m,s.heap.Ns X.env.locals m/\∀ (i:Nat) (x:Str) (v:V),X.N[i]? = some x -> σ[i]? = some (some v)->Vis X.env.scope x->∃ u,RelV v u/\Look X.env s.heap m x u
 cell:∀ x c,X.env.cells.lookup x=some c->∃ v,s.heap.IsCell c v
 free:H X.env.locals=none
 freeC:∀ x c,X.env.cells.lookup x=some c->H c=none
 pin:∀ p ∈ X.pn ++ pins,s.heap.get? p.1=some p.2/\H p.1=none/\p.1 ≠ X.env.locals/\p.1 ∉ X.fs/\∀ v,p.2.data ≠ .cell v
 hok:HOk X.prog X.w H s.heap
 len:σ.length=X.N.length
section
variable {X:Cx} {pins:List (Addr × Obj)} {σ:List (Option V)} {H H':Hp} {s:Shared} {h':Heap}
theorem Cx.Ok.nofr (ok:X.Ok) {b:Addr} {o:Obj} (e:X.base.get? b=some o):b ∉ X.fs:=fun hb=>by
 have:=(ok.funs.mem hb).1
 rw [e] at this; cases this
theorem Inv.bs (I:Inv X pins σ H s):∀ b o,X.base.get? b=some o->s.heap.get? b=some o/\H b=none:=fun b o e=>
 ⟨I.base.keep b o (I.ok.bs b o e).1 (I.ok.bs b o e).2 (I.ok.nofr e) (I.ok.noex b o e),I.base.free b o (I.ok.bs b o e).1 (I.ok.bs b o e).2 (I.ok.noex b o e)⟩
theorem Inv.bk (I:Inv X pins σ H s):∀ b o,X.base.get? b=some o->s.heap.get? b=some o:=fun b o e=>(I.bs b o e).1
theorem Inv.mod (I:Inv X pins σ H s):Mod X.K X.mg X.base:=I.ok.mod
theorem Inv.kIn (I:Inv X pins σ H s):X.K.In s.heap:=I.ok.mod.kin.keeps I.bk
theorem Inv.lt (I:Inv X pins σ H s):X.env.locals < s.heap.objs.size:=let ⟨_,hn,_⟩:=I.loc; hn.lt
theorem Inv.sz (I:Inv X pins σ H s):X.s₀.heap.objs.size<=s.heap.objs.size:=Nat.le_trans I.ok.above (Nat.le_of_lt I.lt)
theorem Inv.nofs (I:Inv X pins σ H s) {a:Addr} (h:s.heap.objs.size<=a):a ∉ X.fs:=fun hb=>by
 obtain ⟨_,o,ho,_⟩:=I.ok.funs.mem hb
 exact absurd (Nat.lt_of_lt_of_le (Heap.lt_size ho) (Nat.le_trans I.sz h)) (Nat.lt_irrefl _)
theorem Inv.cne (I:Inv X pins σ H s):∀ x c,X.env.cells.lookup x=some c->c ≠ X.env.locals:=fun x c e z=>by
 obtain ⟨v,o,ho,hd⟩:=I.cell x c e
 obtain ⟨m,⟨o',es,ep,ho',hd',_⟩,_⟩:=I.loc
 rw [z,ho'] at ho; cases ho; rw [hd'] at hd; cases hd
theorem Inv.funs (I:Inv X pins σ H s):s.heap.FunFrames X.base X.outer:=by
 have all:∀ (l:List Env),(∀ b ∈ frs l,b ∈ X.fs)->X.s₀.heap.FunFrames X.base l->s.heap.FunFrames X.base l:=by
  intro l
  induction l with
  | nil=>intro _ _; trivial
  | cons env r ih=>
   intro hs hl
   obtain ⟨hk,⟨L,o,hf,hn,ho,hd⟩,hr⟩:=hl
   have hL:L ∈ X.fs:=hs L (by unfold frs; rw [List.filterMap_cons,hf]; exact List.mem_cons_self)
   obtain ⟨sl,e⟩:=I.base.slot L o ho (I.ok.frf L hL) hL fun z=>I.ok.exfs L z hL
   exact ⟨hk,⟨L,_,hf,hn,e,hd⟩,ih (fun b hb=>hs b (by unfold frs; rw [List.filterMap_cons,hf]; exact List.mem_cons_of_mem _ hb)) hr⟩
 exact all X.outer (fun _ hb=>hb) I.ok.funs
theorem Inv.stack (I:Inv X pins σ H s):s.heap.FunFrames X.base X.stack:=by
 rcases I.ok.stk with e | ⟨e,hf⟩
 ·rw [e]; exact I.funs
 ·rw [e]
  obtain ⟨m,hn,_⟩:=I.loc
  refine .cons (by rw [I.ok.kind]; decide) hf hn ?_ I.funs
  exact Heap.get?_none_of_le (Nat.le_trans I.ok.bsz I.ok.above)
theorem Inv.stkSub (I:Inv X pins σ H s):∀ b ∈ frs X.stack,b ∈ X.env.locals :: X.fs:=fun b hb=>by
 rcases I.ok.stk with e | ⟨e,hf⟩
 ·rw [e] at hb; exact List.mem_cons_of_mem _ hb
 ·rw [e] at hb
  unfold frs at hb
  rw [List.filterMap_cons,hf] at hb
  exact hb
theorem Inv.stkFree (I:Inv X pins σ H s):∀ b ∈ frs X.stack,H b=none:=fun b hb=>by
 rcases List.mem_cons.mp (I.stkSub b hb) with e | hb
 ·rw [e]; exact I.free
 ·obtain ⟨_,o,ho,_⟩:=I.ok.funs.mem hb
  exact I.base.free b o ho (I.ok.frf b hb) fun z=>I.ok.exfs b z hb
theorem Inv.step {g':Array GenState} {t':Nat} {d':Drawn} {ch:List Addr} (I:Inv X pins σ H s)
  (hch:∀ b ∈ ch,(b ∈ X.ex\/X.s₀.heap.objs.size<=b)/\b ≠ X.env.locals/\(∀ x c,X.env.cells.lookup x=some c->c ≠ b)/\∀ p ∈ X.pn ++ pins,p.1 ≠ b)
  (keep:∀ b o,b ≠ X.env.locals->b ∉ X.fs->b ∉ ch->s.heap.get? b=some o->H b=none->h'.get? b=some o)
  (slot:∀ b o,b ≠ X.env.locals->b ∈ X.fs->b ∉ ch->s.heap.get? b=some o->H b=none->∃ sl,h'.get? b=some { o with slots:=sl }) (free:∀ b o,b ∉ ch->s.heap.get? b=some o->H b=none->H' b=none)
  (there:∀ b o,b ∉ ch->s.heap.get? b=some o->∃ o',h'.get? b=some o')
  (tups:∀ b xs,H b=some (.tup xs)->H' b=some (.tup xs)) (frzs:∀ b o u,H b=some (.frz o u)->H' b=some (.frz o u)) (tbls:∀ b ps,H b=some (.tbl ps)->∃ more,H' b=some (.tbl (ps ++ more)))
  (ns:∀ m,s.heap.Ns X.env.locals m->h'.Ns X.env.locals m) (hok:HOk X.prog X.w H' h') (hg:AllBare g') :
  Inv X pins σ H' { s with heap:=h',gens:=g',drawn:=d',toks:=t' }:=by
 have neL:∀ b o,X.s₀.heap.get? b=some o->b ≠ X.env.locals:=fun b o e=>Nat.ne_of_lt (Nat.lt_of_lt_of_le (Heap.lt_size e) I.ok.above)
 have neC:∀ b o,X.s₀.heap.get? b=some o->b ∉ X.ex->b ∉ ch:=fun b o e hx hb=>by
  rcases (hch b hb).1 with z | z
  ·exact hx z
  ·exact absurd (Nat.lt_of_lt_of_le (Heap.lt_size e) z) (Nat.lt_irrefl _)
 have cellK:∀ x c,X.env.cells.lookup x=some c->∀ v,s.heap.IsCell c v->h'.IsCell c v:=fun x c e v hq_=>by
  obtain ⟨o,ho,hd⟩:=hq_
  have nch:c ∉ ch:=fun z=>(hch c z).2.2.1 x c e rfl
  by_cases hc:c ∈ X.fs
  ·obtain ⟨sl,q⟩:=slot c o (I.cne x c e) hc nch ho (I.freeC x c e)
   exact ⟨_,q,hd⟩
  ·exact ⟨o,keep c o (I.cne x c e) hc nch ho (I.freeC x c e),hd⟩
 refine ⟨I.ok,I.os,hg,⟨fun b o e n hb hx=>?_,fun b o e n hb hx=>?_,fun b o e n hx=>?_,fun b o e hx=>?_,fun b xs e=>tups b xs (I.base.tups b xs e),fun b o xs e=>frzs b o xs (I.base.frzs b o xs e),fun b ps e=>?_⟩,?_,fun x c e=>?_,?_,fun x c e=>?_,fun p hp=>?_,hok,I.len⟩
 ·exact keep b o (neL b o e) hb (neC b o e hx) (I.base.keep b o e n hb hx) (I.base.free b o e n hx)
 ·obtain ⟨sl,e1⟩:=I.base.slot b o e n hb hx
  obtain ⟨sl',e2⟩:=slot b _ (neL b o e) hb (neC b o e hx) e1 (I.base.free b o e n hx)
  exact ⟨sl',e2⟩
 ·obtain ⟨o',e1⟩:=I.base.there b o e hx
  exact free b o' (neC b o e hx) e1 (I.base.free b o e n hx)
 ·obtain ⟨o',e1⟩:=I.base.there b o e hx
  exact there b o' (neC b o e hx) e1
 ·obtain ⟨m1,e1⟩:=I.base.tbls b ps e
  obtain ⟨m2,e2⟩:=tbls b _ e1
  exact ⟨m1 ++ m2,by rw [e2,Array.append_assoc]⟩
 ·obtain ⟨m,hn,hl⟩:=I.loc
  refine ⟨m,ns m hn,fun i x v e1 e2 e3=>?_⟩
  obtain ⟨u,r,l⟩:=hl i x v e1 e2 e3
  refine ⟨u,r,?_⟩
  rcases l with l | ⟨k,c,e,z⟩
  ·exact .inl l
  ·exact .inr ⟨k,c,e,cellK x c e _ z⟩
 ·obtain ⟨v,z⟩:=I.cell x c e
  exact ⟨v,cellK x c e v z⟩
 ·obtain ⟨m,⟨o,_,_,ho,_⟩,_⟩:=I.loc
  exact free _ o (fun z=>(hch _ z).2.1 rfl) ho I.free
 ·obtain ⟨v,o,ho,hd⟩:=I.cell x c e
  exact free c o (fun z=>(hch c z).2.2.1 x c e rfl) ho (I.freeC x c e)
 ·obtain ⟨e,n,ne,nf,d⟩:=I.pin p hp
  have nch:p.1 ∉ ch:=fun z=>(hch p.1 z).2.2.2 p hp rfl
  exact ⟨keep p.1 p.2 ne nf nch e n,free p.1 p.2 nch e n,ne,nf,d⟩
theorem Inv.un {t':Nat} (I:Inv X pins σ H s) (u:Un X.fs [] H H' s.heap h') (hok:HOk X.prog X.w H' h'):Inv X pins σ H' { s with heap:=h',toks:=t' }:=by
 obtain ⟨m,⟨o,es,ep,ho,r⟩,_⟩:=id I.loc
 obtain ⟨sl,hL⟩:=u.any ho I.free (by simp)
 exact I.step (g':=s.gens) (d':=s.drawn) (ch:=[]) (fun _ z=>nomatch z) (fun b o _ hb _ e n=>u.keep b o e n hb (by simp)) (fun b o _ hb _ e n=>u.slot b o e n hb (by simp)) (fun b o _ e n=>u.free b o e n (by simp)) (fun b o _ e=>u.there b o e (by simp)) u.tups u.frzs u.tbls (fun m' hm=>by
  obtain ⟨o',es',ep',ho',r'⟩:=hm
  rw [ho] at ho'; cases ho'
  exact ⟨_,es',ep',hL,r'⟩) hok I.bare
theorem Inv.call {g':Array GenState} {t':Nat} {d':Drawn} {ch:List Addr} (I:Inv X pins σ H s) (u:Un (frs X.stack) ch H H' s.heap h') (hok:HOk X.prog X.w H' h') (hg:AllBare g')
  (hch:∀ b ∈ ch,(b ∈ X.ex\/X.s₀.heap.objs.size<=b)/\b ≠ X.env.locals/\(∀ x c,X.env.cells.lookup x=some c->c ≠ b)/\∀ p ∈ X.pn ++ pins,p.1 ≠ b) :
  Inv X pins σ H' { s with heap:=h',gens:=g',drawn:=d',toks:=t' }:=by
 obtain ⟨m,⟨o,es,ep,ho,r⟩,_⟩:=id I.loc
 obtain ⟨sl,hL⟩:=u.any ho I.free fun z=>(hch _ z).2.1 rfl
 exact I.step (ch:=ch) hch (fun b o hL hb hc e n=>u.keep b o e n (fun z=>(List.mem_cons.mp (I.stkSub b z)).elim hL hb) hc) (fun b o _ _ hc e n=>u.any e n hc) (fun b o hc e n=>u.free b o e n hc) (fun b o hc e=>u.there b o e hc) u.tups u.frzs u.tbls (fun m' hm=>by
  obtain ⟨o',es',ep',ho',r'⟩:=hm
  rw [ho] at ho'; cases ho'
  exact ⟨_,es',ep',hL,r'⟩) hok hg
theorem Inv.turned {t':Nat} {it:Addr} (I:Inv X pins σ H s) (k:∀ b o,b ≠ it->s.heap.get? b=some o->h'.get? b=some o) (hn:H it=none) (hL:it ≠ X.env.locals)
  (h1:it ∈ X.ex\/X.s₀.heap.objs.size<=it) (h2:∀ x c,X.env.cells.lookup x=some c->c ≠ it) (h3:∀ p ∈ X.pn ++ pins,p.1 ≠ it):Inv X pins σ H { s with heap:=h',toks:=t' }:=by
 have nit:∀ b u,H b=some u->b ≠ it:=fun b u e z=>by rw [z,hn] at e; cases e
 refine I.step (g':=s.gens) (d':=s.drawn) (ch:=[it]) (fun b hb=>?_) (fun b o _ _ hc e _=>k b o (fun z=>hc (by simp [z])) e) (fun b o _ _ hc e _=>⟨o.slots,k b o (fun z=>hc (by simp [z])) e⟩) (fun _ _ _ _ n=>n)
  (fun b o hc e=>⟨o,k b o (fun z=>hc (by simp [z])) e⟩) (fun _ _ e=>e) (fun _ _ _ e=>e) (fun b ps e=>⟨#[],by rw [e]; simp⟩) (fun m hm=>?_) (fun b u e=>?_) I.bare
 ·have e:b=it:=by simpa using hb
  subst e
  exact ⟨h1,hL,h2,h3⟩
 ·obtain ⟨o,es,ep,ho,r⟩:=hm
  exact ⟨o,es,ep,k _ o (Ne.symm hL) ho,r⟩
 ·refine (I.hok b u e).stay (fun c v hc q=>k c v ?_ q) (fun _ q=>q) fun _ _ q=>q
  rcases hc with z | z
  ·rw [z]; exact nit b u e
  ·exact nit c _ z
theorem Inv.tok (I:Inv X pins σ H s) (t:Nat):Inv X pins σ H { s with toks:=t }:=I.un (h':=s.heap) (t':=t) Un.refl I.hok
theorem Inv.kept {t':Nat} (I:Inv X pins σ H s) (k:∀ b u,s.heap.get? b=some u->h'.get? b=some u):Inv X pins σ H { s with heap:=h',toks:=t' }:=I.un (Un.kept k) (I.hok.kept k)
theorem Inv.laid {a:Addr} {o:HO} {t':Nat} (I:Inv X pins σ H s) (k:∀ b u,s.heap.get? b=some u->h'.get? b=some u) (hp:s.heap.objs.size<=a) (new:ObjOk X.prog X.w (upd H a o) h' a o) :
  Inv X pins σ (upd H a o) { s with heap:=h',toks:=t' }:=I.un (Un.laid k hp (I.hok.fresh hp)) (I.hok.laid k hp new)
theorem Inv.write {x e:Addr} {o:HO} {t':Nat} (I:Inv X pins σ H s) (mu:Mut (H x)) (he:e=x\/H e=some (.own x)) (k:∀ b u,b ≠ e->s.heap.get? b=some u->h'.get? b=some u) (heo:∃ u,h'.get? e=some u)
  (new:ObjOk X.prog X.w (upd H x o) h' x o):Inv X pins σ (upd H x o) { s with heap:=h',toks:=t' }:=I.un (Un.write mu he k heo) (I.hok.write mu he k heo new)
theorem Inv.pins_of {pins':List (Addr × Obj)} (I:Inv X pins σ H s) (h:∀ p ∈ pins',s.heap.get? p.1=some p.2/\H p.1=none/\p.1 ≠ X.env.locals/\p.1 ∉ X.fs/\∀ v,p.2.data ≠ .cell v):Inv X pins' σ H s:=
 ⟨I.ok,I.os,I.bare,I.base,I.loc,I.cell,I.free,I.freeC,fun p hp=>(List.mem_append.mp hp).elim (fun z=>I.pin p (List.mem_append_left _ z)) (h p),I.hok,I.len⟩
theorem Zhl {N:List Str} (hN:N.Nodup) {i j:Nat} {x:Str} (a:N[i]? = some x) (b:N[j]? = some x):i=j:=by
 obtain ⟨h1,e1⟩:=List.getElem?_eq_some_iff.mp a
 obtain ⟨h2,e2⟩:=List.getElem?_eq_some_iff.mp b
 exact (List.getElem_inj hN).mp (e1.trans e2.symm)
theorem Zgh {M:Model} {A:Around} {E:Value->Shared->Prop} {i:Nat} {x:Str} {v:V} {u:Value} {Q:Unit->Shared->Prop} (I:Inv X pins σ H s) (hN:X.N.Nodup) (hi:X.N[i]? = some x) (hx:Loc X.env.scope x) (r:RelV v u)
  (h:∀ s',Inv X pins (σ.set i (some v)) H s' -> (∃ a,Heap.SameBut a s.heap s'.heap/\(a=X.env.locals\/X.env.cells.lookup x=some a))->Q () s') (hf:X.fn x=true\/X.env.scope.names.lookup x=some .local:=by first | exact .inl rfl | exact .inr rfl | assumption):wpAny M A (storeName X.env x u) Q E s:=by
 obtain ⟨m,hn,hl⟩:=id I.loc
 have hcls:(X.env.scope.kind == .class || (X.env.scope.kind == .module && X.env.locals != X.env.globals))=false:=by rw [I.ok.kind]; rfl
 have hiσ:i < σ.length:=by rw [I.len]; exact (List.getElem?_eq_some_iff.mp hi).1
 have cne:=I.cne
 have tracked:∀ {a:Addr} {h':Heap},(∃ o,s.heap.get? a=some o/\H a=none)->Heap.SameBut a s.heap h' -> HOk X.prog X.w H h':=fun {a h'} ha hs b ob e=>by
  obtain ⟨_,_,hfree⟩:=ha
  refine (I.hok b ob e).stay (fun c w' hc q=>(hs.2 c ?_).trans q) (fun _ q=>q) fun _ _ q=>q
  rintro rfl
  rcases hc with rfl | hc
  ·rw [hfree] at e; cases e
  ·rw [hfree] at hc; cases hc
 rcases hx with hk | hk
 ·refine wpAny_storeName_local hk hn (fun h' hn' hs=>?_) hcls
  obtain ⟨oL,_,_,hoL,_⟩:=id hn
  refine h _ ⟨I.ok,I.os,I.bare,⟨fun b o e n hb hx=>?_,fun b o e n hb hx=>?_,I.base.free,fun b o e hx=>?_,I.base.tups,I.base.frzs,I.base.tbls⟩,⟨_,hn',fun j y v' e1 e2 e3=>?_⟩,fun y c e=>?_,I.free,I.freeC,fun p hp=>?_,tracked ⟨oL,hoL,I.free⟩ hs,by simpa using I.len⟩ ⟨_,hs,.inl rfl⟩
  ·exact (hs.2 b (Nat.ne_of_lt (Nat.lt_of_lt_of_le (Heap.lt_size e) I.ok.above))).trans (I.base.keep b o e n hb hx)
  ·obtain ⟨sl,e1⟩:=I.base.slot b o e n hb hx
   exact ⟨sl,(hs.2 b (Nat.ne_of_lt (Nat.lt_of_lt_of_le (Heap.lt_size e) I.ok.above))).trans e1⟩
  ·obtain ⟨o',e1⟩:=I.base.there b o e hx
   exact ⟨o',(hs.2 b (Nat.ne_of_lt (Nat.lt_of_lt_of_le (Heap.lt_size e) I.ok.above))).trans e1⟩
  ·by_cases hj:j=i
   ·subst hj
    rw [hi] at e1; cases e1
    rw [List.getElem?_set_self hiσ] at e2
    cases e2
    exact ⟨u,r,.inl ⟨hk,by simp⟩⟩
   ·rw [List.getElem?_set_ne (Ne.symm hj)] at e2
    obtain ⟨u',r',q⟩:=hl j y v' e1 e2 e3
    refine ⟨u',r',?_⟩
    rcases q with ⟨k,e⟩ | ⟨k,c,e,z⟩
    ·refine .inl ⟨k,?_⟩
     have:y ≠ x:=fun e=>hj (Zhl hN e1 (e ▸ hi))
     simp [this,e]
    ·exact .inr ⟨k,c,e,z.sameBut hs (cne y c e)⟩
  ·obtain ⟨w',z⟩:=I.cell y c e
   exact ⟨w',z.sameBut hs (cne y c e)⟩
  ·obtain ⟨e,n,ne,nf,d⟩:=I.pin p hp
   exact ⟨(hs.2 p.1 ne).trans e,n,ne,nf,d⟩
 ·have hfn:X.fn x=true:=by
   rcases hf with z | z
   ·exact z
   ·rw [z] at hk; cases hk
  obtain ⟨c,hc⟩:=I.ok.has x (.inl hk)
  obtain ⟨w',z⟩:=I.cell x c hc
  refine wpAny_storeName_cell I.ok.kind hk hc z (fun h' hc' hs=>?_)
  obtain ⟨oc,hoc,hocd⟩:=id z
  refine h { s with heap:=h' } ⟨I.ok,I.os,I.bare,⟨fun b o e n hb hx=>?_,fun b o e n hb hx=>?_,I.base.free,fun b o e hx=>?_,I.base.tups,I.base.frzs,I.base.tbls⟩,⟨m,hn.sameBut hs (Ne.symm (cne x c hc)),fun j y v' e1 e2 e3=>?_⟩,fun y c' e=>?_,I.free,I.freeC,fun p hp=>?_,tracked ⟨oc,hoc,I.freeC x c hc⟩ hs,by simpa using I.len⟩ ⟨c,hs,.inr hc⟩
  ·exact (hs.2 b (Nat.ne_of_lt (Nat.lt_of_lt_of_le (Heap.lt_size e) (I.ok.cab x c hfn hc)))).trans (I.base.keep b o e n hb hx)
  ·obtain ⟨sl,e1⟩:=I.base.slot b o e n hb hx
   exact ⟨sl,(hs.2 b (Nat.ne_of_lt (Nat.lt_of_lt_of_le (Heap.lt_size e) (I.ok.cab x c hfn hc)))).trans e1⟩
  ·obtain ⟨o',e1⟩:=I.base.there b o e hx
   exact ⟨o',(hs.2 b (Nat.ne_of_lt (Nat.lt_of_lt_of_le (Heap.lt_size e) (I.ok.cab x c hfn hc)))).trans e1⟩
  ·by_cases hj:j=i
   ·subst hj
    rw [hi] at e1; cases e1
    rw [List.getElem?_set_self hiσ] at e2
    cases e2
    exact ⟨u,r,.inr ⟨.inl hk,c,hc,hc'⟩⟩
   ·rw [List.getElem?_set_ne (Ne.symm hj)] at e2
    obtain ⟨u',r',q⟩:=hl j y v' e1 e2 e3
    refine ⟨u',r',?_⟩
    rcases q with q | ⟨k,c',e,z'⟩
    ·exact .inl q
    ·refine .inr ⟨k,c',e,z'.sameBut hs ?_⟩
     rintro rfl
     exact hj (Zhl hN e1 (I.ok.inj _ _ _ e hc ▸ hi))
  ·by_cases hcc:c' = c
   ·subst hcc; exact ⟨_,hc'⟩
   ·obtain ⟨w2,z2⟩:=I.cell y c' e
    exact ⟨w2,z2.sameBut hs hcc⟩
  ·obtain ⟨e,n,ne,nf,d⟩:=I.pin p hp
   refine ⟨(hs.2 p.1 ?_).trans e,n,ne,nf,d⟩
   intro q
   rw [q,hoc] at e
   have q':oc=p.2:=Option.some.inj e
   exact d w' (by rw [<- q']; exact hocd)
theorem Zdc {M:Model} {A:Around} {E:Value->Shared->Prop} {i:Nat} {x:Str} {v:V} {u:Value} {Q:Unit->Shared->Prop} (I:Inv X pins σ H s) (hN:X.N.Nodup) (hi:X.N[i]? = some x) (hx:Loc X.env.scope x) (r:RelV v u)
  (h:∀ s',Inv X pins (σ.set i (some v)) H s' -> Q () s') (hf:X.fn x=true\/X.env.scope.names.lookup x=some .local:=by first | exact .inl rfl | exact .inr rfl | assumption):wpAny M A (storeName X.env x u) Q E s:=
 Zgh I hN hi hx r (fun s' I' _=>h s' I') hf
theorem Inv.call' {s':Shared} {ch:List Addr} (I:Inv X pins σ H s) (ho:s'.os=s.os) (u:Un (frs X.stack) ch H H' s.heap s'.heap) (hok:HOk X.prog X.w H' s'.heap) (hg:AllBare s'.gens)
  (hch:∀ b ∈ ch,(b ∈ X.ex\/X.s₀.heap.objs.size<=b)/\b ≠ X.env.locals/\(∀ x c,X.env.cells.lookup x=some c->c ≠ b)/\∀ p ∈ X.pn ++ pins,p.1 ≠ b):Inv X pins σ H' s':=by
 obtain ⟨h',g',d',t',o'⟩:=s'
 have e:o' = s.os:=ho
 subst e
 exact I.call (g':=g') (t':=t') (d':=d') u hok hg hch
end
abbrev XK:=Value->Option Addr->Hp->Prop
abbrev St:=List (Option V)
abbrev VK:=V->Hp->Prop
abbrev TE:=St->Hp->VK->Prop
abbrev TT:=St->Hp->(Bool->Hp->Prop)->Prop
abbrev TA:=St->Hp->(List V->Hp->Prop)->Prop
structure Ends where
 nx:St->Hp->Prop
 rt:VK
 bk:St->Hp->Prop:=fun _ _=>False
 ct:St->Hp->Prop:=fun _ _=>False
abbrev TS:=Ends->St->Hp->Prop
def EP (X:Cx) (pins:List (Addr × Obj)) (σ:St) (Q:VK) (u:Value) (s':Shared):Prop:=∃ v H',Inv X pins σ H' s' /\ RelV v u/\Q v H'
def TP (X:Cx) (pins:List (Addr × Obj)) (σ:St) (Q:Bool->Hp->Prop) (b:Bool) (s':Shared):Prop:=∃ H',Inv X pins σ H' s' /\ Q b H'
def AP (X:Cx) (pins:List (Addr × Obj)) (σ:St) (Q:List V->Hp->Prop) (us:List Value) (s':Shared):Prop:=∃ vs H',Inv X pins σ H' s' /\ Vals vs us/\Q vs H'
def SP (X:Cx) (pins:List (Addr × Obj)) (D:Ends) (f:Flow) (s':Shared):Prop:=
 match f with
 | .next=>∃ σ' H',Inv X pins σ' H' s' /\ D.nx σ' H'
 | .brk=>∃ σ' H',Inv X pins σ' H' s' /\ D.bk σ' H'
 | .cont=>∃ σ' H',Inv X pins σ' H' s' /\ D.ct σ' H'
 | .ret u=>∃ v σ' H',Inv X pins σ' H' s' /\ RelV v u/\D.rt v H'
def PE (X:Cx) (e:Expr) (t:TE):Prop:=
 ∀ (pins:List (Addr × Obj)) (s:Shared) (σ:St) (H:Hp) (Q:VK),Inv X pins σ H s->t σ H Q->wpAny (model X.prog X.w) X.A (eval e X.env) (EP X pins σ Q) X.xe s
def PT (X:Cx) (e:Expr) (t:TT):Prop:=
 ∀ (pins:List (Addr × Obj)) (s:Shared) (σ:St) (H:Hp) (Q:Bool->Hp->Prop),Inv X pins σ H s->t σ H Q->wpAny (model X.prog X.w) X.A (isTrue e X.env (eval e X.env)) (TP X pins σ Q) X.xe s
def PW (X:Cx) (e:Expr) (t:TT):Prop:=
 ∀ (whole:Sem Value) (pins:List (Addr × Obj)) (s:Shared) (σ:St) (H:Hp) (Q:Bool->Hp->Prop),Inv X pins σ H s->t σ H Q->wpAny (model X.prog X.w) X.A (isTrue e X.env whole) (TP X pins σ Q) X.xe s
theorem PW.pt {X:Cx} {e:Expr} {t:TT} (h:PW X e t):PT X e t:=h _
def PA (X:Cx) (es:List Expr) (t:TA):Prop:=
 ∀ (pos:Pos) (pins:List (Addr × Obj)) (s:Shared) (σ:St) (H:Hp) (Q:List V->Hp->Prop),Inv X pins σ H s->t σ H Q->wpAny (model X.prog X.w) X.A (spliced (backTo pos (starEach es X.env))) (AP X pins σ Q) X.xe s
def PS (X:Cx) (st:Stmt) (t:TS):Prop:=
 ∀ (pins:List (Addr × Obj)) (s:Shared) (σ:St) (H:Hp) (D:Ends),Inv X pins σ H s->t D σ H->wpAny (model X.prog X.w) X.A (exec st X.env) (SP X pins D) X.xe s
def PSs (X:Cx) (st:List Stmt) (t:TS):Prop:=
 ∀ (pins:List (Addr × Obj)) (s:Shared) (σ:St) (H:Hp) (D:Ends),Inv X pins σ H s->t D σ H->wpAny (model X.prog X.w) X.A (execs st X.env) (SP X pins D) X.xe s
theorem thn {α:Type} {t:Sem α} {Q Q':α -> Shared->Prop} {M:Model} {A:Around} {E:Value->Shared->Prop} {s:Shared} (h:wpAny M A t Q E s) (hQ:∀ a s,Q a s->Q' a s):wpAny M A t Q' E s:=wpAny_mono h hQ fun _ _ x=>x
end L2
namespace L2
open PySem PySem.Spec PyProof.Rows
section
variable {X:Cx}
def tVar (i:Nat):TE:=fun σ H Q=>∃ v,σ[i]? = some (some v)/\Q v H
def tC (v:V):TE:=fun _ H Q=>Q v H
theorem Zpc {i:Nat} {x:Str} {pos:Pos} (hN:X.N[i]? = some x) (hv:Vis X.env.scope x) (hd:(x == ("__debug__":Str))=false:=by decide) (hcd:(x == ("__classdict__":Str))=false:=by decide):PE X (.Name x pos) (tVar i):=by
 intro pins s σ H Q I h
 obtain ⟨v,e,h⟩:=h
 obtain ⟨m,hn,hl⟩:=I.loc
 obtain ⟨u,r,l⟩:=hl i x v hN e hv
 have fin:EP X pins σ Q u s:=⟨v,H,I,r,h⟩
 rcases l with ⟨hk,hm⟩ | ⟨hk,c,hc,hcell⟩
 ·exact wpAny_Name (wpAny_loadName_local I.ok.kind hk hn hm fin) hd
 ·rcases hk with hk | hk
  ·exact wpAny_Name (wpAny_loadName_cell I.ok.kind hk hc hcell fin) hd
  ·exact wpAny_Name (wpAny_loadName_free I.ok.kind hk hc hcell fin hcd) hd
theorem Zag {i j pos}:PE X (.Constant (.int i) j pos) (tC (.int i)):=fun _ _ _ H _ I h=>wpAny_Constant_int ⟨.int i,H,I.tok _,⟨_,rfl⟩,h⟩
theorem Zc4 {b j pos}:PE X (.Constant (.bool b) j pos) (tC (.bl b)):=fun _ _ _ H _ I h=>Constant_bool ⟨.bl b,H,I,rfl,h⟩
theorem Zge {j pos}:PE X (.Constant .none j pos) (tC .non):=fun _ _ _ H _ I h=>Constant_none ⟨.non,H,I,rfl,h⟩
def Gl (X:Cx) (x:Str):Prop:=X.env.kindOf x=some .globalImplicit
theorem Zmu {E:Value->Shared->Prop} {pins:List (Addr × Obj)} {s:Shared} {σ:St} {H:Hp} {x:Str} {u:Value} {pos:Pos} {Q:Value->Shared->Prop} (I:Inv X pins σ H s) (hg:Gl X x) (hm:X.mg x=some u) (h:Q u s)
  (hd:(x == ("__debug__":Str))=false:=by decide):wpAny (model X.prog X.w) X.A (eval (.Name x pos) X.env) Q E s:=
 Calls.Name_function_global I.ok.kind hg (Calls.loadGlobal_global (by rw [I.ok.glob]; exact I.mod.glob.keeps I.bk) hm h) hd
theorem Zcy {E:Value->Shared->Prop} {pins:List (Addr × Obj)} {s:Shared} {σ:St} {H:Hp} {x:Str} {u:Value} {pos:Pos} {Q:Value->Shared->Prop} (I:Inv X pins σ H s) (hg:Gl X x) (hm:X.mg x=none) (hv:bootBuiltins x=some u) (h:Q u s)
  (hn:x ≠ "__name__":=by decide) (hd:(x == ("__debug__":Str))=false:=by decide):wpAny (model X.prog X.w) X.A (eval (.Name x pos) X.env) Q E s:=by
 obtain ⟨mb,h1,h2⟩:=I.mod.blt
 exact Calls.Name_function_global I.ok.kind hg (Calls.loadGlobal_builtin (by rw [I.ok.glob]; exact I.mod.glob.keeps I.bk) hm (by rw [I.ok.blt]; exact h1.keeps I.bk) ((h2 x hn).trans hv) h) hd
theorem Za5 {x:Str} {v:V} {u:Value} {pos:Pos} (hg:Gl X x) (hm:X.mg x=none) (hv:bootBuiltins x=some u) (r:RelV v u) (hn:x ≠ "__name__":=by decide) (hd:(x == ("__debug__":Str))=false:=by decide):PE X (.Name x pos) (tC v):=
 fun _ _ _ H _ I h=>Zcy I hg hm hv ⟨v,H,I,r,h⟩ hn hd
variable {a b:Expr} {ta tb:TE} {pos:Pos}
variable {tA tB':TT} {rest:List Expr}
def tAnd (t u:TT):TT:=fun σ H Q=>t σ H fun c H1=>if c=true then u σ H1 Q else Q false H1
def tOr (t u:TT):TT:=fun σ H Q=>t σ H fun c H1=>if c=true then Q true H1 else u σ H1 Q
def tNot (t:TT):TT:=fun σ H Q=>t σ H fun c H1=>Q (!c) H1
theorem pw_and1 (ha:PT X a tA):PW X (.BoolOp .And [a] pos) tA:=by
 intro wh pins s σ H Q I h
 refine isTrue_and (thn (ha pins s σ H Q I h) fun c s1 e=>?_)
 cases c with
 | true=>exact isTrue_and_nil e
 | false=>exact e
theorem pw_or1 (ha:PT X a tA):PW X (.BoolOp .Or [a] pos) tA:=by
 intro wh pins s σ H Q I h
 refine isTrue_or (thn (ha pins s σ H Q I h) fun c s1 e=>?_)
 cases c with
 | false=>exact isTrue_or_nil e
 | true=>exact e
theorem pw_and (ha:PT X a tA) (hb:PW X (.BoolOp .And (b :: rest) pos) tB'):PW X (.BoolOp .And (a :: b :: rest) pos) (tAnd tA tB'):=by
 intro wh pins s σ H Q I h
 refine isTrue_and (thn (ha pins s σ H _ I h) fun c s1 ⟨H1,I1,q1⟩=>?_)
 cases c with
 | true=>exact hb wh pins s1 σ H1 Q I1 q1
 | false=>exact ⟨H1,I1,q1⟩
theorem pw_or (ha:PT X a tA) (hb:PW X (.BoolOp .Or (b :: rest) pos) tB'):PW X (.BoolOp .Or (a :: b :: rest) pos) (tOr tA tB'):=by
 intro wh pins s σ H Q I h
 refine isTrue_or (thn (ha pins s σ H _ I h) fun c s1 ⟨H1,I1,q1⟩=>?_)
 cases c with
 | true=>exact ⟨H1,I1,q1⟩
 | false=>exact hb wh pins s1 σ H1 Q I1 q1
theorem Zb7 (ha:PT X a tA):PT X (.UnaryOp .Not a pos) (tNot tA):=by
 intro pins s σ H Q I h
 exact isTrue_not (ha pins s σ H (fun c H1=>Q (!c) H1) I h)
def tAndV (ta tb:TE):TE:=fun σ H Q=>ta σ H fun x H1=>∃ c,x=.bl c/\if c=true then tb σ H1 Q else Q (.bl false) H1
def tOrV (ta tb:TE):TE:=fun σ H Q=>ta σ H fun x H1=>∃ c,x=.bl c/\if c=true then Q (.bl true) H1 else tb σ H1 Q
def tNotV (ta:TE):TE:=fun σ H Q=>ta σ H fun x H1=>∃ c,x=.bl c/\Q (.bl (!c)) H1
theorem Zjs {op} {t:TE} (h:PE X a t):PE X (.BoolOp op [a] pos) t:=fun pins s σ H Q I hw=>BoolOp_one (h pins s σ H Q I hw)
theorem Ziq (ha:PE X a ta) (hb:PE X (.BoolOp .And (b :: rest) pos) tb):PE X (.BoolOp .And (a :: b :: rest) pos) (tAndV ta tb):=by
 intro pins s σ H Q I h
 refine BoolOp_and (thn (ha pins s σ H _ I h) fun v s1 ⟨x,H1,I1,r1,q1⟩=>?_)
 obtain ⟨c,rfl,q1⟩:=q1
 cases r1
 refine wpAny_truthy_bool ?_
 cases c with
 | true=>exact hb pins s1 σ H1 Q I1 q1
 | false=>exact ⟨.bl false,H1,I1,rfl,q1⟩
theorem Zlz (ha:PE X a ta):PE X (.UnaryOp .Not a pos) (tNotV ta):=by
 intro pins s σ H Q I h
 refine UnaryOp_ (thn (ha pins s σ H _ I h) fun v s1 ⟨x,H1,I1,r1,q1⟩=>?_)
 obtain ⟨c,rfl,q1⟩:=q1
 cases r1
 exact not_of (wpAny_truthy_bool ⟨.bl (!c),H1,I1,rfl,q1⟩)
end
end L2
namespace L2
open PySem PySem.Spec PyProof.Rows
def SqL (K:PySem.W.Frag) (H:Hp) (a:Addr) (xs:List V):Prop:=
 Rd H a (.lst xs) ∨
  ∃ (o:Obj) (its:Array Value) (n:Nat),K.lookup a=some o/\o.cls=.type "list" /\ o.dict=none/\o.data=.seq its n/\its.size<=sizeLine/\Vals xs its.toList
def SqT (K:PySem.W.Frag) (H:Hp) (a:Addr) (xs:List V):Prop:=
 Rd H a (.tup xs) ∨
  ∃ (o:Obj) (its:Array Value) (n:Nat),K.lookup a=some o/\o.cls=.type "tuple" /\ o.data=.seq its n/\its.size<=sizeLine/\Vals xs its.toList
def absV:Value->Option V
 | .none=>some .non
 | .bool b=>some (.bl b)
 | .int i _=>some (.int i)
 | .str x _=>some (.str x)
 | .bytes b _=>some (.byt b)
 | .float b _=>some (.flt b)
 | .ref a=>some (.ref a)
 | .type n=>some (.ty n)
 | _=>none
theorem RelV.abs {x:V} {u:Value} (r:RelV x u):absV u=some x:=by
 cases x with
 | non=>cases r; rfl
 | bl _=>cases r; rfl
 | int _=>obtain ⟨t,rfl⟩:=r; rfl
 | str _=>obtain ⟨t,rfl⟩:=r; rfl
 | byt _=>obtain ⟨t,rfl⟩:=r; rfl
 | flt _=>obtain ⟨t,rfl⟩:=r; rfl
 | ref _=>cases r; rfl
 | ty _=>cases r; rfl
theorem RelV.inj {x y:V} {u:Value} (r:RelV x u) (q:RelV y u):x=y:=Option.some.inj (r.abs.symm.trans q.abs)
theorem Vals.inj:∀ {xs ys:List V} {us:List Value},Vals xs us->Vals ys us->xs=ys
 | _,_,_,.nil,.nil=>rfl
 | _,_,_,.cons r t,.cons r' t'=>by rw [r.inj r',Vals.inj t t']
section
variable {X:Cx} {pins:List (Addr × Obj)} {σ:St} {H:Hp} {s:Shared} {a:Addr} {xs ys:List V}
theorem SqL.of {K:PySem.W.Frag} (h:H a=some (.lst xs)):SqL K H a xs:=.inl (.inl h)
theorem SqT.of {K:PySem.W.Frag} (h:H a=some (.tup xs)):SqT K H a xs:=.inl (.inl h)
theorem Inv.list (I:Inv X pins σ H s) (h:SqL X.K H a xs):∃ its:List Value,Vals xs its/\PlainL s.heap a its.toArray/\xs.length<=sizeLine:=by
 rcases h with h | ⟨o,its,n,hk,hc,hd,hs,hz,r⟩
 ·obtain ⟨z,its,n,r,e⟩:=h.ok I.hok
  exact ⟨its,r,⟨_,n,e,rfl,rfl,rfl⟩,z⟩
 ·refine ⟨its.toList,r,⟨o,n,I.kIn a o hk,hc,hd,by simpa using hs⟩,?_⟩
  have e:=r.length
  simp only [Array.length_toList] at e
  omega
theorem Inv.tuple (I:Inv X pins σ H s) (h:SqT X.K H a xs):∃ its:List Value,Vals xs its/\IsTup s.heap a its.toArray/\xs.length<=sizeLine:=by
 rcases h with h | ⟨o,its,n,hk,hc,hs,hz,r⟩
 ·obtain ⟨z,its,r,p⟩:=h.ok I.hok
  exact ⟨its,r,p.tup,z⟩
 ·refine ⟨its.toList,r,⟨o,I.kIn a o hk,hc,n,by simpa using hs⟩,?_⟩
  have e:=r.length
  simp only [Array.length_toList] at e
  omega
theorem Inv.list_inj (I:Inv X pins σ H s) (h:SqL X.K H a xs) (h':SqL X.K H a ys):xs=ys:=by
 obtain ⟨its,r,⟨o,n,e,_,_,d⟩,_⟩:=I.list h
 obtain ⟨its',r',⟨o',n',e',_,_,d'⟩,_⟩:=I.list h'
 rw [e] at e'; cases e'
 rw [d] at d'
 injection d' with d1 _
 have:its=its':=by simpa using congrArg Array.toList d1
 subst this
 exact r.inj r'
theorem Inv.tuple_inj (I:Inv X pins σ H s) (h:SqT X.K H a xs) (h':SqT X.K H a ys):xs=ys:=by
 obtain ⟨its,r,⟨o,e,_,n,d⟩,_⟩:=I.tuple h
 obtain ⟨its',r',⟨o',e',_,n',d'⟩,_⟩:=I.tuple h'
 rw [e] at e'; cases e'
 rw [d] at d'
 injection d' with d1 _
 have:its=its':=by simpa using congrArg Array.toList d1
 subst this
 exact r.inj r'
end
abbrev Cx.wish (X:Cx) (E:Value->Shared->Prop):Cx:={ X with xe:=E }
abbrev Cx.nox (X:Cx):Cx:=X.wish fun _ _=>False
theorem Cx.Ok.wish {X:Cx} (ok:X.Ok) (E:Value->Shared->Prop):(X.wish E).Ok:=
 ⟨ok.mod,ok.kind,ok.glob,ok.blt,ok.above,ok.inj,ok.has,ok.cab,ok.hd,ok.frames,ok.stk,ok.exf,ok.bs,ok.bsz,ok.noex,ok.exfs,ok.funs,ok.frf⟩
theorem Cx.Ok.unwish {X:Cx} {E:Value->Shared->Prop} (ok:(X.wish E).Ok):X.Ok:=
 ⟨ok.mod,ok.kind,ok.glob,ok.blt,ok.above,ok.inj,ok.has,ok.cab,ok.hd,ok.frames,ok.stk,ok.exf,ok.bs,ok.bsz,ok.noex,ok.exfs,ok.funs,ok.frf⟩
section
variable {X:Cx} {pins:List (Addr × Obj)} {σ:St} {H:Hp} {s:Shared} {E:Value->Shared->Prop}
theorem Inv.wish (I:Inv X pins σ H s) (E:Value->Shared->Prop):Inv (X.wish E) pins σ H s:=⟨I.ok.wish E,I.os,I.bare,I.base,I.loc,I.cell,I.free,I.freeC,I.pin,I.hok,I.len⟩
theorem Inv.unwish (I:Inv (X.wish E) pins σ H s):Inv X pins σ H s:=⟨I.ok.unwish,I.os,I.bare,I.base,I.loc,I.cell,I.free,I.freeC,I.pin,I.hok,I.len⟩
theorem SP.unwish {D:Ends} {f:Flow} {s':Shared} (h:SP (X.wish E) pins D f s'):SP X pins D f s':=by
 cases f with
 | next=>obtain ⟨σ',H',I,q⟩:=h; exact ⟨σ',H',I.unwish,q⟩
 | brk=>obtain ⟨σ',H',I,q⟩:=h; exact ⟨σ',H',I.unwish,q⟩
 | cont=>obtain ⟨σ',H',I,q⟩:=h; exact ⟨σ',H',I.unwish,q⟩
 | ret u=>obtain ⟨v,σ',H',I,r,q⟩:=h; exact ⟨v,σ',H',I.unwish,r,q⟩
theorem PSs.nox {st:List Stmt} {t:TS} (h:PSs X.nox st t):PSs X st t:=fun pins s σ H D I hw=>
 wpAny_mono (h pins s σ H D (I.wish _) hw) (fun _ _ q=>q.unwish) fun _ _ z=>False.elim z
end
section
variable {X:Cx} {st:Stmt} {rest:List Stmt} {t u:TS} {e:Expr} {te:TE} {pos:Pos}
def tNext:TS:=fun D σ H=>D.nx σ H
def tSeq (t u:TS):TS:=fun D σ H=>t { D with nx:=u D } σ H
theorem Za1:PSs X [] tNext:=fun _ _ σ H _ I h=>wpAny_execs_nil ⟨σ,H,I,h⟩
theorem Zaf (h1:PS X st t) (h2:PSs X rest u):PSs X (st :: rest) (tSeq t u):=by
 intro pins s σ H D I h
 refine wpAny_execs_cons (thn (h1 pins s σ H { D with nx:=u D } I h) fun f s1 q=>?_)
 cases f with
 | next=>
  obtain ⟨σ',H',I',q⟩:=q
  exact h2 pins s1 σ' H' D I' q
 | ret v=>exact q
 | brk=>exact q
 | cont=>exact q
theorem Zai (h1:PS X st t):PSs X [st] t:=by
 intro pins s σ H D I h
 refine wpAny_execs_cons (thn (h1 pins s σ H D I h) fun f s1 q=>?_)
 cases f with
 | next=>exact wpAny_execs_nil q
 | ret v=>exact q
 | brk=>exact q
 | cont=>exact q
theorem Inv.quiet {pins:List (Addr × Obj)} {σ:St} {H:Hp} {s:Shared} (I:Inv X pins σ H s):interactive X.env=false:=by simp [interactive,I.ok.kind]
def tDrop (te:TE):TS:=fun D σ H=>te σ H fun _ H1=>D.nx σ H1
theorem Zef (he:PE X e te) (hs:swapsWith e none pos.line X.env=pure false:=by rfl):PS X (.Expr e pos) (tDrop te):=by
 intro pins s σ H D I h
 exact wpAny_Expr_any (thn (he pins s σ H _ I h) fun v s1 ⟨x,H1,I1,r1,q1⟩=>⟨σ,H1,I1,q1⟩) I.quiet hs
def tRet (te:TE):TS:=fun D σ H=>te σ H D.rt
theorem Zat (he:PE X e te):PS X (.Return (some e) pos) (tRet te):=by
 intro pins s σ H D I h
 exact wpAny_Return_some (thn (he pins s σ H _ I h) fun v s1 ⟨x,H1,I1,r1,q1⟩=>⟨x,σ,H1,I1,r1,q1⟩)
def tIfS (c:TT) (t u:TS):TS:=fun D σ H=>c σ H fun b H1=>if b=true then t D σ H1 else u D σ H1
theorem Zbt {c:Expr} {a b:List Stmt} {tc:TT} (hc:PT X c tc) (ha:PSs X a t) (hb:PSs X b u):PS X (.If c a b pos) (tIfS tc t u):=by
 intro pins s σ H D I h
 refine wpAny_If (thn (hc pins s σ H _ I h) fun d s1 ⟨H1,I1,q1⟩=>?_)
 cases d with
 | true=>exact ha pins s1 σ H1 D I1 q1
 | false=>exact hb pins s1 σ H1 D I1 q1
def tNever:TS:=fun _ _ _=>False
theorem Zj4 {sts:List Stmt}:PSs X sts tNever:=fun _ _ _ _ _ _ h=>h.elim
end
abbrev TG:=V->St->Hp->(St->Hp->Prop)->Prop
abbrev TGs:=List V->St->Hp->(St->Hp->Prop)->Prop
def PG (X:Cx) (target:Expr) (t:TG):Prop:=
 ∀ (pins:List (Addr × Obj)) (s:Shared) (σ:St) (H:Hp) (v:V) (u:Value) (Q:St->Hp->Prop),Inv X pins σ H s->RelV v u->t v σ H Q →
  wpAny (model X.prog X.w) X.A (assign target X.env u) (fun _ s'=>∃ σ' H',Inv X pins σ' H' s' /\ Q σ' H') X.xe s
def PGs (X:Cx) (ts:List Expr) (t:TGs):Prop:=
 ∀ (pins:List (Addr × Obj)) (s:Shared) (σ:St) (H:Hp) (vs:List V) (us:List Value) (Q:St->Hp->Prop),Inv X pins σ H s->Vals vs us->t vs σ H Q →
  wpAny (model X.prog X.w) X.A (assignInOrder ((assignEach ts X.env).map (·.2)) us) (fun _ s'=>∃ σ' H',Inv X pins σ' H' s' /\ Q σ' H') X.xe s
abbrev TSet:=V->V->V->Hp->(Hp->Prop)->Prop
def PSet (X:Cx) (t:TSet):Prop:=
 ∀ (pins:List (Addr × Obj)) (s:Shared) (σ:St) (H:Hp) (o i v:V) (ov iv u:Value) (Q:Hp->Prop),Inv X pins σ H s->RelV o ov->RelV i iv->RelV v u->t o i v H Q →
  wpAny (model X.prog X.w) X.A (setItem ov iv u) (fun _ s'=>∃ H',Inv X pins σ H' s' /\ Q H') X.xe s
abbrev TIp:=V->V->Hp->VK->Prop
def PIp (X:Cx) (op:Operator) (t:TIp):Prop:=
 ∀ (pins:List (Addr × Obj)) (s:Shared) (σ:St) (H:Hp) (x y:V) (v u:Value) (Q:VK),Inv X pins σ H s->RelV x v->RelV y u->t x y H Q →
  wpAny (model X.prog X.w) X.A (inplaceOp op v u) (EP X pins σ Q) X.xe s
section
variable {X:Cx} {pos:Pos}
def gName (i:Nat):TG:=fun v σ H Q=>Q (σ.set i (some v)) H
theorem Zas {i:Nat} {x:Str} (hN:X.N.Nodup) (hi:X.N[i]? = some x) (hx:Loc X.env.scope x) (hf:X.fn x=true\/X.env.scope.names.lookup x=some .local:=by first | exact .inl rfl | exact .inr rfl | assumption):PG X (.Name x pos) (gName i):=by
 intro pins s σ H v u Q I r h
 exact wpAny_assign_Name (Zdc I hN hi hx r (fun s' I'=>⟨_,H,I',h⟩) hf)
def gNil:TGs:=fun vs σ H Q=>vs=[]/\Q σ H
def gCons (t:TG) (u:TGs):TGs:=fun vs σ H Q=>∃ v r,vs=v :: r/\t v σ H fun σ' H'=>u r σ' H' Q
theorem Zed:PGs X [] gNil:=by
 intro pins s σ H vs us Q I r h
 obtain ⟨e,h⟩:=h
 subst e
 cases r
 exact assignInOrder_nil ⟨σ,H,I,h⟩
theorem Zbq {e:Expr} {es:List Expr} {t:TG} {u:TGs} (h1:PG X e t) (h2:PGs X es u)
  (hs:(assignEach (e :: es) X.env).map (·.2)=assign e X.env :: (assignEach es X.env).map (·.2):=by rfl):PGs X (e :: es) (gCons t u):=by
 intro pins s σ H vs us Q I r h
 obtain ⟨v,vr,e1,h⟩:=h
 subst e1
 cases r with
 | cons r rr=>
  rw [hs]
  refine assignInOrder_cons (thn (h1 pins s σ H _ _ _ I r h) fun _ s1 ⟨σ1,H1,I1,q1⟩=>?_)
  exact h2 pins s1 σ1 H1 _ _ Q I1 rr q1
def gTup (K:PySem.W.Frag) (n:Nat) (t:TGs):TG:=fun v σ H Q=>∃ a xs,v=.ref a/\SqT K H a xs/\xs.length=n/\t xs σ H Q
theorem Zoq {es:List Expr} {k:Nat} {t:TGs} {n:Nat} (hc:X.calm=true) (h:PGs X es t)
  (hn:(assignEach es X.env).length=n:=by rfl) (hst:(assignEach es X.env).findIdx? (·.1)=none:=by rfl):PG X (.Tuple es k pos) (gTup X.K n t):=by
 intro pins s σ H v u Q I r hw
 obtain ⟨a,xs,e1,hq,hl,hw⟩:=hw
 subst e1
 cases r
 obtain ⟨its,rv,ht,hz⟩:=I.tuple hq
 refine assign_Tuple_tuple (I.ok.hd hc) ht (by simp [hn,<- hl,rv.length]) hst fun h' hx=>?_
 have I1:Inv X pins σ H { s with heap:=h' }:=I.kept (t':=s.toks) fun b o e=>hx b o (Nat.ne_of_lt (Heap.lt_size e)) e
 exact h pins _ σ H xs _ Q I1 (by simpa using rv) hw
def gSub (to ti:TE) (t:TSet):TG:=fun v σ H Q=>to σ H fun o H1=>ti σ H1 fun i H2=>t o i v H2 fun H3=>Q σ H3
theorem Zkj {o i:Expr} {to ti:TE} {t:TSet} (ho:PE X o to) (hi:PE X i ti) (hs:PSet X t)
  (ha:∀ v,assign (.Subscript o i pos) X.env v=(do
   let ov ← holding [v] (eval o X.env)
   let iv ← holding [v,ov] (eval i X.env)
   standAt pos
   holding [v,ov,iv] (setItem ov iv v)
   release [v,ov,iv] []):=by intro _; rfl):PG X (.Subscript o i pos) (gSub to ti t):=by
 intro pins s σ H v u Q I r h
 rw [ha]
 refine wpAny_bind (wpAny_holding (thn (ho pins s σ H _ I h) fun ov s1 ⟨x,H1,I1,r1,q1⟩=>?_))
 refine wpAny_bind (wpAny_holding (thn (hi pins s1 σ H1 _ I1 q1) fun iv s2 ⟨y,H2,I2,r2,q2⟩=>?_))
 refine wpAny_bind (wpAny_standAt (wpAny_bind (wpAny_holding (thn (hs pins s2 σ H2 x y v ov iv u _ I2 r1 r2 r q2) fun _ s3 ⟨H3,I3,q3⟩=>?_))))
 exact wpAny_release ⟨σ,H3,I3,q3⟩
def tAsg (te:TE) (g:TG):TS:=fun D σ H=>te σ H fun x H1=>g x σ H1 D.nx
theorem Zfo {tg e:Expr} {te:TE} {g:TG} (he:PE X e te) (hg:PG X tg g) (hs:swapsWithSole [tg] e pos.line X.env=pure false:=by rfl) (hw:swappedStores [tg] e X.env=pure none:=by rfl)
  (h1:(assignEach [tg] X.env).map (·.2)=[assign tg X.env]:=by rfl):PS X (.Assign [tg] e pos) (tAsg te g):=by
 intro pins s σ H D I h
 refine wpAny_Assign_stores (thn (he pins s σ H _ I h) fun v s1 ⟨x,H1,I1,r1,q1⟩=>?_) hs hw
 rw [h1]
 exact thn (hg pins s1 σ H1 x v _ I1 r1 q1) fun _ s2 q=>q
theorem Zar {i:Nat} {x:Str} {e:Expr} {te:TE} {pos':Pos} (hN:X.N.Nodup) (hi:X.N[i]? = some x) (hx:Loc X.env.scope x) (he:PE X e te) (hs:swapsWith e (some (.Name x pos')) pos.line X.env=pure false:=by rfl) (hf:X.fn x=true\/X.env.scope.names.lookup x=some .local:=by first | exact .inl rfl | exact .inr rfl | assumption) :
  PS X (.Assign [.Name x pos'] e pos) (tAsg te (gName i)):=by
 intro pins s σ H D I h
 refine wpAny_Assign_Name (thn (he pins s σ H _ I h) fun v s1 ⟨y,H1,I1,r1,q1⟩=>?_) hs
 exact Zdc I1 hN hi hx r1 (fun s2 I2=>⟨_,H1,I2,q1⟩) hf
def tPar (i j:Nat) (ta:TA):TS:=fun D σ H=>ta σ H fun vs H1=>∃ v w,vs=[v,w]/\D.nx ((σ.set i (some v)).set j (some w)) H1
theorem Zl7 {i j:Nat} {x y:Str} {a b:Expr} {ta:TA} {px py pt:Pos} {kt k2 pt2} (hc:X.calm=true) (hN:X.N.Nodup) (hi:X.N[i]? = some x) (hj:X.N[j]? = some y) (hij:i ≠ j)
  (hx:X.env.scope.names.lookup x=some .local) (hy:X.env.scope.names.lookup y=some .local) (ha:PA X [a,b] ta)
  (hw:swappedStores [.Tuple [.Name x px,.Name y py] kt pt] (.Tuple [a,b] k2 pt2) X.env=pure (some [x,y]))
  (hs:swapsWithSole [.Tuple [.Name x px,.Name y py] kt pt] (.Tuple [a,b] k2 pt2) pos.line X.env=pure false:=by rfl) :
  PS X (.Assign [.Tuple [.Name x px,.Name y py] kt pt] (.Tuple [a,b] k2 pt2) pos) (tPar i j ta):=by
 intro pins s σ H D I h
 rw [exec_Assign_arm]
 refine wpAny_bind (wpAny_standAt ?_)
 rw [hs]
 refine wpAny_bind (wpAny_pure ?_)
 rw [if_neg (by decide)]
 refine wpAny_bind (Tuple_ (thn (ha _ pins s σ H _ I h) fun us s1 ⟨vs,H1,I1,r1,q1⟩=>?_))
 obtain ⟨v,w,e1,q1⟩:=q1
 subst e1
 obtain ⟨u1,u2,rfl,rv,rw'⟩:∃ u1 u2,us=[u1,u2]/\RelV v u1/\RelV w u2:=by
  cases r1 with
  | cons p q=>
   cases q with
   | cons p' q'=>
    cases q'
    exact ⟨_,_,rfl,p,p'⟩
 refine wpAny_newObj_type ?_ (by show 2<=sizeLine; decide)
 have I2:Inv X pins σ H1 { s1 with heap:=s1.heap.push { cls:=.type "tuple",data:=.seq [u1,u2].toArray } }:=I1.kept (t':=s1.toks) fun b o e=>Heap.get?_push_of_some _ e
 rw [hw]
 refine wpAny_bind (wpAny_pure ?_)
 show wpAny (model X.prog X.w) X.A (do rule "assign.swapped-stores"; let items ← unpackItems (.ref s1.heap.objs.size) 2 none; assignInOrder [fun v=>bindName X.env y v,fun v=>bindName X.env x v] items.reverse; pure Flow.next) _ _ _
 refine wpAny_bind (wpAny_rule (wpAny_bind (unpackItems_tuple (items:=#[u1,u2]) (I.ok.hd hc) (IsTup.new s1.heap _) fun h' hx'=>?_)))
 have I3:=I2.kept (h':=h') (t':=s1.toks) fun b o e=>hx' b o (Nat.ne_of_lt (Heap.lt_size e)) e
 show wpAny _ _ (assignInOrder [fun v=>bindName X.env y v,fun v=>bindName X.env x v] [u2,u1] >>= fun _=>pure Flow.next) _ _ _
 refine wpAny_bind (assignInOrder_cons (wpAny_bindName (Zdc I3 hN hj (.inl hy) rw' (fun s2 I4=>?_) (.inr hy))))
 refine assignInOrder_cons (wpAny_bindName (Zdc I4 hN hi (.inl hx) rv (fun s3 I5=>assignInOrder_nil (wpAny_pure ?_)) (.inr hx)))
 rw [List.set_comm _ _ (Ne.symm hij)] at I5
 exact ⟨_,H1,I5,q1⟩
def tAug (i:Nat) (te:TE) (ti:TIp):TS:=fun D σ H=>∃ x,σ[i]? = some (some x)/\te σ H fun y H1=>ti x y H1 fun z H2=>D.nx (σ.set i (some z)) H2
theorem Zjj {i:Nat} {x:Str} {e:Expr} {te:TE} {op:Operator} {ti:TIp} {pos':Pos} (hN:X.N.Nodup) (hi:X.N[i]? = some x) (hx:Loc X.env.scope x) (he:PE X e te) (ho:PIp X op ti) (hf:X.fn x=true\/X.env.scope.names.lookup x=some .local:=by first | exact .inl rfl | exact .inr rfl | assumption) :
  PS X (.AugAssign (.Name x pos') op e pos) (tAug i te ti):=by
 intro pins s σ H D I h
 obtain ⟨v,e1,h⟩:=h
 obtain ⟨m,hn,hl⟩:=I.loc
 have vis:Vis X.env.scope x:=by rcases hx with k | k; exact .inl k; exact .inr (.inl k)
 obtain ⟨u,r,l⟩:=hl i x v hi e1 vis
 refine wpAny_AugAssign_Name ?_
 have go:wpAny (model X.prog X.w) X.A (eval e X.env) (fun w s₂=>wpAny (model X.prog X.w) X.A (inplaceOp op u w) (fun r s₃=>wpAny (model X.prog X.w) X.A (storeName X.env x r) (fun _=>SP X pins D .next) X.xe s₃) X.xe s₂) X.xe s:=by
  refine thn (he pins s σ H _ I h) fun w s1 ⟨y,H1,I1,r1,q1⟩=>?_
  refine thn (ho pins s1 σ H1 v y u w _ I1 r r1 q1) fun z s2 ⟨zv,H2,I2,r2,q2⟩=>?_
  exact Zdc I2 hN hi hx r2 (fun s3 I3=>⟨_,H2,I3,q2⟩) hf
 rcases l with ⟨hk,hm⟩ | ⟨hk,c,hc,hcell⟩
 ·exact wpAny_loadName_local I.ok.kind hk hn hm go
 ·rcases hk with hk | hk
  ·exact wpAny_loadName_cell I.ok.kind hk hc hcell go
  ·rcases hx with k | k
   ·have:X.env.scope.names.lookup x=some .free:=hk
    rw [k] at this; cases this
   ·have:X.env.scope.names.lookup x=some .free:=hk
    rw [k] at this; cases this
def ipI (f:Int->Int->Int):TIp:=fun x y H Q=>∃ i j,x=.int i/\y=.int j/\Q (.int (f i j)) H
theorem Zpa:PIp X .Add (ipI fun i j=>i + j):=by
 intro pins s σ H x y v u Q I r1 r2 h
 obtain ⟨i,j,e1,e2,q⟩:=h
 subst e1; subst e2
 obtain ⟨t,rfl⟩:=r1
 obtain ⟨t',rfl⟩:=r2
 exact iadd_int ⟨.int _,H,I.tok _,⟨_,rfl⟩,q⟩
end
section
variable {X:Cx} {pos:Pos}
def tWhile (c:TT) (tb:TS):TS:=fun D σ H=>∃ W:Nat->St->Hp->Prop,(∃ m,W m σ H)/\∀ m σ H,W m σ H →
 c σ H fun b H1=>if b=true then ∃ N:St->Hp->Prop,(∀ σ' H',N σ' H' -> ∃ m',m' < m/\W m' σ' H')/\tb { D with nx:=N,ct:=N,bk:=D.nx } σ H1 else D.nx σ H1
theorem Zlg {c:Expr} {body:List Stmt} {tc:TT} {tb:TS} (hp:PassesOwn (model X.prog X.w) X.A X.env X.xe) (hc:PT X c tc) (hb:PSs X body tb):PS X (.While c body [] pos) (tWhile tc tb):=by
 intro pins s σ H D I h
 obtain ⟨W,⟨m0,w0⟩,turn⟩:=h
 refine wpAny_While (codeAny_whileLoop (fun n s'=>∃ σ' H',Inv X pins σ' H' s' /\ W n σ' H') ?_ m0 ⟨σ,H,I,w0⟩)
 rintro n s1 ⟨σ1,H1,I1,w1⟩
 refine wpAny_passesOwn hp (thn (hc pins s1 σ1 H1 _ I1 (turn n σ1 H1 w1)) fun b s2 ⟨H2,I2,q2⟩=>?_)
 cases b with
 | true=>
  obtain ⟨N,hN,q2⟩:=q2
  rw [if_pos rfl]
  refine wpAny_passesOwn hp (thn (hb pins s2 σ1 H2 _ I2 q2) fun f s3 q3=>?_)
  cases f with
  | next=>
   obtain ⟨σ3,H3,I3,n3⟩:=q3
   obtain ⟨m',hm,w3⟩:=hN σ3 H3 n3
   exact ⟨m',hm,σ3,H3,I3,w3⟩
  | cont=>
   obtain ⟨σ3,H3,I3,n3⟩:=q3
   obtain ⟨m',hm,w3⟩:=hN σ3 H3 n3
   exact ⟨m',hm,σ3,H3,I3,w3⟩
  | brk=>exact q3
  | ret v=>exact q3
 | false=>
  rw [if_neg Bool.false_ne_true]
  exact wpAny_execs_nil ⟨σ1,H2,I2,q2⟩
end
structure It where
 go:Nat->Hp->Prop
 yld:Nat->Hp->V->Hp->Prop
 stop:Nat->Hp->Prop
def FpOk (X:Cx) (pins:List (Addr × Obj)) (H:Hp) (b:Addr):Prop:=
 H b=none/\b ≠ X.env.locals/\b ∉ X.fs/\(b ∈ X.ex\/X.s₀.heap.objs.size<=b)/\(∀ x c,X.env.cells.lookup x=some c->c ≠ b)/\∀ p ∈ X.pn ++ pins,p.1 ≠ b
theorem Inv.fpOk {X:Cx} {pins:List (Addr × Obj)} {σ:St} {H H':Hp} {s:Shared} {b:Addr} (I:Inv X pins σ H s) (hb:s.heap.objs.size<=b) (hn:H' b=none):FpOk X pins H' b:=by
 refine ⟨hn,Nat.ne_of_gt (Nat.lt_of_lt_of_le I.lt hb),I.nofs hb,.inr (Nat.le_trans I.sz hb),fun x c e z=>?_,fun p hp z=>?_⟩
 ·obtain ⟨v,q⟩:=I.cell x c e
  exact absurd (Nat.lt_of_lt_of_le q.lt (by rw [z]; exact hb)) (Nat.lt_irrefl _)
 ·exact absurd (Nat.lt_of_lt_of_le (Heap.lt_size (I.pin p hp).1) (by rw [z]; exact hb)) (Nat.lt_irrefl _)
structure TurnG (Cm:Cx->Prop) (P:Program) (w:World) (K:PySem.W.Frag) (tg:Expr) (J:It) (fp:List Addr) (it:Addr) (tn:Nat->Heap->Prop):Prop where
 mem:it ∈ fp
 obj:∀ i h,tn i h->∀ b ∈ fp,∃ o,h.get? b=some o/\∀ v,o.data ≠ .cell v
 keep:∀ i h h',tn i h->(∀ b ∈ fp,∀ o,h.get? b=some o->h'.get? b=some o)->tn i h'
 item:∀ (X:Cx),X.prog=P->X.w=w->X.K=K->Cm X->∀ (i:Nat) (pins:List (Addr × Obj)) (s:Shared) (σ:St) (H:Hp) (E:Value->Shared->Prop),Inv X pins σ H s->(∀ b ∈ fp,FpOk X pins H b)->tn i s.heap->J.go i H →
  wpAny (model P w) X.A (pyNext (.ref it)) (fun r s1=>∃ u,r=some u ∧
   wpAny (model P w) X.A (letOwnedTupleGo tg (.ref it) u) (fun _ s2=>∃ x H',Inv X pins σ H' s2/\RelV x u/\J.yld i H x H' /\ tn (i + 1) s2.heap/\∀ b ∈ fp,H' b=none) E s1) E s
 done:∀ (X:Cx),X.prog=P->X.w=w->X.K=K->Cm X->∀ (i:Nat) (pins:List (Addr × Obj)) (s:Shared) (σ:St) (H:Hp) (E:Value->Shared->Prop),Inv X pins σ H s->(∀ b ∈ fp,FpOk X pins H b)->tn i s.heap->J.stop i H →
  wpAny (model P w) X.A (pyNext (.ref it)) (fun r s1=>r=none/\Inv X pins σ H s1) E s
 self:∀ (A:Around) (i:Nat) (s:Shared) (Q:Value->Shared->Prop) (E:Value->Shared->Prop),tn i s.heap->Q (.ref it) s->wpAny (model P w) A (pyIter (.ref it)) Q E s
abbrev Turn:=TurnG fun X=>X.calm=true
abbrev TI:=St->Hp->(It->Hp->Prop)->Prop
def PIEG (Cm:Cx->Prop) (X:Cx) (pins:List (Addr × Obj)) (σ:St) (tg:Expr) (R:It->Hp->Prop) (itv:Value) (s2:Shared):Prop:=
 ∃ (it:Addr) (fp:List Addr) (tn:Nat->Heap->Prop) (J:It) (H':Hp),itv=.ref it/\Inv X pins σ H' s2/\TurnG Cm X.prog X.w X.K tg J fp it tn/\tn 0 s2.heap/\(∀ b ∈ fp,FpOk X pins H' b)/\R J H'
def PIG (Cm:Cx->Prop) (X:Cx) (tg iter:Expr) (wi:TI):Prop:=
 ∀ (pins:List (Addr × Obj)) (s:Shared) (σ:St) (H:Hp) (R:It->Hp->Prop),Inv X pins σ H s->wi σ H R →
  wpAny (model X.prog X.w) X.A (eval iter X.env) (fun v s1=>wpAny (model X.prog X.w) X.A (pyIter v) (PIEG Cm X pins σ tg R) X.xe s1) X.xe s
abbrev PIE:=PIEG fun X=>X.calm=true
abbrev PI:=PIG fun X=>X.calm=true
theorem Zk4 {M:Model} {A:Around} {E:Value->Shared->Prop} {s:Shared} {tg:Expr} {it:Addr} {u:Value} {o:Obj} {n:String} {vs:Array Value} {Q:Unit->Shared->Prop} (ho:s.heap.get? it=some o) (hc:o.cls=.type n) (hd:o.data=.fields vs)
  (hn:["enumerate","zip","dict_itemiterator","dict_reverseitemiterator","odict_iterator","itertools.zip_longest","itertools.pairwise"].contains n=false) (hQ:Q () s):wpAny M A (letOwnedTupleGo tg (.ref it) u) Q E s:=by
 unfold letOwnedTupleGo
 cases tg <;> first
  | exact wpAny_pure hQ
  | (cases u <;> first
      | exact wpAny_pure hQ
      | (refine wpAny_bind (wpAny_load ho ?_)
         rw [hc,hd]
         show wpAny M A (if (["enumerate","zip","dict_itemiterator","dict_reverseitemiterator","odict_iterator","itertools.zip_longest","itertools.pairwise"].contains n && vs[0]? == some (rawInt _))=true then _ else _) Q E s
         rw [if_neg (by intro h; rw [hn,Bool.false_and] at h; cases h)]
         exact wpAny_pure hQ))
def Itl (K:PySem.W.Frag) (a:Addr):It:=
 ⟨fun i H=>∃ xs x,SqL K H a xs/\xs[i]? = some x,fun i H x H'=>H' = H/\∀ xs,SqL K H a xs->xs[i]? = some x,fun i H=>∃ xs,SqL K H a xs/\xs.length<=i⟩
def Itt (K:PySem.W.Frag) (a:Addr):It:=
 ⟨fun i H=>∃ xs x,SqT K H a xs/\xs[i]? = some x,fun i H x H'=>H' = H/\∀ xs,SqT K H a xs->xs[i]? = some x,fun i H=>∃ xs,SqT K H a xs/\xs.length<=i⟩
def Itr (lo:Int) (n:Nat):It:=⟨fun i _=>i < n,fun i H x H'=>H' = H/\x=.int (lo + i),fun i _=>n<=i⟩
theorem Zi3 {P:Program} {w:World} {K:PySem.W.Frag} {tg:Expr} (a it:Addr):Turn P w K tg (Itl K a) [it] it (fun i h=>h.IsListIter it a i) where
 mem:=by simp
 obj:=fun i h st b hb=>by
  have e:b=it:=by simpa using hb
  subst e
  obtain ⟨o,e,c,d⟩:=st
  exact ⟨o,e,fun v z=>by rw [d] at z; cases z⟩
 keep:=fun i h h' st k=>st.at fun o e=>k it (by simp) o e
 item:=by
  intro X hP hw hK hc i pins s σ H E I hf st hg
  subst hP hw hK
  obtain ⟨xs,x,hq,hx⟩:=hg
  obtain ⟨its,rv,p,hz⟩:=I.list hq
  obtain ⟨u,hu,ru⟩:=rv.get hx
  obtain ⟨f0,f1,f2,f3,f4,f5⟩:=hf it (by simp)
  refine wpAny_pyNext_list_item st p.isList (x:=u) (by simpa using hu) fun h' st' sb=>?_
  have I1:Inv X pins σ H { s with heap:=h' }:=I.turned (t':=s.toks) (fun b o hb e=>(sb.2 b hb).trans e) f0 f1 f3 f4 f5
  obtain ⟨o,e,c,d⟩:=id st'
  exact ⟨u,rfl,Zk4 (s:={ s with heap:=h' }) e c d (by decide) ⟨x,H,I1,ru,⟨rfl,fun ys hy=>by rw [I.list_inj hy hq]; exact hx⟩,st',fun b hb=>(hf b hb).1⟩⟩
 done:=by
  intro X hP hw hK hc i pins s σ H E I hf st hg
  subst hP hw hK
  obtain ⟨xs,hq,hx⟩:=hg
  obtain ⟨its,rv,p,hz⟩:=I.list hq
  obtain ⟨f0,f1,f2,f3,f4,f5⟩:=hf it (by simp)
  have hl:=rv.length
  exact wpAny_pyNext_list_end (I.ok.hd hc) st p.isList (by simp; omega) fun h' eb=>⟨rfl,I.turned (t':=s.toks) (fun b o hb e=>eb b o hb e) f0 f1 f3 f4 f5⟩
 self:=fun _ _ _ _ _ st h=>wpAny_pyIter_listiter st h
theorem Zif {P:Program} {w:World} {K:PySem.W.Frag} {tg:Expr} (a it:Addr):Turn P w K tg (Itt K a) [it] it (fun i h=>h.IsTupleIter it a i) where
 mem:=by simp
 obj:=fun i h st b hb=>by
  have e:b=it:=by simpa using hb
  subst e
  obtain ⟨o,e,c,d⟩:=st
  exact ⟨o,e,fun v z=>by rw [d] at z; cases z⟩
 keep:=fun i h h' st k=>st.at fun o e=>k it (by simp) o e
 item:=by
  intro X hP hw hK hc i pins s σ H E I hf st hg
  subst hP hw hK
  obtain ⟨xs,x,hq,hx⟩:=hg
  obtain ⟨its,rv,p,hz⟩:=I.tuple hq
  obtain ⟨u,hu,ru⟩:=rv.get hx
  obtain ⟨f0,f1,f2,f3,f4,f5⟩:=hf it (by simp)
  refine wpAny_pyNext_tuple_item st (show s.heap.IsTuple a its.toArray from p) (x:=u) (by simpa using hu) fun h' st' sb=>?_
  have I1:Inv X pins σ H { s with heap:=h' }:=I.turned (t':=s.toks) (fun b o hb e=>(sb.2 b hb).trans e) f0 f1 f3 f4 f5
  obtain ⟨o,e,c,d⟩:=id st'
  exact ⟨u,rfl,Zk4 (s:={ s with heap:=h' }) e c d (by decide) ⟨x,H,I1,ru,⟨rfl,fun ys hy=>by rw [I.tuple_inj hy hq]; exact hx⟩,st',fun b hb=>(hf b hb).1⟩⟩
 done:=by
  intro X hP hw hK hc i pins s σ H E I hf st hg
  subst hP hw hK
  obtain ⟨xs,hq,hx⟩:=hg
  obtain ⟨its,rv,p,hz⟩:=I.tuple hq
  obtain ⟨f0,f1,f2,f3,f4,f5⟩:=hf it (by simp)
  have hl:=rv.length
  exact wpAny_pyNext_tuple_end (I.ok.hd hc) st (show s.heap.IsTuple a its.toArray from p) (by simp; omega) fun h' eb=>⟨rfl,I.turned (t':=s.toks) (fun b o hb e=>eb b o hb e) f0 f1 f3 f4 f5⟩
 self:=fun _ _ _ _ _ st h=>wpAny_pyIter_tupleiter st h
theorem Zie {P:Program} {w:World} {K:PySem.W.Frag} {tg:Expr} (it:Addr) (lo:Int) (n:Nat):Turn P w K tg (Itr lo n) [it] it (fun i h=>IsRangeIter h it (lo + (i:Nat) * 1) ((n:Int) - (i:Nat)) 1) where
 mem:=by simp
 obj:=fun i h st b hb=>by
  have e:b=it:=by simpa using hb
  subst e
  exact ⟨_,st,fun v z=>by
   have z':Data.fields _=Data.cell v:=z
   cases z'⟩
 keep:=fun i h h' st k=>k it (by simp) _ st
 item:=by
  intro X hP hw hK hc i pins s σ H E I hf st hg
  subst hP hw hK
  obtain ⟨f0,f1,f2,f3,f4,f5⟩:=hf it (by simp)
  have W:=Walks.range (prog:=X.prog) (w:=X.w) (I.ok.hd hc) it lo 1 n
  refine W.item i s _ _ hg st fun v h' tk hv st' kk=>?_
  obtain ⟨t,rfl⟩:=hv
  have I1:Inv X pins σ H { s with heap:=h',toks:=tk }:=I.turned (fun b o hb e=>kk b o (by simpa using hb) e) f0 f1 f3 f4 f5
  refine ⟨_,rfl,Zk4 (s:={ s with heap:=h',toks:=tk }) (n:="range_iterator") st' rfl rfl (by decide) ⟨.int (lo + i),H,I1,⟨t,?_⟩,⟨rfl,rfl⟩,st',fun b hb=>(hf b hb).1⟩⟩
  rw [Int.mul_one]
 done:=by
  intro X hP hw hK hc i pins s σ H E I hf st hg
  subst hP hw hK
  obtain ⟨f0,f1,f2,f3,f4,f5⟩:=hf it (by simp)
  exact wpAny_pyNext_range_end (I.ok.hd hc) st (by have:n<=i:=hg; omega) fun h' eb=>⟨rfl,I.turned (t':=s.toks) (fun b o hb e=>eb b o hb e) f0 f1 f3 f4 f5⟩
 self:=fun _ _ _ _ _ st h=>wpAny_pyIter_rangeiter st h
end L2
namespace L2
open PySem PySem.Spec PyProof.Rows
section
variable {X:Cx} {tg:Expr}
def iList (K:PySem.W.Frag) (tl:TE):TI:=fun σ H R=>tl σ H fun x H1=>∃ a,x=.ref a/\(∃ xs,SqL K H1 a xs)/\R (Itl K a) H1
def iTup (K:PySem.W.Frag) (tl:TE):TI:=fun σ H R=>tl σ H fun x H1=>∃ a,x=.ref a/\(∃ xs,SqT K H1 a xs)/\R (Itt K a) H1
theorem Zn2 {l:Expr} {tl:TE} (hl:PE X l tl):PI X tg l (iList X.K tl):=by
 intro pins s σ H R I h
 refine thn (hl pins s σ H _ I h) fun v s1 ⟨x,H1,I1,r1,q1⟩=>?_
 obtain ⟨a,e,⟨xs,hq⟩,q⟩:=q1
 subst e
 cases r1
 obtain ⟨its,rv,p,hz⟩:=I1.list hq
 refine wpAny_pyIter_list p.isList ?_
 refine ⟨s1.heap.objs.size,[s1.heap.objs.size],_,_,H1,rfl,I1.kept (t':=s1.toks) fun b o e=>Heap.get?_push_of_some _ e,Zi3 a _,⟨_,Heap.get?_push_size _ rfl,rfl,rfl⟩,fun b hb=>?_,q⟩
 have e:b=s1.heap.objs.size:=by simpa using hb
 subst e
 exact I1.fpOk (Nat.le_refl _) (I1.hok.fresh (Nat.le_refl _))
theorem Zpn {l:Expr} {tl:TE} (hl:PE X l tl):PI X tg l (iTup X.K tl):=by
 intro pins s σ H R I h
 refine thn (hl pins s σ H _ I h) fun v s1 ⟨x,H1,I1,r1,q1⟩=>?_
 obtain ⟨a,e,⟨xs,hq⟩,q⟩:=q1
 subst e
 cases r1
 obtain ⟨its,rv,p,hz⟩:=I1.tuple hq
 refine wpAny_pyIter_tuple (show s1.heap.IsTuple a its.toArray from p) ?_
 refine ⟨s1.heap.objs.size,[s1.heap.objs.size],_,_,H1,rfl,I1.kept (t':=s1.toks) fun b o e=>Heap.get?_push_of_some _ e,Zif a _,⟨_,Heap.get?_push_size _ rfl,rfl,rfl⟩,fun b hb=>?_,q⟩
 have e:b=s1.heap.objs.size:=by simpa using hb
 subst e
 exact I1.fpOk (Nat.le_refl _) (I1.hok.fresh (Nat.le_refl _))
theorem range_it {pins:List (Addr × Obj)} {σ:St} {H:Hp} {s:Shared} {R:It->Hp->Prop} {E:Value->Shared->Prop} {lo hi:Int} {t u v:Tok} {tk:Nat} (I:Inv X pins σ H s) (h1:-(2 ^ 62)<=lo) (h2:lo < 2 ^ 62) (h3:-(2 ^ 62)<=hi) (h4:hi < 2 ^ 62)
  (q:R (Itr lo (hi - lo).toNat) H):wpAny (model X.prog X.w) X.A (pyIter (.ref s.heap.objs.size)) (PIE X pins σ tg R) E { s with heap:=s.heap.push { cls:=.type "range",data:=.fields #[.int lo t,.int hi u,.int 1 v] },toks:=tk }:=by
 refine wpAny_pyIter_range (IsRange.new ..) (small_one h1 h2 h3 h4) ?_
 have I1:Inv X pins σ H { s with heap:=s.heap.push { cls:=.type "range",data:=.fields #[.int lo t,.int hi u,.int 1 v] },toks:=tk }:=I.kept fun b o e=>Heap.get?_push_of_some _ e
 refine ⟨(s.heap.push { cls:=.type "range",data:=.fields #[.int lo t,.int hi u,.int 1 v] }).objs.size,[(s.heap.push { cls:=.type "range",data:=.fields #[.int lo t,.int hi u,.int 1 v] }).objs.size],_,_,H,rfl,
  I1.kept (t':=tk) fun b o e=>Heap.get?_push_of_some _ e,Zie _ lo (hi - lo).toNat,?_,fun b hb=>?_,q⟩
 ·have e1:lo + ((0:Nat):Int) * 1=lo:=by simp
  have e2:(((hi - lo).toNat:Nat):Int) - ((0:Nat):Int)=Builtin.Range.rangeSize lo hi 1:=by rw [rangeSize_one]; split <;> omega
  show IsRangeIter _ _ (lo + ((0:Nat):Int) * 1) ((((hi - lo).toNat:Nat):Int) - ((0:Nat):Int)) 1
  rw [e1,e2]
  exact Heap.get?_push_size _ rfl
 ·have e:b=(s.heap.push { cls:=.type "range",data:=.fields #[.int lo t,.int hi u,.int 1 v] }).objs.size:=by simpa using hb
  subst e
  exact I1.fpOk (Nat.le_refl _) (I1.hok.fresh (Nat.le_refl _))
def iRng1 (ta:TA):TI:=fun σ H R=>ta σ H fun vs H1=>∃ j:Int,vs=[.int j] /\ -(2 ^ 62)<=j/\j < 2 ^ 62/\R (Itr 0 j.toNat) H1
def iRng2 (ta:TA):TI:=fun σ H R=>ta σ H fun vs H1=>∃ i j:Int,vs=[.int i,.int j]/\(-(2 ^ 62)<=i/\i < 2 ^ 62 /\ -(2 ^ 62)<=j/\j < 2 ^ 62)/\R (Itr i (j - i).toNat) H1
theorem Zb3 {a:Expr} {ta:TA} {p pos:Pos} (hg:Gl X "range") (hm:X.mg "range" = none) (ha:PA X [a] ta) (hs:starEach [a] X.env=[(false,eval a X.env)]:=by rfl):PI X tg (.Call (.Name "range" p) [a] [] pos) (iRng1 ta):=by
 intro pins s σ H R I h
 refine Call_ (Zcy I hg hm boot_range (PyProof.Rows.callWith_type1 (thn (ha pos pins s σ H _ I h) fun us s1 ⟨vs,H1,I1,r1,q1⟩=>?_) hs rfl))
 obtain ⟨j,e,q1,q2,q⟩:=q1
 subst e
 cases r1 with
 | cons r rr=>
  cases rr
  obtain ⟨t,rfl⟩:=r
  exact call_range_1 (range_it I1 (by omega) (by omega) q1 q2 (by simpa using q))
theorem Zft {a b:Expr} {ta:TA} {p pos:Pos} (hg:Gl X "range") (hm:X.mg "range" = none) (ha:PA X [a,b] ta) (hs:starEach [a,b] X.env=[(false,eval a X.env),(false,eval b X.env)]:=by rfl) (hs2:starEach [b] X.env=[(false,eval b X.env)]:=by rfl) :
  PI X tg (.Call (.Name "range" p) [a,b] [] pos) (iRng2 ta):=by
 intro pins s σ H R I h
 refine Call_ (Zcy I hg hm boot_range (PyProof.Rows.callWith_type1 (thn (ha pos pins s σ H _ I h) fun us s1 ⟨vs,H1,I1,r1,q1⟩=>?_) (by rw [hs,hs2]) (by rw [hs2]; rfl)))
 obtain ⟨i,j,e,⟨q1,q2,q3,q4⟩,q⟩:=q1
 subst e
 cases r1 with
 | cons r rr=>
  cases rr with
  | cons r' rr=>
   cases rr
   obtain ⟨t,rfl⟩:=r
   obtain ⟨t',rfl⟩:=r'
   exact call_range_2 (range_it I1 q1 q2 q3 q4 q)
def tFor (wi:TI) (g:TG) (tb:TS):TS:=fun D σ H=>wi σ H fun J H1=>∃ W:Nat->Nat->St->Hp->Prop,(∃ m,W 0 m σ H1)/\∀ i m σ H,W i m σ H →
 (J.stop i H/\D.nx σ H)\/(J.go i H/\∃ N:St->Hp->Prop,(∀ σ' H',N σ' H' -> ∃ m',m' < m/\W (i + 1) m' σ' H')/\∀ x H',J.yld i H x H' -> g x σ H' fun σ2 H2=>tb { D with nx:=N,ct:=N,bk:=D.nx } σ2 H2)
def pinsAt (fp:List Addr) (h:Heap):List (Addr × Obj):=fp.filterMap fun b=>(h.get? b).map fun o=>(b,o)
theorem Zcq {fp:List Addr} {h:Heap} {b:Addr} {o:Obj} (hb:b ∈ fp) (e:h.get? b=some o):(b,o) ∈ pinsAt fp h:=List.mem_filterMap.mpr ⟨b,hb,by rw [e]; rfl⟩
theorem Zis {fp:List Addr} {h:Heap} {p:Addr × Obj} (hp:p ∈ pinsAt fp h):p.1 ∈ fp/\h.get? p.1=some p.2:=by
 obtain ⟨b,hb,e⟩:=List.mem_filterMap.mp hp
 cases q:h.get? b with
 | none=>rw [q] at e; cases e
 | some o=>
  rw [q] at e
  have e':(b,o)=p:=Option.some.inj e
  subst e'
  exact ⟨hb,q⟩
theorem Inv.pinned {pins:List (Addr × Obj)} {σ:St} {H:Hp} {s:Shared} {fp:List Addr} (I:Inv X pins σ H s) (hf:∀ b ∈ fp,FpOk X pins H b) (ho:∀ b ∈ fp,∃ o,s.heap.get? b=some o/\∀ v,o.data ≠ .cell v):Inv X (pins ++ pinsAt fp s.heap) σ H s:=
 I.pins_of fun p hp=>(List.mem_append.mp hp).elim (fun z=>I.pin p (List.mem_append_right _ z)) fun z=>by
  obtain ⟨hb,e⟩:=Zis z
  obtain ⟨f0,f1,f2,_⟩:=hf p.1 hb
  obtain ⟨o,e',d⟩:=ho p.1 hb
  rw [e] at e'; cases e'
  exact ⟨e,f0,f1,f2,d⟩
theorem Inv.unpinned {pins pl:List (Addr × Obj)} {σ:St} {H:Hp} {s:Shared} (I:Inv X (pins ++ pl) σ H s):Inv X pins σ H s:=I.pins_of fun p hp=>I.pin p (List.mem_append_right _ (List.mem_append_left _ hp))
theorem Zcf {iter:Expr} {body:List Stmt} {wi:TI} {g:TG} {tb:TS} {pos:Pos} (hp:PassesOwn (model X.prog X.w) X.A X.env X.xe) (hc:X.calm=true) (hi:PI X tg iter wi) (hg:PG X tg g) (hb:PSs X body tb)
  (hs:∀ x,foldedSetIterable iter X.env x=pure x:=by intro _; rfl):PS X (.For tg iter body [] pos) (tFor wi g tb):=by
 intro pins s σ H D I h
 refine wpAny_For (thn (hi pins s σ H _ I h) fun v s1 h1=>thn h1 fun itv s2 h2=>?_) hs
 obtain ⟨it,fp,tn,J,H2,e,I2,T,st2,f2,W,⟨m0,w0⟩,turn⟩:=h2
 subst e
 -- what stays true of the iterator's objects through the loop
 have stat:∀ {H':Hp},(∀ b ∈ fp,H' b=none)->∀ b ∈ fp,FpOk X pins H' b:=fun hn b hb=>⟨hn b hb,(f2 b hb).2⟩
 refine codeAny_forLoop_any (fun n s'=>∃ i σ' H',Inv X pins σ' H' s' /\ tn i s'.heap/\(∀ b ∈ fp,H' b=none)/\W i n σ' H') ?_ m0 ⟨0,σ,H2,I2,st2,fun b hb=>(f2 b hb).1,w0⟩
 rintro n s3 ⟨i,σ3,H3,I3,st3,fr3,w3⟩
 rcases turn i n σ3 H3 w3 with ⟨stop,qn⟩ | ⟨go,N,hN,step⟩
 ·refine wpAny_passesOwn hp (thn (T.done X rfl rfl rfl hc i pins s3 σ3 H3 X.xe I3 (stat fr3) st3 stop) fun r s4 ⟨hr,I4⟩=>?_)
  subst hr
  exact wpAny_execs_nil ⟨σ3,H3,I4,qn⟩
 ·refine wpAny_passesOwn hp (thn (T.item X rfl rfl rfl hc i pins s3 σ3 H3 X.xe I3 (stat fr3) st3 go) fun r s4 ⟨u,hr,h4⟩=>?_)
  subst hr
  refine wpAny_passesOwn hp (thn h4 fun _ s5 ⟨x,H5,I5,r5,y5,st5,fr5⟩=>?_)
  have I5':=I5.pinned (stat fr5) (T.obj _ _ st5)
  refine wpAny_passesOwn hp (thn (hg _ s5 σ3 H5 x u _ I5' r5 (step x H5 y5)) fun _ s6 ⟨σ6,H6,I6,q6⟩=>?_)
  refine wpAny_passesOwn hp (thn (hb _ s6 σ6 H6 _ I6 q6) fun f s7 q7=>?_)
  have again:∀ {σ7:St} {H7:Hp},Inv X (pins ++ pinsAt fp s5.heap) σ7 H7 s7->N σ7 H7->∃ m,m < n/\∃ i σ' H',Inv X pins σ' H' s7/\tn i s7.heap/\(∀ b ∈ fp,H' b=none)/\W i m σ' H':=fun {σ7 H7} I7 n7=>by
   obtain ⟨m',hm,w7⟩:=hN σ7 H7 n7
   refine ⟨m',hm,i + 1,σ7,H7,I7.unpinned,T.keep _ _ _ st5 fun b hb o e=>(I7.pin (b,o) (List.mem_append_right _ (List.mem_append_right _ (Zcq hb e)))).1,fun b hb=>?_,w7⟩
   obtain ⟨o,e,d⟩:=T.obj _ _ st5 b hb
   exact (I7.pin (b,o) (List.mem_append_right _ (List.mem_append_right _ (Zcq hb e)))).2.1
  cases f with
  | next=>obtain ⟨σ7,H7,I7,n7⟩:=q7; exact again I7 n7
  | cont=>obtain ⟨σ7,H7,I7,n7⟩:=q7; exact again I7 n7
  | brk=>obtain ⟨σ7,H7,I7,q7⟩:=q7; exact ⟨σ7,H7,I7.unpinned,q7⟩
  | ret v=>obtain ⟨x7,σ7,H7,I7,r7,q7⟩:=q7; exact ⟨x7,σ7,H7,I7.unpinned,r7,q7⟩
end
end L2
namespace L2
open PySem PySem.Spec PyProof.Rows
abbrev R2:=V->V->Hp->VK->Prop
def OpR (X:Cx) (f:Value->Value->Sem Value) (r:R2):Prop:=
 ∀ (pins:List (Addr × Obj)) (s:Shared) (σ:St) (H:Hp) (x y:V) (v u:Value) (Q:VK),Inv X pins σ H s->RelV x v->RelV y u->r x y H Q →
  wpAny (model X.prog X.w) X.A (f v u) (EP X pins σ Q) X.xe s
def UnR (X:Cx) (f:Value->Sem Value) (r:V->Hp->VK->Prop):Prop:=
 ∀ (pins:List (Addr × Obj)) (s:Shared) (σ:St) (H:Hp) (x:V) (v:Value) (Q:VK),Inv X pins σ H s->RelV x v->r x H Q →
  wpAny (model X.prog X.w) X.A (f v) (EP X pins σ Q) X.xe s
def CallR (X:Cx) (f:Value) (r:List V->Hp->VK->Prop):Prop:=
 ∀ (pins:List (Addr × Obj)) (s:Shared) (σ:St) (H:Hp) (xs:List V) (us:List Value) (Q:VK),Inv X pins σ H s->Vals xs us->r xs H Q →
  wpAny (model X.prog X.w) X.A (call f us) (EP X pins σ Q) X.xe s
def TruR (X:Cx) (r:V->Hp->(Bool->Hp->Prop)->Prop):Prop:=
 ∀ (pins:List (Addr × Obj)) (s:Shared) (σ:St) (H:Hp) (x:V) (v:Value) (Q:Bool->Hp->Prop),Inv X pins σ H s->RelV x v->r x H Q →
  wpAny (model X.prog X.w) X.A (truthy v) (TP X pins σ Q) X.xe s
def tOp (r:R2) (ta tb:TE):TE:=fun σ H Q=>ta σ H fun x H1=>tb σ H1 fun y H2=>r x y H2 Q
def tUn (r:V->Hp->VK->Prop) (ta:TE):TE:=fun σ H Q=>ta σ H fun x H1=>r x H1 Q
def rI (C:Int->Int->Prop) (g:Int->Int->V):R2:=fun x y H Q=>∃ i j,x=.int i/\y=.int j/\C i j/\Q (g i j) H
def rI0 (g:Int->Int->V):R2:=fun x y H Q=>∃ i j,x=.int i/\y=.int j/\Q (g i j) H
def rU (g:Int->V):V->Hp->VK->Prop:=fun x H Q=>∃ i,x=.int i/\Q (g i) H
section
variable {X:Cx} {a b c:Expr} {ta tb tc:TE} {pos:Pos}
theorem binT (ha:PE X a ta) (hb:PE X b tb) {pins:List (Addr × Obj)} {s:Shared} {σ:St} {H:Hp} {R:V->V->Hp->Prop} (I:Inv X pins σ H s)
  (h:ta σ H fun x H1=>tb σ H1 fun y H2=>R x y H2) {Q:Value->Shared->Prop} {f:Value->Value->Sem Value}
  (hf:∀ v u s2 x y H2,Inv X pins σ H2 s2->RelV x v->RelV y u->R x y H2->wpAny (model X.prog X.w) X.A (f v u) Q X.xe s2) :
  wpAny (model X.prog X.w) X.A (eval a X.env) (fun v s₁=>wpAny (model X.prog X.w) X.A (eval b X.env) (fun u s₂=>wpAny (model X.prog X.w) X.A (f v u) Q X.xe s₂) X.xe s₁) X.xe s:=by
 refine thn (ha pins s σ H _ I h) fun v s1 ⟨x,H1,I1,r1,q1⟩=>?_
 refine thn (hb pins s1 σ H1 _ I1 q1) fun u s2 ⟨y,H2,I2,r2,q2⟩=>?_
 exact hf v u s2 x y H2 I2 r1 r2 q2
theorem Zau {op:Operator} {r:R2} (ho:OpR X (binaryOp op) r) (ha:PE X a ta) (hb:PE X b tb):PE X (.BinOp a op b pos) (tOp r ta tb):=by
 intro pins s σ H Q I h
 exact wpAny_BinOp (binT ha hb I h fun v u s2 x y H2 I2 rx ry q=>ho pins s2 σ H2 x y v u Q I2 rx ry q)
theorem Zk6 {op:UnaryOp} {r:V->Hp->VK->Prop} (ho:UnR X (unaryOp op) r) (ha:PE X a ta):PE X (.UnaryOp op a pos) (tUn r ta):=by
 intro pins s σ H Q I h
 exact UnaryOp_ (thn (ha pins s σ H _ I h) fun v s1 ⟨x,H1,I1,r1,q1⟩=>ho pins s1 σ H1 x v Q I1 r1 q1)
theorem opI {f:Value->Value->Sem Value} {C:Int->Int->Prop} {g:Int->Int->Int}
  (rule:∀ (i j:Int) (t u:Tok) (s:Shared) (Q:Value->Shared->Prop) (E:Value->Shared->Prop),C i j->Q (.int (g i j) s.toks) { s with toks:=s.toks + 1 } -> wpAny (model X.prog X.w) X.A (f (.int i t) (.int j u)) Q E s) :
  OpR X f (rI C fun i j=>.int (g i j)):=by
 intro pins s σ H x y v u Q I rx ry h
 obtain ⟨i,j,rfl,rfl,hc,q⟩:=h
 obtain ⟨t,rfl⟩:=rx
 obtain ⟨t',rfl⟩:=ry
 exact rule i j t t' s _ _ hc ⟨.int (g i j),H,I.tok _,⟨_,rfl⟩,q⟩
theorem opI0 {f:Value->Value->Sem Value} {g:Int->Int->Int}
  (rule:∀ (i j:Int) (t u:Tok) (s:Shared) (Q:Value->Shared->Prop) (E:Value->Shared->Prop),Q (.int (g i j) s.toks) { s with toks:=s.toks + 1 } -> wpAny (model X.prog X.w) X.A (f (.int i t) (.int j u)) Q E s) :
  OpR X f (rI0 fun i j=>.int (g i j)):=by
 intro pins s σ H x y v u Q I rx ry h
 obtain ⟨i,j,rfl,rfl,q⟩:=h
 obtain ⟨t,rfl⟩:=rx
 obtain ⟨t',rfl⟩:=ry
 exact rule i j t t' s _ _ ⟨.int (g i j),H,I.tok _,⟨_,rfl⟩,q⟩
theorem opB0 {f:Value->Value->Sem Value} {g:Int->Int->Bool}
  (rule:∀ (i j:Int) (t u:Tok) (s:Shared) (Q:Value->Shared->Prop) (E:Value->Shared->Prop),Q (.bool (g i j)) s->wpAny (model X.prog X.w) X.A (f (.int i t) (.int j u)) Q E s) :
  OpR X f (rI0 fun i j=>.bl (g i j)):=by
 intro pins s σ H x y v u Q I rx ry h
 obtain ⟨i,j,rfl,rfl,q⟩:=h
 obtain ⟨t,rfl⟩:=rx
 obtain ⟨t',rfl⟩:=ry
 exact rule i j t t' s _ _ ⟨.bl (g i j),H,I,rfl,q⟩
def CDiv (i j:Int):Prop:=0 < j/\j < 1073741824
def CPow (i j:Int):Prop:=0<=j/\j<=1000000/\i.natAbs < 2 ^ 64
def CMul (i j:Int):Prop:=(-(2 ^ 64) < i/\i < 2 ^ 64)\/(-(2 ^ 64) < j/\j < 2 ^ 64)
theorem CMul.ok {i j:Int} (h:CMul i j):IntMulOk i j:=by
 rcases h with ⟨h1,h2⟩ | ⟨h1,h2⟩
 ·exact .of_left (intBits_le_64 h1 h2)
 ·exact .of_right (intBits_le_64 h1 h2)
theorem Zpb:OpR X (binaryOp .Add) (rI0 fun i j=>.int (i + j)):=opI0 fun _ _ _ _ _ _ _ q=>add_int q
theorem Zfu:OpR X (binaryOp .Sub) (rI0 fun i j=>.int (i - j)):=opI0 fun _ _ _ _ _ _ _ q=>sub_int q
theorem Zdg:OpR X (binaryOp .Mult) (rI CMul fun i j=>.int (i * j)):=opI fun _ _ _ _ _ _ _ hc q=>mul_int q hc.ok
theorem Zfj:OpR X (binaryOp .FloorDiv) (rI CDiv fun i j=>.int (i / j)):=opI fun i j _ _ _ _ _ hc q=>by
 have h1:(0:Int) < j:=hc.1
 have h2:j < 1073741824:=hc.2
 exact floordiv_int (by omega) (by rw [Int.fdiv_eq_ediv_of_nonneg i (by omega)]; exact q) (.inl (PyProof.noPylong_small (by omega)))
theorem Zbv:OpR X (binaryOp .Mod) (rI (fun _ j=>0 < j) fun i j=>.int (i % j)):=opI fun i j _ _ _ _ _ hc q=>by
 have h1:(0:Int) < j:=hc
 exact mod_int' (by omega) (by rw [Int.fmod_eq_emod_of_nonneg i (by omega)]; exact q)
theorem Zo1:OpR X (binaryOp .Pow) (rI CPow fun i j=>.int (i ^ j.toNat)):=opI fun _ _ _ _ _ _ _ hc q=>pow_int_small hc.1 hc.2.1 hc.2.2 q
theorem unI {f:Value->Sem Value} {g:Int->Int}
  (rule:∀ (i:Int) (t:Tok) (s:Shared) (Q:Value->Shared->Prop) (E:Value->Shared->Prop),Q (.int (g i) s.toks) { s with toks:=s.toks + 1 } -> wpAny (model X.prog X.w) X.A (f (.int i t)) Q E s) :
  UnR X f (rU fun i=>.int (g i)):=by
 intro pins s σ H x v Q I rx h
 obtain ⟨i,rfl,q⟩:=h
 obtain ⟨t,rfl⟩:=rx
 exact rule i t s _ _ ⟨.int (g i),H,I.tok _,⟨_,rfl⟩,q⟩
theorem Zhq:UnR X (unaryOp .USub) (rU fun i=>.int (-i)):=unI fun _ _ _ _ _ q=>neg_int q
end
def scal:V->V->Bool
 | .non,.non=>true | .non,.int _=>true | .int _,.non=>true | .non,.bl _=>true | .bl _,.non=>true | .non,.str _=>true | .str _,.non=>true
 | .int _,.int _=>true | .bl _,.bl _=>true | .str _,.str _=>true | .byt _,.byt _=>true
 | .int _,.str _=>true | .str _,.int _=>true | .bl _,.str _=>true | .str _,.bl _=>true
 | _,_=>false
def rEq:R2:=fun x y H Q=>scal x y=true/\Q (.bl (decide (x=y))) H
def rNe:R2:=fun x y H Q=>scal x y=true/\Q (.bl (!decide (x=y))) H
theorem Ze0 {i j:Int}:decide (V.int i=V.int j)=(i == j):=by
 rw [Bool.eq_iff_iff]
 simp
theorem Zl2 {i j:Bool}:decide (V.bl i=V.bl j)=(i == j):=by
 rw [Bool.eq_iff_iff]
 simp
theorem Zkg {i j:Str}:decide (V.str i=V.str j)=(i == j):=by
 rw [Bool.eq_iff_iff]
 simp
theorem Zim {i j:Array UInt8}:decide (V.byt i=V.byt j)=(i.toList == j.toList):=by
 rw [Bool.eq_iff_iff]
 cases i
 cases j
 simp
section
variable {X:Cx} {a b c:Expr} {ta tb tc:TE} {pos:Pos}
theorem Za2 {pins:List (Addr × Obj)} {σ:St} {H:Hp} {s:Shared} {Q:VK} {k k':Bool} (I:Inv X pins σ H s) (q:Q (.bl k) H) (e:k=k'):EP X pins σ Q (.bool k') s:=by
 subst e
 exact ⟨.bl k,H,I,rfl,q⟩
theorem Zp0:OpR X (compareOp .Eq) rEq:=by
 intro pins s σ H x y v u Q I rx ry h
 obtain ⟨hs,q⟩:=h
 cases x with
 | non=>
  cases rx
  cases y with
  | non=>cases ry; exact PySem.EqNone.eq_none_none (Za2 I q (by simp))
  | bl j=>cases ry; exact PySem.EqNone.eq_none_bool (Za2 I q (by simp))
  | int j=>obtain ⟨t',rfl⟩:=ry; exact PySem.EqNone.eq_none_int (Za2 I q (by simp))
  | str j=>obtain ⟨t',rfl⟩:=ry; exact PySem.EqNone.eq_none_str (Za2 I q (by simp))
  | _=>exact absurd (show false=true from hs) Bool.false_ne_true
 | bl i=>
  cases rx
  cases y with
  | non=>cases ry; exact PySem.EqNone.eq_bool_none (Za2 I q (by simp))
  | bl j=>cases ry; exact eq_bool (Za2 I q Zl2)
  | str j=>obtain ⟨t',rfl⟩:=ry; exact PySem.EqMixed.eq_bool_str (Za2 I q (by simp))
  | _=>exact absurd (show false=true from hs) Bool.false_ne_true
 | int i=>
  obtain ⟨t,rfl⟩:=rx
  cases y with
  | non=>cases ry; exact PySem.EqNone.eq_int_none (Za2 I q (by simp))
  | int j=>obtain ⟨t',rfl⟩:=ry; exact eq_int (Za2 I q Ze0)
  | str j=>obtain ⟨t',rfl⟩:=ry; exact PySem.EqMixed.eq_int_str (Za2 I q (by simp))
  | _=>exact absurd (show false=true from hs) Bool.false_ne_true
 | str i=>
  obtain ⟨t,rfl⟩:=rx
  cases y with
  | non=>cases ry; exact PySem.EqNone.eq_str_none (Za2 I q (by simp))
  | bl j=>cases ry; exact PySem.EqMixed.eq_str_bool (Za2 I q (by simp))
  | int j=>obtain ⟨t',rfl⟩:=ry; exact PySem.EqMixed.eq_str_int (Za2 I q (by simp))
  | str j=>obtain ⟨t',rfl⟩:=ry; exact eq_str (Za2 I q Zkg)
  | _=>exact absurd (show false=true from hs) Bool.false_ne_true
 | byt i=>
  obtain ⟨t,rfl⟩:=rx
  cases y with
  | byt j=>obtain ⟨t',rfl⟩:=ry; exact PySem.W.eq_bytes (Za2 I q Zim)
  | _=>exact absurd (show false=true from hs) Bool.false_ne_true
 | _=>cases y <;> exact absurd (show false=true from hs) Bool.false_ne_true
theorem Zpw:OpR X (compareOp .NotEq) rNe:=by
 intro pins s σ H x y v u Q I rx ry h
 obtain ⟨hs,q⟩:=h
 cases x with
 | non=>
  cases rx
  cases y with
  | non=>cases ry; exact PySem.EqNone.ne_none_none (Za2 I q (by simp))
  | bl j=>cases ry; exact PySem.EqNone.ne_none_bool (Za2 I q (by simp))
  | int j=>obtain ⟨t',rfl⟩:=ry; exact PySem.EqNone.ne_none_int (Za2 I q (by simp))
  | str j=>obtain ⟨t',rfl⟩:=ry; exact PySem.EqNone.ne_none_str (Za2 I q (by simp))
  | _=>exact absurd (show false=true from hs) Bool.false_ne_true
 | bl i=>
  cases rx
  cases y with
  | non=>cases ry; exact PySem.EqNone.ne_bool_none (Za2 I q (by simp))
  | bl j=>cases ry; exact ne_bool (Za2 I q (congrArg not Zl2))
  | str j=>obtain ⟨t',rfl⟩:=ry; exact PySem.EqMixed.ne_bool_str (Za2 I q (by simp))
  | _=>exact absurd (show false=true from hs) Bool.false_ne_true
 | int i=>
  obtain ⟨t,rfl⟩:=rx
  cases y with
  | non=>cases ry; exact PySem.EqNone.ne_int_none (Za2 I q (by simp))
  | int j=>obtain ⟨t',rfl⟩:=ry; exact ne_int (Za2 I q (congrArg not Ze0))
  | str j=>obtain ⟨t',rfl⟩:=ry; exact PySem.EqMixed.ne_int_str (Za2 I q (by simp))
  | _=>exact absurd (show false=true from hs) Bool.false_ne_true
 | str i=>
  obtain ⟨t,rfl⟩:=rx
  cases y with
  | non=>cases ry; exact PySem.EqNone.ne_str_none (Za2 I q (by simp))
  | bl j=>cases ry; exact PySem.EqMixed.ne_str_bool (Za2 I q (by simp))
  | int j=>obtain ⟨t',rfl⟩:=ry; exact PySem.EqMixed.ne_str_int (Za2 I q (by simp))
  | str j=>obtain ⟨t',rfl⟩:=ry; exact ne_str (Za2 I q (congrArg not Zkg))
  | _=>exact absurd (show false=true from hs) Bool.false_ne_true
 | byt i=>
  obtain ⟨t,rfl⟩:=rx
  cases y with
  | byt j=>obtain ⟨t',rfl⟩:=ry; exact PySem.W.ne_bytes (Za2 I q (congrArg not Zim))
  | _=>exact absurd (show false=true from hs) Bool.false_ne_true
 | _=>cases y <;> exact absurd (show false=true from hs) Bool.false_ne_true
theorem Zm5:OpR X (compareOp .Lt) (rI0 fun i j=>.bl (decide (i < j))):=opB0 fun _ _ _ _ _ _ _ q=>lt_int q
theorem Zom:OpR X (compareOp .LtE) (rI0 fun i j=>.bl (decide (i<=j))):=opB0 fun _ _ _ _ _ _ _ q=>le_int q
theorem Zne:OpR X (compareOp .Gt) (rI0 fun i j=>.bl (decide (j < i))):=opB0 fun _ _ _ _ _ _ _ q=>gt_int q
theorem Zp3:OpR X (compareOp .GtE) (rI0 fun i j=>.bl (decide (j<=i))):=opB0 fun _ _ _ _ _ _ _ q=>ge_int q
theorem Zo4:OpR X (compareOp .Is) (fun x y H Q=>y=.non/\Q (.bl (decide (x=.non))) H):=by
 intro pins s σ H x y v u Q I rx ry h
 obtain ⟨rfl,q⟩:=h
 cases ry
 refine is_none_gen (Za2 I q ?_)
 cases x <;> first
  | (cases rx; rfl)
  | (obtain ⟨t,rfl⟩:=rx; rfl)
theorem Zjx:OpR X (compareOp .IsNot) (fun x y H Q=>y=.non/\Q (.bl (!decide (x=.non))) H):=by
 intro pins s σ H x y v u Q I rx ry h
 obtain ⟨rfl,q⟩:=h
 cases ry
 refine isnot_none_gen (Za2 I q ?_)
 cases x <;> first
  | (cases rx; rfl)
  | (obtain ⟨t,rfl⟩:=rx; rfl)
theorem OpR.or {f:Value->Value->Sem Value} {r r':R2} (h:OpR X f r) (h':OpR X f r'):OpR X f (fun x y H Q=>r x y H Q\/r' x y H Q):=by
 intro pins s σ H x y v u Q I rx ry q
 rcases q with q | q
 ·exact h pins s σ H x y v u Q I rx ry q
 ·exact h' pins s σ H x y v u Q I rx ry q
theorem nomark (b:Expr) {op:CmpOp} (h:op ≠ .In:=by decide) (h2:op ≠ .NotIn:=by decide):behindInMarks op b=false:=by
 have e1:(op == CmpOp.In)=false:=by cases op <;> first | rfl | exact absurd rfl h
 have e2:(op == CmpOp.NotIn)=false:=by cases op <;> first | rfl | exact absurd rfl h2
 cases b <;> simp [behindInMarks,e1,e2]
theorem Ze2 {op:CmpOp} {r:R2} (ho:OpR X (compareOp op) r) (ha:PE X a ta) (hb:PE X b tb) (hm:behindInMarks op b=false):PE X (.Compare a [op] [b] pos) (tOp r ta tb):=by
 intro pins s σ H Q I h
 exact wpAny_Compare1 (binT ha hb I h fun v u s2 x y H2 I2 rx ry q=>ho pins s2 σ H2 x y v u Q I2 rx ry q) hm
def tTest (t:TE):TT:=fun σ H Q=>t σ H fun x H'=>∃ k,x=.bl k/\Q k H'
theorem Zay {op:CmpOp} {r:R2} (ho:OpR X (compareOp op) r) (ha:PE X a ta) (hb:PE X b tb) (hm:behindInMarks op b=false):PT X (.Compare a [op] [b] pos) (tTest (tOp r ta tb)):=by
 intro pins s σ H Q I h
 refine wpAny_isTrue_Compare1 (thn (ha pins s σ H _ I h) fun v s1 ⟨x,H1,I1,r1,q1⟩=>thn (hb pins s1 σ H1 _ I1 q1) fun u s2 ⟨y,H2,I2,r2,q2⟩=>
  thn (ho pins s2 σ H2 x y v u _ I2 r1 r2 q2) fun c s3 ⟨z,H3,I3,r3,k,e,q3⟩=>?_) hm
 subst e
 cases r3
 exact wpAny_truthy_bool ⟨H3,I3,q3⟩
def tChain (r r':R2) (ta tb tc:TE):TE:=fun σ H Q=>ta σ H fun x H1=>tb σ H1 fun y H2=>r x y H2 fun z H3=>∃ k,z=.bl k ∧
 (if k=true then tc σ H3 fun w' H4=>r' y w' H4 Q else Q (.bl false) H3)
theorem Zht {op op':CmpOp} {r r':R2} (ho:OpR X (compareOp op) r) (ho':OpR X (compareOp op') r') (ha:PE X a ta) (hb:PE X b tb) (hc:PE X c tc)
  (hm:lastMarks [op,op'] [b,c]=false:=by with_unfolding_all rfl):PT X (.Compare a [op,op'] [b,c] pos) (tTest (tChain r r' ta tb tc)):=by
 intro pins s σ H Q I h
 refine isTrue_chain (thn (ha pins s σ H _ I h) fun v s1 ⟨x,H1,I1,r1,q1⟩=>test_link (thn (hb pins s1 σ H1 _ I1 q1) fun u s2 ⟨y,H2,I2,r2,q2⟩=>
  thn (ho pins s2 σ H2 x y v u _ I2 r1 r2 q2) fun d s3 ⟨z,H3,I3,r3,k,e,q3⟩=>?_)) hm
 subst e
 cases r3
 refine wpAny_truthy_bool ?_
 cases k with
 | false=>
  obtain ⟨k',e',q'⟩:=q3
  cases e'
  exact ite_ff ⟨H3,I3,q'⟩
 | true=>
  refine ite_tt (test_last (thn (hc pins s3 σ H3 _ I3 q3) fun w' s4 ⟨z',H4,I4,r4,q4⟩=>thn (ho' pins s4 σ H4 y z' u w' _ I4 r2 r4 q4) fun d' s5 ⟨z2,H5,I5,r5,k2,e2,q5⟩=>?_))
  subst e2
  cases r5
  exact wpAny_truthy_bool ⟨H5,I5,q5⟩
def TruV (K:PySem.W.Frag) (x:V) (H:Hp) (k:Bool):Prop:=
 match x with
 | .non=>k=false
 | .bl b=>k=b
 | .int i=>k=(i != 0)
 | .str y=>y.length<=sizeLine/\k=((y.length:Int) != 0)
 | .byt y=>y.size<=sizeLine/\k=((y.size:Int) != 0)
 | .ref p=>(∃ xs,SqL K H p xs/\k = !xs.isEmpty)\/(∃ xs,SqT K H p xs/\k = !xs.isEmpty)\/∃ kvs,H p=some (.dK kvs)/\k = !kvs.isEmpty
 | _=>False
theorem Zid {κ:Type} {kvs:List (κ × V)} {vs:List (κ × Value)} (r:KV kvs vs):(!vs.isEmpty) = !kvs.isEmpty:=by
 cases r <;> rfl
theorem Zel {xs:List V} {its:List Value} (r:Vals xs its):(!its.toArray.isEmpty) = !xs.isEmpty:=by
 cases r <;> simp
theorem line63:(sizeLine:Nat) < 2 ^ 63:=by rw [sizeLine_eq]; decide
theorem Zoi:TruR X (fun x H Q=>∃ k,TruV X.K x H k/\Q k H):=by
 intro pins s σ H x v Q I rx h
 obtain ⟨k,e,q⟩:=h
 have hl:=line63
 have hs:sizeLine=16777216:=sizeLine_eq
 cases x with
 | non=>
  cases rx
  have e':k=false:=e
  subst e'
  exact truthy_none ⟨H,I,q⟩
 | bl b=>
  cases rx
  have e':k=b:=e
  subst e'
  exact wpAny_truthy_bool ⟨H,I,q⟩
 | int i=>
  obtain ⟨t,rfl⟩:=rx
  have e':k=(i != 0):=e
  subst e'
  exact PySem.P.truthy_int ⟨H,I,q⟩
 | str y=>
  obtain ⟨t,rfl⟩:=rx
  obtain ⟨hy,e'⟩:y.length<=sizeLine/\k=((y.length:Int) != 0):=e
  subst e'
  exact PySem.P.truthy_str (by omega) ⟨H,I.tok _,q⟩
 | byt y=>
  obtain ⟨t,rfl⟩:=rx
  obtain ⟨hy,e'⟩:y.size<=sizeLine/\k=((y.size:Int) != 0):=e
  subst e'
  exact PySem.W.truthy_bytes (by omega) ⟨H,I.tok _,q⟩
 | ref p=>
  cases rx
  have e':(∃ xs,SqL X.K H p xs/\k = !xs.isEmpty)\/(∃ xs,SqT X.K H p xs/\k = !xs.isEmpty)\/∃ kvs,H p=some (.dK kvs)/\k = !kvs.isEmpty:=e
  rcases e' with ⟨xs,hx,e'⟩ | ⟨xs,hx,e'⟩ | ⟨kvs,hx,e'⟩
  ·subst e'
   obtain ⟨its,r,pl,hz⟩:=I.list hx
   have hlen:=r.length
   exact wpAny_truthy_list pl.isList (by simp only [List.size_toArray]; omega) ⟨H,I.tok _,by rw [Zel r]; exact q⟩
  ·subst e'
   obtain ⟨its,r,pl,hz⟩:=I.tuple hx
   have hlen:=r.length
   exact truthy_tuple pl (by simp only [List.size_toArray]; omega) ⟨H,I.tok _,by rw [Zel r]; exact q⟩
  ·subst e'
   obtain ⟨hz,hS,vs,r,m⟩:kvs.length<=sizeLine/\(p == sysModules)=false/\∃ vs,KV kvs vs/\s.heap.DictOf (mixKind X.prog X.w) p vs:=I.hok p _ hx
   have hlen:kvs.length=vs.length:=Paired.length r
   exact wpAny_truthy_dict hS m (by omega) ⟨H,I.tok _,by rw [Zid r]; exact q⟩
 | _=>exact (show False from e).elim
theorem Zkv (ha:PE X a ta) (he:∀ whole,isTrue a X.env whole=(do let v ← whole; standAt a.pos; holding [v] (truthy v))) :
  PT X a (fun σ H Q=>ta σ H fun x H'=>∃ k,TruV X.K x H' k/\Q k H'):=by
 intro pins s σ H Q I h
 exact isTrue_plain (thn (ha pins s σ H _ I h) fun v s1 ⟨x,H1,I1,r1,q1⟩=>Zoi pins s1 σ H1 x v Q I1 r1 q1) (he _)
theorem vals1 {x:V} {us:List Value} (r:Vals [x] us):∃ u,us=[u]/\RelV x u:=by
 cases r with
 | cons r1 r2=>cases r2; exact ⟨_,rfl,r1⟩
theorem vals2 {x y:V} {us:List Value} (r:Vals [x,y] us):∃ u w',us=[u,w']/\RelV x u/\RelV y w':=by
 cases r with
 | cons r1 r2=>
  cases r2 with
  | cons r3 r4=>cases r4; exact ⟨_,_,rfl,r1,r3⟩
theorem Ze9:CallR X (.builtin "abs") (fun xs H Q=>∃ i,xs=[.int i]/\Q (.int (if i < 0 then -i else i)) H):=by
 intro pins s σ H xs us Q I r h
 obtain ⟨i,rfl,q⟩:=h
 obtain ⟨u,rfl,t,rfl⟩:=vals1 r
 exact call_abs_int fun u tk=>⟨.int (if i < 0 then -i else i),H,I.tok _,⟨_,rfl⟩,q⟩
theorem Zjn (hc:X.calm=true):CallR X (.builtin "max") (fun xs H Q=>∃ i j,xs=[.int i,.int j]/\Q (.int (if j > i then j else i)) H):=by
 intro pins s σ H xs us Q I r h
 obtain ⟨i,j,rfl,q⟩:=h
 obtain ⟨u,w',rfl,⟨t,rfl⟩,⟨t',rfl⟩⟩:=vals2 r
 refine max_two_ints (I.ok.hd hc) fun h' tk k=>⟨_,H,I.kept k,?_,q⟩
 by_cases hj:j > i
 ·rw [if_pos hj,if_pos hj]; exact ⟨_,rfl⟩
 ·rw [if_neg hj,if_neg hj]; exact ⟨_,rfl⟩
theorem Zgb (hc:X.calm=true):CallR X (.builtin "min") (fun xs H Q=>∃ i j,xs=[.int i,.int j]/\Q (.int (if j < i then j else i)) H):=by
 intro pins s σ H xs us Q I r h
 obtain ⟨i,j,rfl,q⟩:=h
 obtain ⟨u,w',rfl,⟨t,rfl⟩,⟨t',rfl⟩⟩:=vals2 r
 refine min_two_ints (I.ok.hd hc) fun h' tk k=>⟨_,H,I.kept k,?_,q⟩
 by_cases hj:j < i
 ·rw [if_pos hj,if_pos hj]; exact ⟨_,rfl⟩
 ·rw [if_neg hj,if_neg hj]; exact ⟨_,rfl⟩
end
end L2
namespace L2
open PySem PySem.Spec PyProof.Rows
structure ObjM (h:Heap) (x dx C:Addr) (mA:Str->Option Value):Prop where
 obj:h.get? x=some (PySem.W.instObj C dx)
 ns:h.Ns1 dx mA
 ne:dx ≠ x
theorem Zkc {h:Heap} {dx:Addr} {mA:Str->Option Value} (n:h.Ns1 dx mA):∃ od,h.get? dx=some od/\∀ name,PySem.W.lookIn name od=some (mA name):=by
 obtain ⟨o,es,ep,ho,hd,hk,_,hm⟩:=n
 refine ⟨o,ho,fun name=>?_⟩
 have e:=hm name
 unfold nsFind findBy at e
 rw [<- Array.find?_toList] at e
 unfold PySem.W.lookIn
 rw [hd]
 dsimp only
 split
 ·rename_i y q
  rw [q] at e
  exact congrArg some e
 ·rename_i q
  rw [q] at e
  have a:es.toList.any (·.refKey)=false:=by
   rw [List.any_eq_false]
   intro y hy
   obtain ⟨z,t,hkey⟩:=hk y (Array.mem_toList_iff.mp hy)
   simp [DictEntry.refKey,hkey]
  have a':¬ es.toList.any (·.refKey)=true:=by rw [a]; exact Bool.false_ne_true
  rw [if_neg a']
  exact congrArg some e
theorem ObjM.look {h:Heap} {x dx C:Addr} {mA:Str->Option Value} (I:ObjM h x dx C mA):∃ od,PySem.W.InstAt h x (PySem.W.instObj C dx) C (some od)/\∀ name,PySem.W.lookIn name od=some (mA name):=
 let ⟨od,ho,hl⟩:=Zkc I.ns
 ⟨od,⟨I.obj,rfl,rfl,ho⟩,hl⟩
theorem RelO.some_of {v:V} {o:Option Value} (r:RelO (some v) o):∃ u,o=some u/\RelV v u:=by
 cases o with
 | none=>exact (show False from r).elim
 | some u=>exact ⟨u,rfl,r⟩
section
variable {P:Program} {w:World} {H H':Hp} {h h':Heap} {a C dx:Addr} {fs fs':List (Str × V)}
theorem Zmb (hok:HOk P w H h) (e:H a=some (.ins C dx fs)):∃ mA,ObjM h a dx C mA/\(∀ f,RelO (fs.lookup f) (mA f))/\PySem.Within mA (fs.map (·.1))/\fs.length<=1000/\H dx=some (.own a):=by
 obtain ⟨d,z,ne,ob,mA,n,r,q⟩:=(show ObjOk P w H h a (.ins C dx fs) from hok a _ e)
 exact ⟨mA,⟨ob,n,ne⟩,r,q,z,d⟩
end
structure Cls (K:PySem.W.Frag) (C:Addr):Prop where
 pg:PySem.W.plainGet K C Str.empty=true
 hd:PySem.W.hasDictIn K C=true
 po:PySem.W.plainOver K C=true
 sa:PySem.W.findIn K (.ref C) "__setattr__" = some (some (.builtin "object.__setattr__"))
theorem Cls.get {K:PySem.W.Frag} {C:Addr} (c:Cls K C) (f:Str):PySem.W.plainGet K C f=true:=c.pg
section
variable {X:Cx} {pins:List (Addr × Obj)} {σ:St} {H:Hp} {s:Shared} {a C dx:Addr} {fs:List (Str × V)} {f:Str} {v:V} {A:Around} {E:Value->Shared->Prop}
end
section
variable {X:Cx} {pins:List (Addr × Obj)} {σ:St} {H:Hp} {s:Shared} {A:Around} {E:Value->Shared->Prop} {Q:Value->Shared->Prop} {c:Value} {b:Bool}
inductive TyOf (K:PySem.W.Frag) (H:Hp):V->Value->Prop where
 | non:TyOf K H .non (.type "NoneType")
 | bl (x:Bool):TyOf K H (.bl x) (.type "bool")
 | int (i:Int):TyOf K H (.int i) (.type "int")
 | str (x:Str):TyOf K H (.str x) (.type "str")
 | flt (x:UInt64):TyOf K H (.flt x) (.type "float")
 | lst {a:Addr} {xs:List V} (e:H a=some (.lst xs)):TyOf K H (.ref a) (.type "list")
 | frz {a:Addr} {o:Obj} {xs:List V} (e:H a=some (.frz o (.lst xs))):TyOf K H (.ref a) (.type "list")
 | tup {a:Addr} {xs:List V} (e:H a=some (.tup xs)):TyOf K H (.ref a) (.type "tuple")
 | dK {a:Addr} {kvs:List (Key × V)} (e:H a=some (.dK kvs)):TyOf K H (.ref a) (.type "dict")
 | dT {a:Addr} {kvs:List (List Key × V)} (e:H a=some (.dT kvs)):TyOf K H (.ref a) (.type "dict")
 | ins {a C dx:Addr} {fs:List (Str × V)} (e:H a=some (.ins C dx fs)) (cl:Cls K C) (ha:PySem.W.findIn K (.ref C) "__class__" = some (some (.builtin "object.__class__")))
   (hn:PySem.W.specialIn K (.builtin "object.__class__") "__get__" = some (some (.builtin "getset_descriptor.__get__"))) (htk:PySem.W.takesIn K (.builtin "object.__class__")=some true)
   (hm:PySem.W.mroIn K C (.type "object")=some true):TyOf K H (.ref a) (.ref C)
theorem Zji {x:V} {u t:Value} (I:Inv X pins σ H s) (rx:RelV x u) (ty:TyOf X.K H x t) (e:PySem.W.kitOne X.K t c=some b) (h:∀ tk,Q (.bool b) { s with toks:=tk }) :
  wpAny (model X.prog X.w) A (call (.builtin "isinstance") [u,c]) Q E s:=by
 cases ty with
 | non=>cases (show u=Value.none from rx); exact PySem.W.kia_one PySem.W.kitx_none I.kIn True.intro e (fun z=>nomatch z) h
 | bl y=>cases (show u=Value.bool y from rx); exact PySem.W.kia_one PySem.W.kitx_bool I.kIn True.intro e (fun z=>nomatch z) h
 | int i=>obtain ⟨t,q⟩:=(show ∃ t,u=Value.int i t from rx); cases q; exact PySem.W.kia_one PySem.W.kitx_int I.kIn True.intro e (fun z=>nomatch z) h
 | str y=>obtain ⟨t,q⟩:=(show ∃ t,u=Value.str y t from rx); cases q; exact PySem.W.kia_one PySem.W.kitx_str I.kIn True.intro e (fun z=>nomatch z) h
 | flt y=>obtain ⟨t,q⟩:=(show ∃ t,u=Value.float y t from rx); cases q; exact PySem.W.kia_one PySem.W.kitx_float I.kIn True.intro e (fun z=>nomatch z) h
 | @lst a xs ea=>
  cases (show u=Value.ref a from rx)
  obtain ⟨_,_,n,_,h1⟩:=(show ObjOk X.prog X.w H s.heap a (.lst xs) from I.hok a _ ea)
  exact PySem.W.kia_one PySem.W.kitx_list I.kIn ⟨_,h1,rfl⟩ e (fun z=>nomatch z) h
 | @frz a ob xs ea=>
  cases (show u=Value.ref a from rx)
  obtain ⟨_,_,_,n,_,h1⟩:=(show ObjOk X.prog X.w H s.heap a (.frz ob (.lst xs)) from I.hok a _ ea)
  exact PySem.W.kia_one PySem.W.kitx_list I.kIn ⟨_,h1,rfl⟩ e (fun z=>nomatch z) h
 | @tup a xs ea=>
  cases (show u=Value.ref a from rx)
  obtain ⟨_,_,_,p⟩:=(show ObjOk X.prog X.w H s.heap a (.tup xs) from I.hok a _ ea)
  obtain ⟨o,h1,⟨h2,_⟩,_⟩:=p
  exact PySem.W.kia_one PySem.W.kitx_tuple I.kIn ⟨o,h1,h2⟩ e (fun z=>nomatch z) h
 | @dK a kvs ea=>
  cases (show u=Value.ref a from rx)
  obtain ⟨_,_,vs,_,p⟩:=(show ObjOk X.prog X.w H s.heap a (.dK kvs) from I.hok a _ ea)
  obtain ⟨o,es,ep,h1,h2,_⟩:=p
  exact PySem.W.kia_one PySem.W.kitx_dict I.kIn ⟨o,h1,h2.1⟩ e (fun z=>nomatch z) h
 | @dT a kvs ea=>
  cases (show u=Value.ref a from rx)
  obtain ⟨_,_,xs,_,o,es,ep,h1,h2,_⟩:=(show ObjOk X.prog X.w H s.heap a (.dT kvs) from I.hok a _ ea)
  exact PySem.W.kia_one PySem.W.kitx_dict I.kIn ⟨o,h1,h2.1⟩ e (fun z=>nomatch z) h
 | @ins a C dx fs ea cl ha hn htk hm=>
  cases (show u=Value.ref a from rx)
  obtain ⟨mA,O,_⟩:=Zmb I.hok ea
  obtain ⟨od,J,_⟩:=O.look
  exact PySem.W.kia_one (PySem.W.kitx_own (cl.get _) cl.hd ha hn htk hm) I.kIn J e (fun z=>nomatch z) h
end
end L2
namespace L2
open PySem PySem.Spec PyProof.Rows
structure Room (k:Nat) (A:Around):Prop where
 hd:A.handled=none
 dp:A.depth + 3 * k + 5 < recursionLimit
 un:A.units + 16 * k + 200 < cLine
 gd:A.guards=some []
theorem Room.mono {j k:Nat} {A:Around} (r:Room k A) (h:j<=k):Room j A:=⟨r.hd,by have:=r.dp; omega,by have:=r.un; omega,r.gd⟩
theorem Room.deeper {k:Nat} {A:Around} (r:Room (k + 1) A) (env:Env):Room k (A.deeper env):=
 ⟨r.hd,by have:=r.dp; show A.depth + 1 + 3 * k + 5 < _; omega,by have:=r.un; show A.units + 3 + 16 * k + 200 < _; omega,r.gd⟩
theorem Room.depth {k:Nat} {A:Around} (r:Room k A):A.depth < recursionLimit:=by have:=r.dp; omega
theorem Room.units {k:Nat} {A:Around} (r:Room k A):A.units + 64 < cLine:=by have:=r.un; omega
def tNil:TA:=fun _ H Q=>Q [] H
def tCons (ta:TE) (tr:TA):TA:=fun σ H Q=>ta σ H fun x H1=>tr σ H1 fun xs H2=>Q (x :: xs) H2
section
variable {X:Cx} {e:Expr} {es:List Expr} {te:TE} {t:TA} {pos:Pos}
theorem Zad:PA X [] tNil:=fun _ _ _ _ H Q I h=>Calls.spliced_nil ⟨[],H,I,.nil,h⟩
theorem Zaa (ha:PE X e te) (hr:PA X es t) (hs:starEach (e :: es) X.env=(false,eval e X.env) :: starEach es X.env:=by rfl):PA X (e :: es) (tCons te t):=by
 intro pos pins s σ H Q I h
 rw [hs]
 show wpAny _ _ (spliced ((false,eval e X.env) :: backTo pos (starEach es X.env))) _ _ s
 refine Calls.spliced_cons (thn (ha pins s σ H _ I h) fun u s1 ⟨x,H1,I1,r1,q1⟩=>?_)
 exact thn (hr pos pins s1 σ H1 _ I1 q1) fun us s2 ⟨xs,H2,I2,r2,q2⟩=>⟨x :: xs,H2,I2,.cons r1 r2,q2⟩
def tTup (t:TA):TE:=fun σ H Q=>t σ H fun xs H1=>xs.length<=sizeLine/\∀ p,H1 p=none->Q (.ref p) (upd H1 p (.tup xs))
def tLst (t:TA):TE:=fun σ H Q=>t σ H fun xs H1=>xs.length<=sizeLine/\∀ p,H1 p=none->Q (.ref p) (upd H1 p (.lst xs))
theorem Zei {x1} (h:PA X es t):PE X (.Tuple es x1 pos) (tTup t):=by
 intro pins s σ H Q I hq
 refine wpAny_Tuple_spliced (thn (h pos pins s σ H _ I hq) fun us s1 ⟨xs,H1,I1,r,z,q⟩=>⟨by rw [<- r.length]; exact z,?_⟩)
 have hf:H1 s1.heap.objs.size=none:=I1.hok.fresh (Nat.le_refl _)
 refine ⟨.ref s1.heap.objs.size,upd H1 s1.heap.objs.size (.tup xs),I1.laid (t':=s1.toks) (fun b u e=>Heap.get?_push_of_some _ e) (Nat.le_refl _) ?_,rfl,q _ hf⟩
 exact ⟨z,us,r,⟨_,Heap.get?_push_size _ rfl,⟨rfl,_,rfl⟩,rfl⟩⟩
theorem Zd9 (h:PA X es t):PE X (.List es pos) (tLst t):=by
 intro pins s σ H Q I hq
 refine wpAny_List_spliced (thn (h pos pins s σ H _ I hq) fun us s1 ⟨xs,H1,I1,r,z,q⟩=>⟨by rw [<- r.length]; exact z,?_⟩)
 have hf:H1 s1.heap.objs.size=none:=I1.hok.fresh (Nat.le_refl _)
 refine ⟨.ref s1.heap.objs.size,upd H1 s1.heap.objs.size (.lst xs),I1.laid (t':=s1.toks) (fun b u e=>Heap.get?_push_of_some _ e) (Nat.le_refl _) ?_,rfl,q _ hf⟩
 exact ⟨z,us,0,r,Heap.get?_push_size _ rfl⟩
end
abbrev Sp:=List V->Hp->VK->XK->Prop
abbrev CXT:=List Env->Hp->Shared->XK->Value->Shared->Prop
structure Env0 (P:Program) (w:World) (K:PySem.W.Frag) (mg:Str->Option Value) (base:Heap) (A:Around) (outer:List Env) (s:Shared) (H:Hp):Prop where
 frames:A.frames=some outer
 mod:Mod K mg base
 bs:∀ b o,base.get? b=some o->s.heap.get? b=some o/\H b=none
 bsz:base.objs.size<=s.heap.objs.size
 funs:s.heap.FunFrames base outer
 frf:∀ b ∈ frs outer,H b=none
 hok:HOk P w H s.heap
 bare:AllBare s.gens
def CE (outer:List Env) (P:Program) (w:World) (H:Hp) (s:Shared) (Q:VK) (u:Value) (s':Shared):Prop:=
 ∃ v H',s'.os=s.os/\AllBare s'.gens/\Un (frs outer) [] H H' s.heap s'.heap/\HOk P w H' s'.heap/\RelV v u/\Q v H'
def CR (CX:CXT) (outer:List Env) (P:Program) (w:World) (H:Hp) (s:Shared) (Q:VK) (E:XK) (r:Result) (s':Shared):Prop:=
 match r with
 | .ok (.ret u)=>CE outer P w H s Q u s'
 | .ok _=>False
 | .error e=>CX outer H s E e s'
structure FnOk (P:Program) (w:World) (K:PySem.W.Frag) (mg:Str->Option Value) (base:Heap) (CX:CXT) (k:Nat) (f:Addr) (fd:FuncData) (ps:List Str) (sp:Sp):Prop where
 len:∀ vs H Q E,sp vs H Q E->vs.length=ps.length
 run:∀ (A:Around) (outer:List Env) (s:Shared) (H:Hp) (args:Args) (us:List Value) (vs:List V) (Q:VK) (E:XK),Room k A->Env0 P w K mg base A outer s H->BindsTo s fd args (ps.zip us)->Vals vs us->sp vs H Q E →
  codeAny (model P w) A (.call (.ref f) args) (CR CX outer P w H s Q E) s
theorem FnOk.imp {P:Program} {w:World} {K:PySem.W.Frag} {mg:Str->Option Value} {base:Heap} {CX:CXT} {k:Nat} {f:Addr} {fd:FuncData} {ps:List Str} {sp sp':Sp} (F:FnOk P w K mg base CX k f fd ps sp)
  (h:∀ vs H Q E,sp' vs H Q E->sp vs H Q E):FnOk P w K mg base CX k f fd ps sp':=
 ⟨fun vs H Q E q=>F.len vs H Q E (h _ _ _ _ q),fun A outer s H args us vs Q E hr he hb hv hs=>F.run A outer s H args us vs Q E hr he hb hv (h _ _ _ _ hs)⟩
section
variable {X:Cx} {pins:List (Addr × Obj)} {σ:St} {H:Hp} {s s':Shared}
theorem Inv.env0 (I:Inv X pins σ H s):Env0 X.prog X.w X.K X.mg X.base X.A X.stack s H:=
 ⟨I.ok.frames,I.ok.mod,I.bs,Nat.le_trans I.ok.bsz I.sz,I.stack,I.stkFree,I.hok,I.bare⟩
theorem Inv.after {Q:VK} {u:Value} (I:Inv X pins σ H s) (h:CE X.stack X.prog X.w H s Q u s'):EP X pins σ Q u s':=by
 obtain ⟨v,H',os,bare,un,hok,r,q⟩:=h
 obtain ⟨hh,g,d,t,os'⟩:=s'
 obtain rfl:os' = s.os:=os
 exact ⟨v,H',I.call (h':=hh) (g':=g) (d':=d) (t':=t) (ch:=[]) un hok bare (fun b z=>absurd z (by simp)),r,q⟩
end
def tCall (sp:Sp) (dvs:List V) (E:XK) (t:TA):TE:=fun σ H Q=>t σ H fun vs H1=>sp (vs ++ dvs) H1 Q E
def Binds (K:PySem.W.Frag) (fd:FuncData) (ps:List Str) (ds:List Value):Prop:=
 ∀ (s:Shared) (us:List Value),K.In s.heap->(us ++ ds).length=ps.length->BindsTo s fd ⟨us,[]⟩ (ps.zip (us ++ ds))
theorem Binds.all {K:PySem.W.Frag} {fd:FuncData} {ps:List Str} (h:∀ us:List Value,us.length=ps.length->bindArgs fd ⟨us,[]⟩ = pure (ps.zip us)):Binds K fd ps []:=fun s us _ hl=>by
 rw [List.append_nil] at hl ⊢
 exact .of_eq (h us hl)
def Passes (CX:CXT) (X:Cx) (E:XK):Prop:=∀ (pins:List (Addr × Obj)) (σ:St) (H:Hp) (s:Shared) (e:Value) (s':Shared),Inv X pins σ H s->CX X.stack H s E e s' -> X.xe e s'
section
variable {X:Cx} {CX:CXT} {k:Nat} {f C:Addr} {fd:FuncData} {ps:List Str} {sp:Sp} {dvs:List V} {ds:List Value} {E:XK} {x m:Str} {p pos apos:Pos} {e o:Expr} {es:List Expr} {ta:TE} {t:TA}
theorem Zn9 {pins:List (Addr × Obj)} {σ:St} {H:Hp} {s:Shared} {Q:VK} {us:List Value} {vs:List V} (F:FnOk X.prog X.w X.K X.mg X.base CX k f fd ps sp) (hr:Room k X.A) (hb:Binds X.K fd ps ds) (hd:Vals dvs ds) (hx:Passes CX X E)
  (I:Inv X pins σ H s) (r:Vals vs us) (h:sp (vs ++ dvs) H Q E):wpAny (model X.prog X.w) X.A (call (.ref f) us) (EP X pins σ Q) X.xe s:=by
 have r2:Vals (vs ++ dvs) (us ++ ds):=r.append hd
 have hl:(us ++ ds).length=ps.length:=by rw [<- r2.length]; exact F.len _ _ _ _ h
 refine wpAny_call (codeAny_mono (F.run X.A X.stack s H ⟨us,[]⟩ (us ++ ds) (vs ++ dvs) Q E hr I.env0 (hb s us I.kIn hl) r2 h) fun r s' hq=>?_)
 cases r with
 | error e=>exact hx pins σ H s e s' I hq
 | ok fl=>
  cases fl with
  | ret u=>exact I.after hq
  | next=>exact False.elim hq
  | brk=>exact False.elim hq
  | cont=>exact False.elim hq
theorem Zmt (F:FnOk X.prog X.w X.K X.mg X.base CX k f fd ps sp) (hr:Room k X.A) (hg:Gl X x) (hm:X.mg x=some (.ref f)) (hk:PySem.W.keepIn X.K (.ref f)=true) (hb:Binds X.K fd ps ds) (hd:Vals dvs ds) (hx:Passes CX X E)
  (ha:PA X (e :: es) t) (hdb:(x == ("__debug__":Str))=false:=by decide) (he:starEach (e :: es) X.env=(false,eval e X.env) :: starEach es X.env:=by rfl) (hpl:(backTo pos (starEach es X.env)).any (·.1)=false:=by rfl) :
  PE X (.Call (.Name x p) (e :: es) [] pos) (tCall sp dvs E t):=by
 intro pins s σ H Q I h
 refine wpAny_Call_Name_kw (Zmu I hg hm ?_ hdb)
 refine PySem.W.callWith_K (h₀:=X.base) I.ok.mod.kin hk (thn (ha pos pins s σ H _ I h) fun us s1 ⟨vs,H1,I1,r,q⟩=>⟨I1.kIn,?_⟩) he hpl
 exact Zn9 F hr hb hd hx I1 r q
end
section
variable {X:Cx} {CX:CXT} {k:Nat} {f C:Addr} {fd:FuncData} {ps ks:List Str} {sp:Sp} {E:XK} {x m:Str} {p pos apos kpos:Pos} {e o:Expr} {es:List Expr} {kws:List Keyword} {te ta:TE} {t tk:TA} {nm:Option Str}
variable {g:List Value->List Value->List Value} {gV:List V->List V->List V}
end
structure FnScope (N P:List Str) (sc:Scope):Prop where
 kind:sc.kind=.function
 co:sc.isCoroutine=false
 gen:sc.isGenerator=false
 nd:N.Nodup
 pre:N.take P.length=P
 par:∀ x ∈ P,sc.names.lookup x=some .local\/sc.names.lookup x=some .cell
 nofree:∀ y ∈ sc.names,y.2 ≠ .free
theorem Zfz {kindOf:Str->Option NameKind} {x:Str}:∀ {binds:List (Str × Value)} {m:Str->Option Value},(∀ v,(x,v) ∉ binds)->bindL kindOf binds m x=m x
 | [],_,_=>rfl
 | (n,v) :: r,m,h=>by
  unfold bindL
  rw [Zfz fun w hw=>h w (List.mem_cons_of_mem _ hw)]
  split
  ·have:x ≠ n:=by rintro rfl; exact h v List.mem_cons_self
   simp [this]
  ·rfl
theorem Zfw {kindOf:Str->Option NameKind} {x:Str}:∀ {binds:List (Str × Value)} {m:Str->Option Value},(∀ v,(x,v) ∉ binds)->bindC kindOf binds m x=m x
 | [],_,_=>rfl
 | (n,v) :: r,m,h=>by
  unfold bindC
  rw [Zfw fun w hw=>h w (List.mem_cons_of_mem _ hw)]
  split
  ·rfl
  ·have:x ≠ n:=by rintro rfl; exact h v List.mem_cons_self
   simp [this]
theorem Zf6 {kindOf:Str->Option NameKind} {x:Str} {v:Value}:∀ {P:List Str} {vs:List Value} {i:Nat} {m:Str->Option Value},P.Nodup->P[i]? = some x->vs[i]? = some v->kindOf x=some .local →
  bindL kindOf (P.zip vs) m x=some v
 | [],_,_,_,_,h,_,_=>by simp at h
 | _ :: _,[],_,_,_,_,h,_=>by simp at h
 | p :: P,w :: vs,0,m,nd,h1,h2,hk=>by
  simp at h1 h2; subst h1; subst h2
  show bindL kindOf ((p,w) :: P.zip vs) m p=_
  unfold bindL
  rw [Zfz fun v hv=>(List.nodup_cons.mp nd).1 (List.of_mem_zip hv).1,if_pos hk]
  simp
 | p :: P,w :: vs,i + 1,m,nd,h1,h2,hk=>by
  show bindL kindOf ((p,w) :: P.zip vs) m x=_
  unfold bindL
  exact Zf6 (i:=i) (List.nodup_cons.mp nd).2 (by simpa using h1) (by simpa using h2) hk
theorem Zf4 {kindOf:Str->Option NameKind} {x:Str} {v:Value}:∀ {P:List Str} {vs:List Value} {i:Nat} {m:Str->Option Value},P.Nodup->P[i]? = some x->vs[i]? = some v->kindOf x ≠ some .local →
  bindC kindOf (P.zip vs) m x=some v
 | [],_,_,_,_,h,_,_=>by simp at h
 | _ :: _,[],_,_,_,_,h,_=>by simp at h
 | p :: P,w :: vs,0,m,nd,h1,h2,hk=>by
  simp at h1 h2; subst h1; subst h2
  show bindC kindOf ((p,w) :: P.zip vs) m p=_
  unfold bindC
  rw [Zfw fun v hv=>(List.nodup_cons.mp nd).1 (List.of_mem_zip hv).1,if_neg hk]
  simp
 | p :: P,w :: vs,i + 1,m,nd,h1,h2,hk=>by
  show bindC kindOf ((p,w) :: P.zip vs) m x=_
  unfold bindC
  exact Zf4 (i:=i) (List.nodup_cons.mp nd).2 (by simpa using h1) (by simpa using h2) hk
def start (N:List Str) (vs:List V):St:=vs.map some ++ List.replicate (N.length - vs.length) none
def cxOf (CX:CXT) (P:Program) (w:World) (K:PySem.W.Frag) (mg:Str->Option Value) (base:Heap) (N:List Str) (qual:Str) (scope:Scope) (f:Addr) (cd:Value) (A:Around) (outer:List Env) (s:Shared) (H:Hp) (E:XK):Cx where
 prog:=P
 w:=w
 K:=K
 mg:=mg
 base:=base
 A:=A.deeper (envOfC qual scope s.heap.objs.size f cd)
 N:=N
 s₀:=s
 H₀:=H
 env:=envOfC qual scope s.heap.objs.size f cd
 outer:=outer
 stack:=envOfC qual scope s.heap.objs.size f cd :: outer
 ex:=[]
 calm:=true
 fn:=fun _=>true
 pn:=[]
 xe:=fun e s'=>wpAny (model P w) (A.deeper (envOfC qual scope s.heap.objs.size f cd)) (leaving (envOfC qual scope s.heap.objs.size f cd) e) (fun _ s''=>CX outer H s E e s'') (fun e' s''=>CX outer H s E e' s'') s'
theorem Zh0 {sc:Scope} {n:Nat} {x:Str} (h:sc.names.lookup x=some .cell):∃ c,(cellsFrom n sc.names []).lookup x=some c:=by
 have q:=PySem.W.cellsFrom_some sc.names n [] (.inl h)
 exact Option.isSome_iff_exists.mp q
theorem Zin {CX:CXT} {P:Program} {w:World} {K:PySem.W.Frag} {mg:Str->Option Value} {base:Heap} {N ps:List Str} {qual:Str} {scope:Scope} {f:Addr} {cd:Value} {A:Around} {outer:List Env} {s s1:Shared} {H:Hp} {E:XK} {us:List Value} {vs:List V}
  (S:FnScope N ps scope) (hd:A.handled=none) (e0:Env0 P w K mg base A outer s H) (hl:vs.length=ps.length) (r:Vals vs us)
  (x:InCallC s s.heap.objs.size (bindL (envOfC qual scope s.heap.objs.size f cd).kindOf (ps.zip us) fun _=>none) (cellsFrom (s.heap.objs.size + 1) scope.names []) (bindC (envOfC qual scope s.heap.objs.size f cd).kindOf (ps.zip us) fun _=>none) s1) :
  Inv (cxOf CX P w K mg base N qual scope f cd A outer s H E) [] (start N vs) H s1:=by
 have hpl:ps.length<=N.length:=by have:=congrArg List.length S.pre; rw [List.length_take] at this; omega
 obtain ⟨h1,tk,rfl,hk⟩:=x.done
 have noA:∀ b:Addr,b ∉ (cxOf CX P w K mg base N qual scope f cd A outer s H E).ex:=fun b z=>absurd (show b ∈ ([]:List Addr) from z) (by simp)
 refine ⟨⟨e0.mod,S.kind,rfl,rfl,Nat.le_refl _,fun y z c h1 h2=>?_,fun y hy=>?_,fun y c _ h=>?_,fun _=>hd,Around.frames_deeper e0.frames,.inr ⟨rfl,rfl⟩,fun b z=>absurd z (noA b),e0.bs,e0.bsz,fun b _ _=>noA b,fun b z=>absurd z (noA b),e0.funs,e0.frf⟩,
  rfl,e0.bare,Un.kept hk,⟨_,x.toInCall.ns,fun i y v h1 h2 h3=>?_⟩,fun y c h=>⟨_,x.cell y c h⟩,e0.hok.fresh (Nat.le_refl _),fun y c h=>?_,fun p hp=>absurd (show p ∈ ([]:List (Addr × Obj)) from hp) (by simp),e0.hok.kept hk,?_⟩
 ·exact name_of_addr x.apart (PySem.mem_of_lookup h1) (PySem.mem_of_lookup h2)
 ·have hy:scope.names.lookup y=some .cell\/scope.names.lookup y=some .free:=hy
  rcases hy with hy | hy
  ·exact Zh0 hy
  ·exact absurd rfl (S.nofree _ (PySem.mem_of_lookup hy))
 ·exact Nat.le_of_lt (x.above y c (PySem.mem_of_lookup h))
 ·have hi:i < vs.length:=by
   unfold start at h2
   by_cases hi:i < vs.length
   ·exact hi
   ·rw [List.getElem?_append_right (by simpa using hi)] at h2
    rw [List.getElem?_replicate] at h2
    split at h2 <;> cases h2
  have ha:vs[i]? = some v:=by
   unfold start at h2
   rw [List.getElem?_append_left (by simpa using hi),List.getElem?_map] at h2
   cases e:vs[i]? with
   | none=>rw [e] at h2; cases h2
   | some a=>rw [e] at h2; cases h2; rfl
  obtain ⟨u,hu,rv⟩:=r.get ha
  have hp:ps[i]? = some y:=by
   rw [<- S.pre,List.getElem?_take_of_lt (by omega)]; exact h1
  have ndP:ps.Nodup:=by rw [<- S.pre]; exact S.nd.sublist (List.take_sublist _ _)
  refine ⟨u,rv,?_⟩
  rcases S.par y (List.mem_of_getElem? hp) with k | k
  ·exact .inl ⟨k,Zf6 ndP hp hu k⟩
  ·obtain ⟨c,e⟩:=Zh0 (n:=s.heap.objs.size + 1) k
   refine .inr ⟨.inl k,c,e,?_⟩
   have q:=x.cell y c e
   rw [Zf4 ndP hp hu (by show scope.names.lookup y ≠ _; rw [k]; decide)] at q
   exact q
 ·exact e0.hok.fresh (Nat.le_of_lt (x.above y c (PySem.mem_of_lookup h)))
 ·unfold start
  show _=N.length
  rw [List.length_append,List.length_map,List.length_replicate]
  omega
theorem Zpx {CX:CXT} {P:Program} {w:World} {K:PySem.W.Frag} {mg:Str->Option Value} {base:Heap} {k:Nat} {f:Addr} {name qual:Str} {params:Arguments} {body:List Stmt} {scope:Scope} {dV kV doc pm cdv ct oc:Value} {an od:Option Addr}
  {osl:Array (Option Value)} {N ps:List Str} {sp:Sp} (lk:K.lookup f=some ⟨oc,od,.func (PySem.W.fnOf name qual params body scope dV kV doc pm an cdv ct),osl⟩) (hcd:PySem.W.codeIn K cdv qual=true) (S:FnScope N ps scope)
  (len:∀ vs H Q E,sp vs H Q E->vs.length=ps.length)
  (hbody:∀ (A:Around) (outer:List Env) (s:Shared) (H:Hp) (vs:List V) (Q:VK) (E:XK),Room k (A.deeper (envOfC qual scope s.heap.objs.size f cdv))->sp vs H Q E →
   ∃ t,PSs (cxOf CX P w K mg base N qual scope f cdv A outer s H E) body t/\t { nx:=fun _ H'=>Q .non H',rt:=Q } (start N vs) H) :
  FnOk P w K mg base CX (k + 1) f (PySem.W.fnOf name qual params body scope dV kV doc pm an cdv ct) ps sp:=by
 refine ⟨len,fun A outer s H args us vs Q E hr e0 hb r hsp=>?_⟩
 have hl:=len _ _ _ _ hsp
 have KX:K.In s.heap:=e0.mod.kin.keeps fun b o e=>(e0.bs b o e).1
 have lim:s.heap.NoLimit:=e0.mod.nolimit.keeps fun b o e=>(e0.bs b o e).1
 have hkind:∀ y ∈ ps.zip us,scope.names.lookup y.1=some .local\/(scope.names.lookup y.1=some .cell/\((cellsFrom (s.heap.objs.size + 1) scope.names []).lookup y.1).isSome=true):=fun ⟨n,v⟩ hy=>by
  rcases S.par n (List.of_mem_zip hy).1 with q | q
  ·exact .inl q
  ·exact .inr ⟨q,PySem.W.cellsFrom_some _ _ _ (.inl q)⟩
 refine codeAny_call_function hr.depth (KX _ _ lk) rfl S.co S.gen rfl (PySem.W.codeRec_of KX hcd) (hb _ _ _ _ ?_)
 refine wpAny_newFunctionEnv_cells S.kind hkind fun env he s1 x=>?_
 subst he
 refine ⟨lim.keeps x.toInCall.keep,codeAny_func ?_⟩
 obtain ⟨t,ht,hq⟩:=hbody A outer s H vs Q E (hr.deeper _) hsp
 have I:Inv (cxOf CX P w K mg base N qual scope f cdv A outer s H E) [] (start N vs) H s1:=Zin S hr.hd e0 hl r x
 refine wpAny_mono (ht [] s1 (start N vs) H _ I hq) (fun fl s' hs=>?_) fun e s' hs=>hs
 have fin:∀ {σ':St} {H':Hp} {v:V} {u:Value},Inv (cxOf CX P w K mg base N qual scope f cdv A outer s H E) [] σ' H' s' -> RelV v u->Q v H' -> CE outer P w H s Q u s':=
  fun {σ' H' v u} J rv q=>⟨v,H',J.os,J.bare,J.base,J.hok,rv,q⟩
 cases fl with
 | ret u=>
  obtain ⟨v,σ',H',J,rv,q⟩:=hs
  exact fin J rv q
 | next=>
  obtain ⟨σ',H',J,q⟩:=hs
  exact fin (v:=V.non) (u:=Value.none) J rfl q
 | brk=>
  obtain ⟨_,_,_,q⟩:=hs
  exact False.elim q
 | cont=>
  obtain ⟨_,_,_,q⟩:=hs
  exact False.elim q
end L2
namespace L2
open PySem PySem.Spec PyProof.Rows
section
variable {X:Cx} {x:Str} {p pos:Pos} {e:Expr} {es:List Expr} {t:TA} {id T:String} {r:List V->Hp->VK->Prop}
def tCB (r:List V->Hp->VK->Prop) (t:TA):TE:=fun σ H Q=>t σ H fun vs H1=>r vs H1 Q
theorem Zah (hc:CallR X (.builtin id) r) (hg:Gl X x) (hm:X.mg x=none) (hv:bootBuiltins x=some (.builtin id)) (ha:PA X (e :: es) t) (hn:x ≠ "__name__":=by decide) (hdb:(x == ("__debug__":Str))=false:=by decide)
  (he:starEach (e :: es) X.env=(false,eval e X.env) :: starEach es X.env:=by rfl) (hpl:(backTo pos (starEach es X.env)).any (·.1)=false:=by rfl):PE X (.Call (.Name x p) (e :: es) [] pos) (tCB r t):=by
 intro pins s σ H Q I h
 refine wpAny_Call_Name_kw (Zcy I hg hm hv ?_ hn hdb)
 exact PyProof.Rows.callWith_builtin1 (thn (ha pos pins s σ H _ I h) fun us s1 ⟨vs,H1,I1,r1,q1⟩=>hc pins s1 σ H1 vs us Q I1 r1 q1) he hpl
theorem Za7 (hc:CallR X (.type T) r) (hg:Gl X x) (hm:X.mg x=none) (hv:bootBuiltins x=some (.type T)) (ha:PA X (e :: es) t) (hn:x ≠ "__name__":=by decide) (hdb:(x == ("__debug__":Str))=false:=by decide)
  (he:starEach (e :: es) X.env=(false,eval e X.env) :: starEach es X.env:=by rfl) (hpl:(backTo pos (starEach es X.env)).any (·.1)=false:=by rfl):PE X (.Call (.Name x p) (e :: es) [] pos) (tCB r t):=by
 intro pins s σ H Q I h
 refine wpAny_Call_Name_kw (Zcy I hg hm hv ?_ hn hdb)
 exact PyProof.Rows.callWith_type1 (thn (ha pos pins s σ H _ I h) fun us s1 ⟨vs,H1,I1,r1,q1⟩=>hc pins s1 σ H1 vs us Q I1 r1 q1) he hpl
end
end L2
namespace HT
open PySem PyProof.Rows
section
open PySem.SeqAt
open PySem.AutoSeq1 (wpAny_loadPart')
open PySem.MeetsSeq PySem.MeetsSeq2 PySem.MeetsSeq3
end
section
variable {prog:Program} {w:World} {A:Around} {E:Value->Shared->Prop} {s:Shared}
theorem cat_tup {t b:Addr} {vs ws:List Value} {Q:Value->Shared->Prop} (ht:IsTup s.heap t vs.toArray) (hb:IsTup s.heap b ws.toArray) (hv:vs ≠ [])
  (h1:ws=[]->Q (.ref t) s) (h2:ws ≠ []->Q (.ref s.heap.objs.size) { s with heap:=s.heap.push { cls:=.type "tuple",data:=.seq (vs ++ ws).toArray } })
  (hsz:vs.length + ws.length<=sizeLine):wpAny (model prog w) A (binaryOp .Add (.ref t) (.ref b)) Q E s:=by
 obtain ⟨⟨cls,dd,data,sl⟩,ho,hc,n,hd⟩:=id ht
 obtain ⟨⟨cls2,dd2,data2,sl2⟩,ho2,hc2,n2,hd2⟩:=id hb
 simp only at hc hd hc2 hd2
 subst hc hd hc2 hd2
 have e:vs.toArray ++ ws.toArray=(vs ++ ws).toArray:=by simp
 by_cases hw:ws=[]
 ·exact concat_meets ⟨_,ho,rfl⟩ ⟨_,ho2,rfl⟩ noFill_tuple_add seq_tuple_add PySem.F.slot_tuple_add PySem.F.entry_tuple_add (PySem.F.args_tuple_add_2 _ _)
   (tuple_addW1 t b vs.toArray ws.toArray n n2 dd dd2 sl sl2 (by simpa using hv) (by simp [hw])) ⟨ho,ho2,h1 hw⟩
 ·refine concat_meets ⟨_,ho,rfl⟩ ⟨_,ho2,rfl⟩ noFill_tuple_add seq_tuple_add PySem.F.slot_tuple_add PySem.F.entry_tuple_add (PySem.F.args_tuple_add_2 _ _)
   (tuple_addW2 t b vs.toArray ws.toArray n n2 dd dd2 sl sl2 (by simpa using hv) (by simpa using hw) (by rw [List.size_toArray,List.size_toArray]; exact hsz)) ⟨ho,ho2,?_⟩
  rw [e]
  exact h2 hw
def sIx (n d:Nat):Option Int->Nat
 | none=>d
 | some v=>if v < 0 then (v + (n:Int)).toNat else min v.toNat n
theorem sIx_none (n d:Nat):sIx n d none=d:=rfl
theorem sIx_nat (n d k:Nat):sIx n d (some (k:Int))=min k n:=by
 show (if (k:Int) < 0 then ((k:Int) + (n:Int)).toNat else min (k:Int).toNat n)=min k n
 rw [if_neg (by omega),Int.toNat_natCast]
theorem Zpv (n d:Nat) (hd:d<=n) (o:Option Int):sIx n d o<=n:=by
 cases o with
 | none=>exact hd
 | some v=>
  show (if v < 0 then (v + (n:Int)).toNat else min v.toNat n)<=n
  by_cases hv:v < 0
  ·rw [if_pos hv]; omega
  ·rw [if_neg hv]; exact Nat.min_le_right _ _
theorem Zix (v:Int) (n d:Nat):(if v < 0 then max (v + (n:Int)) 0 else min v (n:Int))=((sIx n d (some v):Nat):Int):=by
 show (if v < 0 then max (v + (n:Int)) 0 else min v (n:Int))=(((if v < 0 then (v + (n:Int)).toNat else min v.toNat n):Nat):Int)
 by_cases hv:v < 0
 ·simp only [if_pos hv]; omega
 ·simp only [if_neg hv]; omega
theorem Zii (lo hi:Option Int) (n:Nat):Builtin.Slice.sliceAdjust lo hi 1 (n:Int)=(((sIx n 0 lo:Nat):Int),((sIx n n hi:Nat):Int)):=by
 have h1:¬ ((1:Int) < 0):=by omega
 unfold Builtin.Slice.sliceAdjust
 simp only [h1,if_false]
 refine Prod.ext ?_ ?_
 ·cases lo with
  | none=>rfl
  | some v=>exact Zix v n 0
 ·cases hi with
  | none=>rfl
  | some v=>exact Zix v n n
theorem Zib (i j:Nat):Builtin.Slice.slicePlaces (i:Int) (j:Int) 1=j - i:=by
 unfold Builtin.Slice.slicePlaces
 have h1:(1:Int) > 0:=by omega
 simp only [h1,if_true,Int.ediv_one]
 split <;> omega
theorem Zeo {v:Value} {o:Option Int} {Q:Option Int->Shared->Prop} (p:IsPart v o) (h:Q o s):wpAny (model prog w) A (Builtin.Slice.slicePartIndex v) Q E s:=by
 cases p with
 | none=>exact slicePart_none h
 | int i t=>exact slicePart_int h
theorem Zcj {sl:Addr} {vl vu:Value} {lo hi:Option Int} {n:Nat} {Q:Int × Int × Nat->Shared->Prop} (hs:s.heap.IsSliceOf sl vl vu .none) (pl:IsPart vl lo) (pu:IsPart vu hi)
  (h:Q (((sIx n 0 lo:Nat):Int),1,sIx n n hi - sIx n 0 lo) s):wpAny (model prog w) A (Builtin.Slice.sliceApplied (.ref sl) (pure (n:Int))) Q E s:=by
 obtain ⟨os,hos,hcs,hds⟩:=id hs
 unfold Builtin.Slice.sliceApplied Builtin.Slice.sliceFields
 refine wpAny_bind (wpAny_bind (wpAny_field hos hds (x:=vl) rfl (wpAny_bind (wpAny_field hos hds (x:=vu) rfl (wpAny_bind (wpAny_field hos hds (x:=.none) rfl (wpAny_pure ?_)))))))
 refine wpAny_bind (slicePart_none ?_)
 show wpAny _ _ (if ((1:Int) == 0)=true then _ else _) _ _ s
 rw [if_neg (by decide)]
 refine wpAny_bind (Zeo pl (wpAny_bind (Zeo pu (wpAny_bind (wpAny_pure ?_)))))
 show wpAny _ _ (match Builtin.Slice.sliceAdjust lo hi 1 (n:Int) with | (lo,hi)=>pure (lo,(1:Int),Builtin.Slice.slicePlaces lo hi 1)) _ _ s
 rw [Zii lo hi n]
 show wpAny _ _ (pure (((sIx n 0 lo:Nat):Int),(1:Int),Builtin.Slice.slicePlaces ((sIx n 0 lo:Nat):Int) ((sIx n n hi:Nat):Int) 1)) _ _ s
 rw [Zib]
 exact wpAny_pure h
theorem Zli (xs:Array Value) (i k:Nat):((List.range k).filterMap fun (m:Nat)=>xs[((i:Int) + (m:Int) * 1).toNat]?).toArray=((xs.toList.drop i).take k).toArray:=by
 have e:(fun (m:Nat)=>xs[((i:Int) + (m:Int) * 1).toNat]?)=fun m=>xs[i + m]?:=by
  funext m
  have:((i:Int) + (m:Int) * 1).toNat=i + m:=by omega
  rw [this]
 rw [e]
 have:=pick_run xs i k
 rw [List.filterMap_map] at this
 have e2:((fun x=>xs[x]?) ∘ fun x=>i + x)=fun m=>xs[i + m]?:=rfl
 rw [e2] at this
 rw [this]
theorem getItem_tuple_cut {t sl:Addr} {items:Array Value} {vl vu:Value} {lo hi:Option Int} {Q:Value->Shared->Prop} (ht:IsTup s.heap t items) (hs:s.heap.IsSliceOf sl vl vu .none) (pl:IsPart vl lo) (pu:IsPart vu hi)
  (hw:¬ (sIx items.size 0 lo=0/\sIx items.size items.size hi=items.size))
  (h:Q (.ref s.heap.objs.size) { s with heap:=s.heap.push { cls:=.type "tuple",data:=.seq ((items.toList.drop (sIx items.size 0 lo)).take (sIx items.size items.size hi - sIx items.size 0 lo)).toArray } })
  (hsz:items.size<=sizeLine):wpAny (model prog w) A (getItem (.ref t) (.ref sl)) Q E s:=by
 have htake:sizeOk (.seq ((items.toList.drop (sIx items.size 0 lo)).take (sIx items.size items.size hi - sIx items.size 0 lo)).toArray):=by
  show ((items.toList.drop (sIx items.size 0 lo)).take (sIx items.size items.size hi - sIx items.size 0 lo)).toArray.size<=sizeLine
  rw [List.size_toArray,List.length_take,List.length_drop,Array.length_toList]
  omega
 have hj:sIx items.size items.size hi<=items.size:=Zpv _ _ (Nat.le_refl _) hi
 obtain ⟨os,hos,hcs,hds⟩:=id hs
 have hTs:s.TypeIs (.ref sl) "slice":=⟨os,hos,hcs⟩
 unfold getItem
 try with_reducible refine wpAny_holding ?_
 first | refine wpAny_bind (wpAny_pure ?_) | skip
 refine wpAny_bind (wpAny_sequenceKey ht.typeIs (by decide) ?_)
 refine wpAny_bind (wpAny_callSpecial?_slot (name:=Str.ofString "__getitem__") ht.typeIs PyProof.Rows.slot_tuple_getitem
  (wpAny_call_entry PyProof.Rows.slot_tuple_getitem ht.typeIs entry_tuple_getitem ?_ (args_tuple_getitem _ _)))
 show wpAny _ _ (Builtin.Tuple.tupleItemsOf (.ref t) >>= _) _ _ s
 refine wpAny_bind (tupleItemsOf_ ht ?_)
 refine wpAny_bind (wpAny_typeOf hTs ?_)
 rw [if_pos (by decide)]
 refine wpAny_bind (Zcj hs pl pu ?_)
 have hno:¬ ((((sIx items.size 0 lo:Nat):Int) == 0 && (1:Int) == 1 && (sIx items.size items.size hi - sIx items.size 0 lo) == items.size)=true):=by
  intro q
  rw [Bool.and_eq_true,Bool.and_eq_true] at q
  have q1:((sIx items.size 0 lo:Nat):Int)=0:=eq_of_beq q.1.1
  have q2:sIx items.size items.size hi - sIx items.size 0 lo=items.size:=eq_of_beq q.2
  exact hw ⟨by omega,by omega⟩
 show wpAny _ _ (if (((sIx items.size 0 lo:Nat):Int) == 0 && (1:Int) == 1 && (sIx items.size items.size hi - sIx items.size 0 lo) == items.size)=true then _ else _) _ _ s
 rw [if_neg hno,Zli]
 first
  | exact wpAny_bind (m:=Builtin.Tuple.tupleExact _) (wpAny_newObj_type (wpAny_pure ⟨_,rfl,wpAny_pure h⟩) htake)
  | exact wpAny_bind (m:=Builtin.Tuple.tupleExact _) (wpAny_newObj_type (wpAny_bind (wpAny_pure (wpAny_pure ⟨_,rfl,wpAny_pure h⟩))) htake)
  | exact wpAny_bind (wpAny_bind (m:=Builtin.Tuple.tupleExact _) (wpAny_newObj_type (wpAny_pure (wpAny_pure ⟨_,rfl,wpAny_pure h⟩)) htake))
  | exact wpAny_bind (wpAny_bind (m:=Builtin.Tuple.tupleExact _) (wpAny_newObj_type (wpAny_pure ⟨_,rfl,wpAny_pure h⟩) htake))
end
end HT
namespace L2
open PySem PySem.Spec PyProof.Rows
abbrev TO:=St->Hp->(Option Int->Hp->Prop)->Prop
def PO (X:Cx) (e:Option Expr) (t:TO):Prop:=
 ∀ (pins:List (Addr × Obj)) (s:Shared) (σ:St) (H:Hp) (Q:Option Int->Hp->Prop),Inv X pins σ H s->t σ H Q →
  wpAny (model X.prog X.w) X.A (evalPart e X.env) (fun u s'=>∃ o H',Inv X pins σ H' s' /\ IsPart u o/\Q o H') X.xe s
def tNoPart:TO:=fun _ H Q=>Q none H
def tPart (t:TE):TO:=fun σ H Q=>t σ H fun x H1=>∃ i,x=.int i/\Q (some i) H1
theorem Zby {ns:List Int}:∀ {us:List Value},Vals (ns.map V.int) us->IntsAre us ns:=by
 induction ns with
 | nil=>intro us r; rw [List.map_nil] at r; cases r; exact .nil
 | cons n ns ih=>
  intro us r
  rw [List.map_cons] at r
  cases r with
  | cons r1 r2=>
   obtain ⟨t,e⟩:=r1
   subst e
   exact .cons n t (ih r2)
section
variable {X:Cx} {e:Expr} {te:TE} {lo hi:Option Expr} {tl th:TO} {pos p2:Pos}
theorem Zbs:PO X none tNoPart:=by
 intro pins s σ H Q I h
 rw [evalPart_none]
 exact wpAny_pure ⟨none,H,I,.none,h⟩
theorem Zbl (h:PE X e te):PO X (some e) (tPart te):=by
 intro pins s σ H Q I hw
 rw [evalPart_some]
 refine thn (h pins s σ H _ I hw) fun u s1 ⟨x,H1,I1,r1,q1⟩=>?_
 obtain ⟨i,rfl,q⟩:=q1
 obtain ⟨t,rfl⟩:=r1
 exact ⟨some i,H1,I1,.int i t,q⟩
def SlR (X:Cx) (r:V->Option Int->Option Int->Hp->VK->Prop):Prop:=
 ∀ (pins:List (Addr × Obj)) (s:Shared) (σ:St) (H:Hp) (x:V) (v vl vu:Value) (lo hi:Option Int) (sl:Addr) (Q:VK),Inv X pins σ H s->RelV x v->s.heap.IsSliceOf sl vl vu .none->IsPart vl lo->IsPart vu hi->r x lo hi H Q →
  ∃ T id,typeLookup (.type T) "__getitem__" = pure (some (.builtin id))/\s.TypeIs v T/\wpAny (model X.prog X.w) X.A (getItem v (.ref sl)) (EP X pins σ Q) X.xe s
theorem SlR.or {r r':V->Option Int->Option Int->Hp->VK->Prop} (h:SlR X r) (h':SlR X r'):SlR X (fun x lo hi H Q=>r x lo hi H Q\/r' x lo hi H Q):=by
 intro pins s σ H x v vl vu lo hi sl Q I rx hs pl pu q
 rcases q with q | q
 ·exact h pins s σ H x v vl vu lo hi sl Q I rx hs pl pu q
 ·exact h' pins s σ H x v vl vu lo hi sl Q I rx hs pl pu q
def tSl (r:V->Option Int->Option Int->Hp->VK->Prop) (te:TE) (tl th:TO):TE:=fun σ H Q=>te σ H fun x H1=>tl σ H1 fun l H2=>th σ H2 fun u H3=>r x l u H3 Q
theorem Zbe {r:V->Option Int->Option Int->Hp->VK->Prop} (hr:SlR X r) (he:PE X e te) (hl:PO X lo tl) (hu:PO X hi th):PE X (.Subscript e (.Slice lo hi none p2) pos) (tSl r te tl th):=by
 intro pins s σ H Q I h
 refine Subscript_ (thn (he pins s σ H _ I h) fun v s1 ⟨x,H1,I1,r1,q1⟩=>?_)
 refine wpAny_Slice (thn (hl pins s1 σ H1 _ I1 q1) fun vl s2 ⟨l,H2,I2,pl,q2⟩=>thn (hu pins s2 σ H2 _ I2 q2) fun vu s3 ⟨u,H3,I3,pu,q3⟩=>?_)
 rw [evalPart_none]
 refine wpAny_pure ?_
 have I4:Inv X pins σ H3 { s3 with heap:=s3.heap.push { cls:=.type "slice",data:=.fields #[vl,vu,.none] } }:=I3.kept (t':=s3.toks) fun b ob q=>Heap.get?_push_of_some _ q
 obtain ⟨T,id,hT,ht,hg⟩:=hr pins { s3 with heap:=s3.heap.push { cls:=.type "slice",data:=.fields #[vl,vu,.none] } } σ H3 x v vl vu l u s3.heap.objs.size Q I4 r1 (Heap.IsSliceOf.new ..) pl pu q3
 show wpAny (model X.prog X.w) X.A (subscriptTail e (.Slice lo hi none p2) v (.ref s3.heap.objs.size)) (EP X pins σ Q) X.xe { s3 with heap:=s3.heap.push { cls:=.type "slice",data:=.fields #[vl,vu,.none] } }
 exact tail_any (ops:=[.ref s3.heap.objs.size,v]) ht hT hg (by with_unfolding_all rfl)
def cutV (xs:List V) (lo hi:Option Int):List V:=(xs.drop (HT.sIx xs.length 0 lo)).take (HT.sIx xs.length xs.length hi - HT.sIx xs.length 0 lo)
theorem Zee (xs:List V) (lo hi:Option Int):(cutV xs lo hi).length<=xs.length:=by
 unfold cutV
 rw [List.length_take,List.length_drop]
 omega
def rSlT (K:PySem.W.Frag):V->Option Int->Option Int->Hp->VK->Prop:=fun x lo hi H Q=>∃ a xs,x=.ref a/\SqT K H a xs ∧
 ¬ (HT.sIx xs.length 0 lo=0/\HT.sIx xs.length xs.length hi=xs.length)/\∀ p,H p=none->Q (.ref p) (upd H p (.tup (cutV xs lo hi)))
theorem Zpe:SlR X (rSlT X.K):=by
 intro pins s σ H x v vl vu lo hi sl Q I rx hs pl pu h
 obtain ⟨a,xs,rfl,hx,hw,q⟩:=h
 cases rx
 obtain ⟨its,r,ht,hz⟩:=I.tuple hx
 have hlen:its.toArray.size=xs.length:=by rw [List.size_toArray]; exact r.length.symm
 refine ⟨"tuple",_,PyProof.Rows.slot_tuple_getitem.lookup,ht.typeIs,?_⟩
 refine HT.getItem_tuple_cut ht hs pl pu (by rw [hlen]; exact hw) ?_ (by rw [hlen]; exact hz)
 rw [hlen]
 refine ⟨.ref s.heap.objs.size,_,I.laid (t':=s.toks) (o:=.tup (cutV xs lo hi)) (fun b ob q=>Heap.get?_push_of_some _ q) (Nat.le_refl _) ?_,rfl,q _ (I.hok.fresh (Nat.le_refl _))⟩
 exact ⟨Nat.le_trans (Zee xs lo hi) hz,_,(r.drop (HT.sIx xs.length 0 lo)).take (HT.sIx xs.length xs.length hi - HT.sIx xs.length 0 lo),IsTupN.new _ _⟩
def rCatT (K:PySem.W.Frag):R2:=fun x y H Q=>∃ a b xs ys,x=.ref a/\y=.ref b/\SqT K H a xs/\SqT K H b ys/\xs ≠ []/\xs.length + ys.length<=sizeLine ∧
 (ys=[]->Q (.ref a) H)/\(ys ≠ []->∀ p,H p=none->Q (.ref p) (upd H p (.tup (xs ++ ys))))
theorem Vals.nil_iff {xs:List V} {us:List Value} (r:Vals xs us):us=[] ↔ xs=[]:=by
 cases r with
 | nil=>simp
 | cons _ _=>simp
theorem Zn4:OpR X (binaryOp .Add) (rCatT X.K):=by
 intro pins s σ H x y v u Q I rx ry h
 obtain ⟨a,b,xs,ys,rfl,rfl,ha,hb,hx,hz,q1,q2⟩:=h
 cases rx
 cases ry
 obtain ⟨its,r1,p1,_⟩:=I.tuple ha
 obtain ⟨its2,r2,p2,_⟩:=I.tuple hb
 refine HT.cat_tup p1 p2 (fun z=>hx (r1.nil_iff.mp z)) (fun z=>⟨.ref a,H,I,rfl,q1 (r2.nil_iff.mp z)⟩) (fun z=>?_) (by rw [<- r1.length,<- r2.length]; exact hz)
 refine ⟨.ref s.heap.objs.size,_,I.laid (t':=s.toks) (o:=.tup (xs ++ ys)) (fun b ob q=>Heap.get?_push_of_some _ q) (Nat.le_refl _) ?_,rfl,q2 (fun w=>z (r2.nil_iff.mpr w)) _ (I.hok.fresh (Nat.le_refl _))⟩
 exact ⟨by rw [List.length_append]; exact hz,_,r1.append r2,IsTupN.new _ _⟩
end
end L2
namespace L2
open PySem PySem.Spec PyProof.Rows
def ixN (n:Nat) (i:Int):Option Nat:=if 0<=i then (if i < n then some i.toNat else none) else if -(n:Int)<=i then some (i + n).toNat else none
def atI {α:Type} (xs:List α) (i:Int):Option α:=(ixN xs.length i).bind fun j=>xs[j]?
theorem Zju {n:Nat} {i:Int} {j:Nat} (h:ixN n i=some j):seqIndex? i n=some j/\j < n /\ -(n:Int)<=i/\i < n:=by
 unfold ixN at h
 by_cases h0:0<=i
 ·rw [if_pos h0] at h
  by_cases h1:i < n
  ·rw [if_pos h1] at h
   have e:i.toNat=j:=Option.some.inj h
   exact ⟨by rw [seqIndex_of h0 h1,e],by omega,by omega,h1⟩
  ·rw [if_neg h1] at h; cases h
 ·rw [if_neg h0] at h
  by_cases h1:-(n:Int)<=i
  ·rw [if_pos h1] at h
   have e:(i + n).toNat=j:=Option.some.inj h
   exact ⟨by rw [seqIndex_neg (by omega) h1,e],by omega,h1,by omega⟩
  ·rw [if_neg h1] at h; cases h
theorem Zhb {α:Type} {xs:List α} {i:Int} {v:α} (h:atI xs i=some v):∃ j,seqIndex? i xs.length=some j/\xs[j]? = some v/\j < xs.length /\ -(xs.length:Int)<=i/\i < xs.length:=by
 unfold atI at h
 cases e:ixN xs.length i with
 | none=>rw [e] at h; cases h
 | some j=>
  rw [e] at h
  obtain ⟨h1,h2,h3,h4⟩:=Zju e
  exact ⟨j,h1,h,h2,h3,h4⟩
theorem Zdi {α:Type} {xs:List α} {j:Nat} {v:α} (h:xs[j]? = some v):atI xs (j:Int)=some v:=by
 have hj:j < xs.length:=(List.getElem?_eq_some_iff.mp h).1
 have e:ixN xs.length (j:Int)=some j:=by
  unfold ixN
  rw [if_pos (by omega),if_pos (by omega)]; simp
 unfold atI; rw [e]; exact h
def PlainIx (b:Expr):Prop:=∀ o i,subscripted b false o i=operate [o,i] (getItem o i)
def IxR (X:Cx) (r:R2):Prop:=
 ∀ (value slice:Expr) (pins:List (Addr × Obj)) (s:Shared) (σ:St) (H:Hp) (x y:V) (v u:Value) (Q:VK),Inv X pins σ H s->RelV x v->RelV y u->r x y H Q →
  subscripted slice false v u=operate [v,u] (getItem v u)->wpAny (model X.prog X.w) X.A (subscriptTail value slice v u) (EP X pins σ Q) X.xe s
def MtR (X:Cx) (id:String) (r:V->List V->Hp->VK->Prop):Prop:=
 ∀ (pins:List (Addr × Obj)) (s:Shared) (σ:St) (H:Hp) (x:V) (xs:List V) (v:Value) (us:List Value) (Q:VK),Inv X pins σ H s->RelV x v->Vals xs us->r x xs H Q →
  wpAny (model X.prog X.w) X.A (call (.builtin id) (v :: us)) (EP X pins σ Q) X.xe s
section
variable {X:Cx} {a b:Expr} {ta tb:TE} {pos:Pos}
theorem IxR.or {r r':R2} (h:IxR X r) (h':IxR X r'):IxR X (fun x y H Q=>r x y H Q\/r' x y H Q):=by
 intro value slice pins s σ H x y v u Q I rx ry q hs
 rcases q with q | q
 ·exact h value slice pins s σ H x y v u Q I rx ry q hs
 ·exact h' value slice pins s σ H x y v u Q I rx ry q hs
theorem Zbg {r:R2} (hr:IxR X r) (ha:PE X a ta) (hb:PE X b tb) (hs:PlainIx b):PE X (.Subscript a b pos) (tOp r ta tb):=by
 intro pins s σ H Q I h
 exact Subscript_ (binT ha hb I h fun v u s2 x y H2 I2 rx ry q=>hr a b pins s2 σ H2 x y v u Q I2 rx ry q (hs _ _))
def rIxL (K:PySem.W.Frag):R2:=fun x y H Q=>∃ p xs i v,x=.ref p/\y=.int i/\SqL K H p xs/\atI xs i=some v/\Q v H
def rIxT (K:PySem.W.Frag):R2:=fun x y H Q=>∃ p xs i v,x=.ref p/\y=.int i/\SqT K H p xs/\atI xs i=some v/\Q v H
def rIxS:R2:=fun x y H Q=>∃ z i c,x=.str z/\y=.int i/\z.length<=sizeLine/\atI z.cps.toList i=some c/\Q (.str ⟨#[c]⟩) H
theorem Zno:IxR X (rIxL X.K):=by
 intro value slice pins s σ H x y v u Q I rx ry h hs
 obtain ⟨p,xs,i,z,rfl,rfl,hq,he,q⟩:=h
 cases rx
 obtain ⟨t,rfl⟩:=ry
 obtain ⟨its,r,pl,hz⟩:=I.list hq
 obtain ⟨j,h1,h2,h3,h4,h5⟩:=Zhb he
 obtain ⟨w,ew,rw'⟩:=r.get h2
 have hl:=r.length
 have hn:=line63
 have fin:EP X pins σ Q w s:=⟨z,H,I,rw',q⟩
 by_cases h0:0<=i
 ·have hj:i.toNat=j:=by
   rw [seqIndex_of h0 h5] at h1
   exact Option.some.inj h1
  exact item_listR pl.isList h0 (by omega) (by rw [hj]; simpa using ew) fin hs
 ·have hj:(i + (its.toArray.size:Int)).toNat=j:=by
   rw [seqIndex_neg (by omega) h4] at h1
   rw [List.size_toArray,<- hl]
   exact Option.some.inj h1
  exact subscriptTail_builtinR (x:=w) pl.isList.typeIs slot_list_getitem.lookup
   (wpAny_getItem_list_neg (Q:=fun r s'=>r=w/\EP X pins σ Q r s') pl.isList (by omega) (by rw [List.size_toArray] <;> omega) (by omega) (by rw [hj]; simpa using ew) ⟨rfl,fin⟩) hs
theorem Zpg:IxR X (rIxT X.K):=by
 intro value slice pins s σ H x y v u Q I rx ry h hs
 obtain ⟨p,xs,i,z,rfl,rfl,hq,he,q⟩:=h
 cases rx
 obtain ⟨t,rfl⟩:=ry
 obtain ⟨its,r,pl,hz⟩:=I.tuple hq
 obtain ⟨j,h1,h2,h3,h4,h5⟩:=Zhb he
 obtain ⟨w,ew,rw'⟩:=r.get h2
 have hl:=r.length
 have hn:=line63
 have fin:EP X pins σ Q w s:=⟨z,H,I,rw',q⟩
 exact subscriptTail_builtinR (x:=w) pl.typeIs slot_tuple_getitem.lookup
  (getItem_tuple (j:=j) (Q:=fun r s'=>r=w/\EP X pins σ Q r s') pl (by omega) (by omega) (by rw [List.size_toArray,<- hl]; exact h1) (by simpa using ew) ⟨rfl,fin⟩) hs
theorem Zoj:IxR X rIxS:=by
 intro value slice pins s σ H x y v u Q I rx ry h hs
 obtain ⟨z,i,c,rfl,rfl,hz,he,q⟩:=h
 obtain ⟨t,rfl⟩:=rx
 obtain ⟨t',rfl⟩:=ry
 obtain ⟨j,h1,h2,h3,h4,h5⟩:=Zhb he
 have hl:z.cps.toList.length=z.length:=by simp [Str.length]
 rw [hl] at h1 h4 h5
 have hn:=line63
 exact tail_any (typeIs_str s z t) slot_str_getitem.lookup (getItem_str (c:=c) (by
  have e1:decide (i < -(2 ^ 63:Int))=false:=decide_eq_false (by omega)
  have e2:decide (i ≥ 2 ^ 63)=false:=decide_eq_false (by omega)
  rw [e1,e2,Bool.or_false]) (by rw [h1]; simpa using h2) ⟨.str ⟨#[c]⟩,H,I.tok _,⟨_,rfl⟩,q⟩) hs
def rIx (K:PySem.W.Frag):R2:=fun x y H Q=>rIxL K x y H Q\/rIxT K x y H Q\/rIxS x y H Q
theorem Zpf:IxR X (rIx X.K):=Zno.or (Zpg.or Zoj)
theorem Zik (its:List Value) (n j:Nat) (u:Value):Obj.mapSeq (·.setIfInBounds j u) { cls:=.type "list",data:=.seq its.toArray n } = { cls:=.type "list",data:=.seq (its.set j u).toArray n }:=by
 simp [Obj.mapSeq]
theorem Inv.lst {pins:List (Addr × Obj)} {σ:St} {H:Hp} {s:Shared} {p:Addr} {xs:List V} (I:Inv X pins σ H s) (h:H p=some (.lst xs)) :
  ∃ (its:List Value) (n:Nat),Vals xs its/\s.heap.get? p=some { cls:=.type "list",data:=.seq its.toArray n } /\ xs.length<=sizeLine:=by
 obtain ⟨z,its,n,r,e⟩:=I.hok p _ h
 exact ⟨its,n,r,e,z⟩
theorem Inv.lstUpd {pins:List (Addr × Obj)} {σ:St} {H:Hp} {s:Shared} {p:Addr} {xs ys:List V} {its its':List Value} {n n':Nat} {f:Obj->Obj} (I:Inv X pins σ H s) (h:H p=some (.lst xs))
  (ho:s.heap.get? p=some { cls:=.type "list",data:=.seq its.toArray n }) (hf:f { cls:=.type "list",data:=.seq its.toArray n } = { cls:=.type "list",data:=.seq its'.toArray n' }) (r:Vals ys its') (hz:ys.length<=sizeLine) (t:Nat) :
  Inv X pins σ (upd H p (.lst ys)) { s with heap:=s.heap.update p f,toks:=t }:=by
 have e:(s.heap.update p f).get? p=some { cls:=.type "list",data:=.seq its'.toArray n' }:=by
  rw [Heap.get?_update_self f ho (by rw [hf] <;> rfl),hf]
 refine I.write (x:=p) (e:=p) (by rw [h]; trivial) (.inl rfl) (fun b u hb q=>(Heap.get?_update_other _ _ (Ne.symm hb)).trans q) ⟨_,e⟩ ?_
 exact ⟨hz,its',n',r,e⟩
def rSetL:V->V->V->Hp->(Hp->Prop)->Prop:=fun o i v H Q=>∃ p xs k j,o=.ref p/\i=.int k/\H p=some (.lst xs)/\ixN xs.length k=some j/\Q (upd H p (.lst (xs.set j v)))
theorem Zkx:PSet X rSetL:=by
 intro pins s σ H o i v ov iv u Q I ro ri rv h
 obtain ⟨p,xs,k,j,rfl,rfl,hp,hj,q⟩:=h
 cases ro
 obtain ⟨t,rfl⟩:=ri
 obtain ⟨its,n,r,ho,hz⟩:=I.lst hp
 obtain ⟨h1,h2,h3,h4⟩:=Zju hj
 have hl:=r.length
 have hn:=line63
 have I':Inv X pins σ (upd H p (.lst (xs.set j v))) { s with heap:=s.heap.update p (Obj.mapSeq (·.setIfInBounds j u)) }:=
  I.lstUpd hp ho (Zik its n j u) (r.set rv j) (by rw [List.length_set]; exact hz) s.toks
 by_cases h0:0<=k
 ·have hk:k.toNat=j:=by
   rw [seqIndex_of h0 h4] at h1
   exact Option.some.inj h1
  exact PySem.W.ki_setAt ho h0 (by omega) (by rw [List.size_toArray,<- hl]; exact h4) (by rw [hk]; exact ⟨_,I',q⟩)
 ·have hk:(k + (its.toArray.size:Int)).toNat=j:=by
   rw [seqIndex_neg (by omega) h3] at h1
   rw [List.size_toArray,<- hl]
   exact Option.some.inj h1
  exact PySem.W.ki_setBack ho (by omega) (by rw [List.size_toArray,<- hl]; exact h3) (by omega) (by rw [hk]; exact ⟨_,I',q⟩)
theorem Zfs (lo hi:Option Int) (n:Nat):(sliceBounds lo hi none n).1=((HT.sIx n 0 lo:Nat):Int)/\(sliceBounds lo hi none n).2.1=((HT.sIx n n hi:Nat):Int)/\(sliceBounds lo hi none n).2.2=1:=by
 refine ⟨?_,?_,rfl⟩
 ·cases lo with
  | none=>simp [sliceBounds,HT.sIx]
  | some i=>
   simp only [sliceBounds,HT.sIx,Option.getD_none,show (1:Int) > 0 by decide,if_true]
   by_cases h:i < 0
   ·simp only [h,if_true] <;> omega
   ·simp only [h,if_false] <;> omega
 ·cases hi with
  | none=>simp [sliceBounds,HT.sIx]
  | some i=>
   simp only [sliceBounds,HT.sIx,Option.getD_none,show (1:Int) > 0 by decide,if_true]
   by_cases h:i < 0
   ·simp only [h,if_true] <;> omega
   ·simp only [h,if_false] <;> omega
theorem Zey (its:List Value) (lo hi:Option Int):slicePick its.toArray lo hi none=((its.drop (HT.sIx its.length 0 lo)).take (HT.sIx its.length its.length hi - HT.sIx its.length 0 lo)).toArray:=by
 obtain ⟨h1,h2,h3⟩:=Zfs lo hi its.toArray.size
 unfold slicePick
 rw [h1,h2,h3]
 simp only [sliceRange_one,pick_run,List.size_toArray] <;> rfl
def rSlL (K:PySem.W.Frag):V->Option Int->Option Int->Hp->VK->Prop:=fun x lo hi H Q=>∃ a xs,x=.ref a/\SqL K H a xs/\∀ p,H p=none->Q (.ref p) (upd H p (.lst (cutV xs lo hi)))
theorem Zme:SlR X (rSlL X.K):=by
 intro pins s σ H x v vl vu lo hi sl Q I rx hs pl pu h
 obtain ⟨a,xs,rfl,hx,q⟩:=h
 cases rx
 obtain ⟨its,r,ht,hz⟩:=I.list hx
 have hlen:=r.length
 refine ⟨"list",_,slot_list_getitem.lookup,ht.isList.typeIs,?_⟩
 refine wpAny_getItem_list_slice ht.isList hs pl pu .none (by simp) ?_ (by rw [List.size_toArray] <;> omega)
 rw [Zey,<- hlen]
 refine ⟨.ref s.heap.objs.size,_,I.laid (t':=s.toks) (o:=.lst (cutV xs lo hi)) (fun b ob q=>Heap.get?_push_of_some _ q) (Nat.le_refl _) ?_,rfl,q _ (I.hok.fresh (Nat.le_refl _))⟩
 exact ⟨Nat.le_trans (Zee xs lo hi) hz,_,0,(r.drop (HT.sIx xs.length 0 lo)).take (HT.sIx xs.length xs.length hi - HT.sIx xs.length 0 lo),Heap.get?_push_size _ rfl⟩
def flatV:V->Bool
 | .non=>true
 | .bl _=>true
 | .int _=>true
 | .str _=>true
 | _=>false
def eqV:V->V->Bool
 | .non,.non=>true
 | .bl a,.bl b=>a == b
 | .bl a,.int b=>(if a then 1 else 0) == b
 | .int a,.bl b=>a == (if b then 1 else 0)
 | .int a,.int b=>a == b
 | .str a,.str b=>a == b
 | _,_=>false
theorem Zfn:CallR X (.builtin "len") (fun xs H Q=>∃ p ys,xs=[.ref p]/\(SqL X.K H p ys\/SqT X.K H p ys)/\Q (.int ys.length) H):=by
 intro pins s σ H xs us Q I r h
 obtain ⟨p,ys,rfl,hq,q⟩:=h
 obtain ⟨u,rfl,rx⟩:=vals1 r
 cases rx
 have hn:=line63
 rcases hq with hq | hq
 ·obtain ⟨its,r',pl,hz⟩:=I.list hq
  have hlen:=r'.length
  exact Calls.call_len_list pl.isList (by simp only [List.size_toArray] <;> omega) ⟨.int ys.length,H,I.tok _,⟨s.toks + 1,by rw [List.size_toArray,hlen]⟩,q⟩
 ·obtain ⟨its,r',pl,hz⟩:=I.tuple hq
  have hlen:=r'.length
  exact len_tuple pl (by simp only [List.size_toArray] <;> omega) ⟨.int ys.length,H,I.tok _,⟨s.toks + 1,by rw [List.size_toArray,hlen]⟩,q⟩
theorem CallR.or {f:Value} {r r':List V->Hp->VK->Prop} (h:CallR X f r) (h':CallR X f r'):CallR X f (fun xs H Q=>r xs H Q\/r' xs H Q):=by
 intro pins s σ H xs us Q I rs q
 rcases q with q | q
 ·exact h pins s σ H xs us Q I rs q
 ·exact h' pins s σ H xs us Q I rs q
theorem Zet:CallR X (.type "tuple") (fun xs H Q=>∃ p ys,xs=[.ref p]/\((SqL X.K H p ys/\∀ l,H l=none->Q (.ref l) (upd H l (.tup ys)))\/(SqT X.K H p ys/\Q (.ref p) H))):=by
 intro pins s σ H xs us Q I r h
 obtain ⟨p,ys,rfl,h⟩:=h
 obtain ⟨u,rfl,rx⟩:=vals1 r
 cases rx
 rcases h with ⟨hq,q⟩ | ⟨hq,q⟩
 ·obtain ⟨its,r',pl,hz⟩:=I.list hq
  have hlen:=r'.length
  refine call_tuple_list pl.isList (fun h' kp=>?_) (by simp only [List.size_toArray] <;> omega)
  have I1:Inv X pins σ H { s with heap:=h' }:=I.kept (t':=s.toks) kp
  have I2:Inv X pins σ (upd H h'.objs.size (.tup ys)) { s with heap:=h'.push { cls:=.type "tuple",data:=.seq its.toArray } }:=
   I1.laid (t':=s.toks) (fun b o e=>Heap.get?_push_of_some _ e) (Nat.le_refl _) (show ObjOk X.prog X.w _ _ _ (.tup ys) from ⟨hz,its,r',IsTupN.new _ _⟩)
  exact ⟨.ref h'.objs.size,_,I2,rfl,q _ (I1.hok.fresh (Nat.le_refl _))⟩
 ·obtain ⟨its,r',pl,hz⟩:=I.tuple hq
  exact call_tuple_same pl ⟨.ref p,H,I,rfl,q⟩
def tyV (K:PySem.W.Frag) (T:String) (x:V) (H:Hp):Prop:=match x with
 | .str _=>T = "str"
 | .int _=>T = "int"
 | .ref p=>(T = "list" /\ ∃ xs,SqL K H p xs)\/(T = "tuple" /\ ((∃ o,K.lookup p=some o/\o.cls=.type "tuple" /\ o.dict=none)\/∃ xs,H p=some (.tup xs))) ∨
   (T = "dict" /\ ((∃ kvs,H p=some (.dK kvs))\/∃ kvs,H p=some (.dT kvs)))\/(T = "set" /\ ∃ S n,H p=some (.set S n))
 | _=>False
theorem Zou {pins:List (Addr × Obj)} {σ:St} {H:Hp} {s:Shared} {T:String} {x:V} {v:Value} (I:Inv X pins σ H s) (r:RelV x v) (ty:tyV X.K T x H) :
  s.TypeIs v T/\∀ a,v=.ref a->∃ ob,s.heap.get? a=some ob/\ob.dict=none:=by
 cases x with
 | str z=>
  obtain ⟨t,rfl⟩:=r
  cases (show T = "str" from ty)
  exact ⟨typeIs_str s z t,fun _ e=>nomatch e⟩
 | int i=>
  obtain ⟨t,rfl⟩:=r
  cases (show T = "int" from ty)
  exact ⟨typeIs_int s i t,fun _ e=>nomatch e⟩
 | ref p=>
  cases r
  rcases ty with ⟨rfl,xs,hq⟩ | ⟨rfl,(⟨o,hk,hc,hd⟩ | ⟨xs,hk⟩)⟩ | ⟨rfl,hk⟩ | ⟨rfl,S,n,hk⟩
  ·obtain ⟨its,_,pl,_⟩:=I.list hq
   refine ⟨pl.isList.typeIs,fun a e=>?_⟩
   cases e
   obtain ⟨o,n,e,c,hd,_⟩:=pl
   exact ⟨o,e,hd⟩
  ·refine ⟨⟨o,I.kIn p o hk,hc⟩,fun a e=>?_⟩
   cases e
   exact ⟨o,I.kIn _ o hk,hd⟩
  ·obtain ⟨_,_,_,o,e,⟨hc,_⟩,hd⟩:=I.hok p _ hk
   refine ⟨⟨o,e,hc⟩,fun a e2=>?_⟩
   cases e2
   exact ⟨o,e,hd⟩
  ·have z:∃ o,s.heap.get? p=some o/\o.ExactDict:=by
    rcases hk with ⟨kvs,hk⟩ | ⟨kvs,hk⟩
    ·obtain ⟨_,_,_,_,o,_,_,e,ex,_⟩:=I.hok p _ hk
     exact ⟨o,e,ex⟩
    ·obtain ⟨_,_,_,_,o,_,_,e,ex,_⟩:=I.hok p _ hk
     exact ⟨o,e,ex⟩
   obtain ⟨o,e,ex⟩:=z
   refine ⟨⟨o,e,ex.1⟩,fun a e2=>?_⟩
   cases e2
   exact ⟨o,e,ex.2.1⟩
  ·obtain ⟨o,_,_,_,e,ex,_⟩:=I.hok p _ hk
   refine ⟨⟨o,e,ex.1⟩,fun a e2=>?_⟩
   cases e2
   exact ⟨o,e,ex.2.1⟩
 | _=>exact False.elim ty
def tBM (K:PySem.W.Frag) (T:String) (r:V->List V->Hp->VK->Prop) (to:TE) (t:TA):TE:=fun σ H Q=>to σ H fun x H1=>tyV K T x H1/\t σ H1 fun xs H2=>r x xs H2 Q
variable {o e:Expr} {es:List Expr} {to:TE} {t:TA} {name:Str} {apos cpos:Pos} {T id:String} {r:V->List V->Hp->VK->Prop}
theorem Zp2 (pa:PlainAttrs T) (slot:Slot T name id) (hty:typeOf (.builtin id)=pure (.type "method_descriptor")) (hm:MtR X id r) (ho:PE X o to) (ha:PA X (e :: es) t)
  (hbase:attributeBase o name X.env (eval o X.env)=eval o X.env:=by rfl)
  (hfew:((backTo cpos (starEach (e :: es) X.env)).all (fun x=>!x.1) && (backToKw cpos (keywordEach [] X.env)).all (fun x=>x.1.isSome)
   && decide ((e :: es).length + ([]:List Keyword).length + (if ([]:List Keyword).isEmpty then 0 else 1) < 30))=true:=by rfl)
  (hline:(apos.endLine == cpos.line)=true:=by rfl) (hs:starEach (e :: es) X.env=(false,eval e X.env) :: starEach es X.env:=by rfl) (hplain:(backTo cpos (starEach es X.env)).any (·.1)=false:=by rfl) :
  PE X (.Call (.Attribute o name apos) (e :: es) [] cpos) (tBM X.K T r to t):=by
 intro pins s σ H Q I h
 refine wpAny_Call_method_late hbase hfew hline rfl (thn (ho pins s σ H _ I h) fun v s1 ⟨x,H1,I1,r1,ty,q1⟩=>?_)
 obtain ⟨h1,h2⟩:=Zou I1 r1 ty
 refine ⟨T,id,pa,slot,hty,h1,h2,?_⟩
 have hA:=ha cpos pins s1 σ H1 _ I1 q1
 rw [hs] at hA ⊢
 refine Calls.callWith_builtin (by show (false || (backTo cpos (starEach es X.env)).any (·.1))=false; rw [hplain] <;> rfl) (Calls.evalArgs_plain ?_)
 exact thn hA fun us s2 ⟨vs,H2,I2,r2,q2⟩=>hm pins s2 σ H2 x vs v us Q I2 r1 r2 q2
end
end L2
namespace L2
open PySem PySem.Spec PyProof.Rows
def MtM (X:Cx) (id:String) (r:V->List V->Hp->VK->Prop):Prop:=
 ∀ (pins:List (Addr × Obj)) (s:Shared) (σ:St) (H:Hp) (x:V) (xs:List V) (v:Value) (us:List Value) (Q:VK),Inv X pins σ H s->RelV x v->Vals xs us->r x xs H Q →
  wpAny (model X.prog X.w) X.A (call (.builtin id) (v :: us)) (EP X pins σ Q) X.xe s
theorem Vals.one:∀ {x:V} {us:List Value},Vals [x] us->∃ u,us=[u]/\RelV x u:=by
 intro x us h; cases h with | cons r t=>cases t; exact ⟨_,rfl,r⟩
theorem Vals.two:∀ {x y:V} {us:List Value},Vals [x,y] us->∃ u v,us=[u,v]/\RelV x u/\RelV y v:=by
 intro x y us h; cases h with | cons r t=>cases t with | cons q t=>cases t; exact ⟨_,_,rfl,r,q⟩
theorem Vals.eraseIdx:∀ {xs:List V} {us:List Value} (i:Nat),Vals xs us->Vals (xs.eraseIdx i) (us.eraseIdx i)
 | _,_,_,.nil=>.nil
 | _,_,0,.cons _ t=>t
 | _,_,i + 1,.cons r t=>.cons r (Vals.eraseIdx i t)
theorem Vals.reverse {xs:List V} {us:List Value} (h:Vals xs us):Vals xs.reverse us.reverse:=by
 induction h with
 | nil=>exact .nil
 | cons r t ih=>rw [List.reverse_cons,List.reverse_cons]; exact Vals.append ih (.cons r .nil)
theorem Zgl {α:Type}:∀ (l:List α) (i:Nat),(l.eraseIdx i).length<=l.length
 | [],_=>Nat.le_refl _
 | _ :: _,0=>Nat.le_succ _
 | _ :: r,i + 1=>Nat.succ_le_succ (Zgl r i)
section
variable {X:Cx} {pins:List (Addr × Obj)} {σ:St} {H:Hp} {s:Shared} {l b:Addr} {xs ys zs:List V}
theorem Inv.lset {its its':List Value} {n:Nat} {f:Array Value->Array Value} {t':Nat} (I:Inv X pins σ H s) (hH:H l=some (.lst xs))
  (e:s.heap.get? l=some { cls:=.type "list",data:=.seq its.toArray n }) (hf:f its.toArray=its'.toArray) (hv:Vals ys its') (hz:ys.length<=sizeLine) :
  Inv X pins σ (upd H l (.lst ys)) { s with heap:=s.heap.update l (Obj.mapSeq f),toks:=t' }:=by
 have q:=PySem.IsL.update e f
 rw [hf] at q
 refine I.write (x:=l) (e:=l) (by rw [hH]; exact trivial) (.inl rfl) (fun b' u hb hu=>(Heap.get?_update_other s.heap (Obj.mapSeq f) (Ne.symm hb)).trans hu) ⟨_,q⟩ ?_
 exact ⟨hz,its',_,hv,q⟩
theorem Inv.lnew {its:List Value} {t':Nat} (I:Inv X pins σ H s) (hv:Vals ys its) (hz:ys.length<=sizeLine) :
  Inv X pins σ (upd H s.heap.objs.size (.lst ys)) { s with heap:=s.heap.push { cls:=.type "list",data:=.seq its.toArray },toks:=t' }:=
 I.laid (fun _ _ q=>Heap.get?_push_of_some _ q) (Nat.le_refl _) ⟨hz,its,0,hv,Heap.get?_push_size _ rfl⟩
theorem Inv.fresh (I:Inv X pins σ H s):H s.heap.objs.size=none:=I.hok.fresh (Nat.le_refl _)
theorem Inv.lstM (I:Inv X pins σ H s) (hH:H l=some (.lst xs)):xs.length<=sizeLine/\∃ (its:List Value) (n:Nat),Vals xs its/\xs.length=its.length/\s.heap.get? l=some { cls:=.type "list",data:=.seq its.toArray n }:=by
 obtain ⟨z,its,n,r,e⟩:=I.hok l _ hH
 exact ⟨z,its,n,r,r.length,e⟩
end
section
variable {X:Cx}
def rAppend:V->List V->Hp->VK->Prop:=fun x vs H Q=>∃ l xs y,x=.ref l/\vs=[y]/\H l=some (.lst xs)/\xs.length < sizeLine/\Q .non (upd H l (.lst (xs ++ [y])))
theorem Zc9:MtM X "list.append" rAppend:=by
 intro pins s σ H x vs v us Q I rx rv h
 obtain ⟨l,xs,y,rfl,rfl,hH,hz,q⟩:=h
 cases rx
 obtain ⟨u,rfl,ru⟩:=rv.one
 obtain ⟨z,its,n,r,hl,e⟩:=I.lstM hH
 refine call_meets F.slot_list_append ⟨_,e,rfl⟩ F.entry_list_append (F.args_list_append_2 _ _) (PySem.list_append l its.toArray n u (by rw [List.size_toArray]; omega)) ⟨e,?_⟩
 refine ⟨.non,_,I.lset (its':=its ++ [u]) hH e (by simp) (r.append (.cons ru .nil)) ?_,rfl,q⟩
 rw [List.length_append,List.length_singleton]
 omega
def rPopAt:V->List V->Hp->VK->Prop:=fun x vs H Q=>∃ l xs i k y,x=.ref l/\vs=[.int i]/\H l=some (.lst xs) /\ -(2 ^ 63)<=i/\i < 2 ^ 63/\seqIndex? i xs.length=some k/\xs[k]? = some y/\Q y (upd H l (.lst (xs.eraseIdx k)))
theorem Zhx:MtM X "list.pop" rPopAt:=by
 intro pins s σ H x vs v us Q I rx rv h
 obtain ⟨l,xs,i,k,y,rfl,rfl,hH,h1,h2,hk,hy,q⟩:=h
 cases rx
 obtain ⟨u,rfl,ru⟩:=rv.one
 obtain ⟨t,rfl⟩:=ru
 obtain ⟨z,its,n,r,hl,e⟩:=I.lstM hH
 obtain ⟨w,hw,rw'⟩:=r.get hy
 refine call_meets F.slot_list_pop ⟨_,e,rfl⟩ F.entry_list_pop (F.args_list_pop_2 _ _)
  (MeetsSeq.list_pop_at l its.toArray n i t k w (fitsIndex_both h1 h2) (by rw [List.size_toArray,<- hl]; exact hk) (by rw [<- Array.getElem?_toList]; exact hw) (by rw [List.size_toArray]; omega)) ⟨e,?_⟩
 refine ⟨y,_,I.lset (its':=its.eraseIdx k) hH e ?_ (r.eraseIdx k) ?_,rw',q⟩
 ·show its.toArray.eraseIdxIfInBounds k=(its.eraseIdx k).toArray
  rw [List.eraseIdxIfInBounds_toArray]
 ·have:=Zgl xs k
  omega
def rCat:R2:=fun x y H Q=>∃ l b xs zs,x=.ref l/\y=.ref b/\H l=some (.lst xs)/\H b=some (.lst zs)/\xs.length + zs.length<=sizeLine/\∀ p,H p=none->Q (.ref p) (upd H p (.lst (xs ++ zs)))
theorem Zo8:OpR X (binaryOp .Add) rCat:=by
 intro pins s σ H x y v u Q I rx ry h
 obtain ⟨l,b,xs,zs,rfl,rfl,hH,hB,hz,q⟩:=h
 cases rx
 cases ry
 obtain ⟨z,its,n,r,hl,e⟩:=I.lstM hH
 obtain ⟨z2,its2,n2,r2,hl2,e2⟩:=I.lstM hB
 refine PySem.P.add_list e e2 ?_ (by rw [List.size_toArray,List.size_toArray]; omega)
 have ea:its.toArray ++ its2.toArray=(its ++ its2).toArray:=by simp
 rw [ea]
 exact ⟨.ref _,_,I.lnew (t':=s.toks) (r.append r2) (by rw [List.length_append]; omega),rfl,q _ I.fresh⟩
end
section
variable {X:Cx}
end
end L2
namespace Att
open PySem PySem.W PySem.Calls PyProof.Rows
theorem Zeb {P:Params} {h:Heap}:∀ (ns:List Int) (vs:List Value),WellAll P h vs (ns.map WData.int)->IntsAre vs ns:=by
 intro ns
 induction ns with
 | nil=>
  intro vs w
  rw [List.map_nil] at w
  cases w
  exact .nil
 | cons n ns ih=>
  intro vs w
  rw [List.map_cons] at w
  cases w with
  | cons a b=>
   cases a
   exact .cons _ _ (ih _ b)
theorem Zjz {l:OpenLaw} {n:Nat} (hn:l.most=some n) {P:Params} {h:Heap} {args:List WData} {vals:List Value}
  (hpre:l.row.toRowW.claim.pre args=true) (hwl:WellAll P h vals args) :
  ∃ a vs ns,vals=[Value.ref a]/\args=[WData.list (ns.map WData.int)]/\h.get? a=some { cls:=.type "list",data:=.seq vs.toArray } /\ IntsAre vs ns/\ns.length<=n:=by
 have hsh:WShape.hasAll [] args [.list .int]=true:=(pre_splitW hpre).1
 have hc:l.pre.holds [] { args:=args } = true:=(pre_splitW hpre).2
 obtain ⟨d,r,rfl,h1,h2⟩:=hasAllW_cons hsh
 obtain rfl:=hasAllW_nil h2
 obtain ⟨xs,rfl,h3⟩:=hasW_list h1
 obtain ⟨ns,rfl⟩:=items_int h3
 have hlen:ns.length<=n:=by
  unfold OpenLaw.pre at hc
  have h4:(WTm.not (.lt (.lit (.int (n:Int))) (.len (.arg 0)))).holds [] { args:=[.list (ns.map .int)] } = true:=by
   have h4:=(holds_andW hc).1
   rw [hn] at h4
   exact h4
  have h5:=condW_of h4 (w_not (w_lt w_lit (w_len_list (w_arg rfl))))
  rw [List.length_map] at h5
  refine Nat.le_of_not_lt fun q=>?_
  have q':(n:Int) < ((ns.length:Nat):Int):=by omega
  first
   | (rw [decide_eq_true q'] at h5; exact absurd h5 (by decide))
   | (simp at h5; omega)
 cases hwl with
 | cons w1 w2=>
  cases w2
  cases w1 with
  | list ho hall=>exact ⟨_,_,ns,rfl,rfl,ho,Zeb ns _ hall,hlen⟩
theorem Zjy (l:OpenLaw) (args:List WData):l.row.toRowW.claim.post args (.bool true) args=true:=
 postW_of (r:=l.row.toRowW) (X:=(true == true))
  (show WShape.has [] (.bool true) .bool=true by first | rfl | decide | simp [WShape.has,WShape.arms,WShape.armsAll])
  (show (WTm.eq .res (.lit (.bool true))).value [] { args:=args,res:=some (.bool true),after:=args } = some (.bool (true == true)) from w_eq_bool (w_res rfl) w_lit) rfl
theorem attach_call {l:OpenLaw} {n:Nat} {q:Program} {loose:List Str} {XP:(Str->Option Value)->Heap->Prop} {YP:World->Heap->Prop} {d:DefRec}
  (hn:l.most=some n) (hdf:d.params.defaults=[])
  (call:∀ (w:World) (s₀ s₁:Shared) (mg mb:Str->Option Value) (fa:Addr) (o:Obj) (pm cd doc:Value) (a:Addr) (vs:List Value) (ns:List Int),
   Ground q loose [] XP w s₀ mg mb s₁.heap->YP w s₁.heap →
   s₁.heap.get? fa=some o->o.data=.func (docDef d.name d.params d.body d.scope pm cd doc)->s₁.heap.CodeRec cd d.name->mg d.name=some (.ref fa) →
   s₁.heap.get? a=some { cls:=.type "list",data:=.seq vs.toArray } -> IntsAre vs ns->ns.length<=n->s₁.gens = #[] →
   codeAny (model l.prog w) callerA (.call (.ref fa) ⟨[.ref a],[]⟩) (fun r s'=>r=.ok (.ret (.bool true))/\OldK s₁.heap s'.heap/\s'.os=s₁.os/\AllBare s'.gens) s₁) :
  WalkO q loose XP YP l.row.toRowW d [] (fun f vs=>PySem.call f vs):=by
 intro w s₀ s₁ mg mb G Y fa o pm cd doc dV kV ho hd hcd hD hmg hg args vals as hpre hlay hrd hwl hlo
 obtain rfl:dV=.none:=Dflts.none hD hdf
 obtain rfl:kV=.none:=Dflts.noKw hD
 obtain ⟨a,vs,ns,rfl,rfl,hobj,hints,hlen⟩:=Zjz hn hpre hwl
 refine enter_call (codeAny_mono (call w s₀ s₁ mg mb fa o pm cd doc a vs ns G Y ho (fd_plain hd) hcd hmg hobj hints hlen hg) fun r s' hq=>?_)
 obtain ⟨rfl,h2,h3,h4⟩:=hq
 exact ⟨.inl ⟨.bool true,.bool true,[],rfl,fun _=>rfl,.bool true,Zjy l _,fun _=>⟨List.Pairwise.nil,fun _ hm=>(nomatch hm)⟩⟩,h2,h3,h4⟩
end Att
namespace L2
open PySem PySem.Spec PyProof.Rows
theorem Zc6:∀ {vs:List Value} {ns:List Int},IntsAre vs ns->Vals (ns.map V.int) vs
 | _,_,.nil=>.nil
 | _,_,.cons n t h=>.cons ⟨t,rfl⟩ (Zc6 h)
def Only (H:Hp):Prop:=∀ b,H b=none\/∃ o xs,H b=some (.frz o (.lst xs))
theorem Zlc {P:Program} {w:World} {K:PySem.W.Frag} {mg mb:Str->Option Value} {CX:CXT} {k:Nat} {fa a:Addr} {fd:FuncData} {x:Str} {sp:Sp} {s₁:Shared} {vs:List Value} {ns:List Int}
  (KX:K.In s₁.heap) (hns:s₁.heap.Ns mainGlobals mg) (hb:s₁.heap.Ns builtinsNs mb) (hbb:∀ x:Str,x ≠ "__name__" -> mb x=bootBuiltins x) (hlim:s₁.heap.NoLimit) (hg:s₁.gens = #[])
  (ha:s₁.heap.get? a=some { cls:=.type "list",data:=.seq vs.toArray }) (hi:IntsAre vs ns) (hl:ns.length<=sizeLine) (hr:Room k callerA)
  (F:∀ base:Heap,K.In base->base.Ns mainGlobals mg->FnOk P w K mg base CX k fa fd [x] sp) (hbind:∀ (s:Shared) (u:Value),BindsTo s fd ⟨[u],[]⟩ [(x,u)])
  (hsp:∀ H:Hp,Only H->SqL K H a (ns.map V.int)->sp [.ref a] H (fun v _=>v=.bl true) fun _ _ _=>False)
  (hCX:∀ H e s',CX [] H s₁ (fun _ _ _=>False) e s' -> False) :
  codeAny (model P w) callerA (.call (.ref fa) ⟨[.ref a],[]⟩) (fun r s'=>r=.ok (.ret (.bool true))/\OldK s₁.heap s'.heap/\s'.os=s₁.os/\AllBare s'.gens) s₁:=by
 have rv:=Zc6 hi
 have lenV:=hi.length
 -- from an abstract heap in which nothing but the script may be tracked
 have core:∀ H:Hp,Only H->SqL K H a (ns.map V.int)->HOk P w H s₁.heap->(∀ b,H b ≠ none->b=a)->(H a ≠ none->K.lookup a=none) →
   codeAny (model P w) callerA (.call (.ref fa) ⟨[.ref a],[]⟩) (fun r s'=>r=.ok (.ret (.bool true))/\OldK s₁.heap s'.heap/\s'.os=s₁.os/\AllBare s'.gens) s₁:=by
  intro H hO hS hok hA hK
  have base_of:∀ {b:Addr} {o:Obj},s₁.heap.get? b=some o->H b=none->(hidT s₁.heap H).get? b=some o:=fun e n=>Zk1 e n
  have noA:∀ {b:Addr} {o:Obj} {es:Array DictEntry} {ep:Nat},s₁.heap.get? b=some o->o.data=.dict es ep->H b=none:=fun {b o es ep} e d=>by
   cases q:H b with
   | none=>rfl
   | some u=>
    have e':b=a:=hA b (by rw [q]; simp)
    subst e'
    rw [ha] at e; cases e
    have d':Data.seq vs.toArray _=Data.dict es ep:=d
    cases d'
  have nsK:∀ {b:Addr} {m:Str->Option Value},s₁.heap.Ns b m->(hidT s₁.heap H).Ns b m:=fun {b m} ⟨o,es,ep,e,d,r⟩=>⟨o,es,ep,base_of e (noA e d),d,r⟩
  have hKb:K.In (hidT s₁.heap H):=fun b o e=>base_of (KX b o e) (by
   cases q:H b with
   | none=>rfl
   | some u=>
    have e':b=a:=hA b (by rw [q]; simp)
    subst e'
    rw [hK (by rw [q]; simp)] at e; cases e)
  have hM:Mod K mg (hidT s₁.heap H):=⟨hKb,nsK hns,⟨mb,nsK hb,hbb⟩,let ⟨mc,h1,h2⟩:=hlim; ⟨mc,nsK h1,h2⟩⟩
  have e0:Env0 P w K mg (hidT s₁.heap H) callerA [] s₁ H:=⟨rfl,hM,fun b o e=>Zm9 e,Nat.le_of_eq (Zj5 _ _),trivial,fun b hb=>absurd (show b ∈ ([]:List Addr) from hb) (by simp),hok,.of_eq hg⟩
  refine codeAny_mono ((F _ hKb (nsK hns)).run callerA [] s₁ H ⟨[.ref a],[]⟩ [.ref a] [.ref a] _ _ hr e0 (hbind s₁ (.ref a)) (.cons rfl .nil) (hsp H hO hS)) fun r s' h=>?_
  cases r with
  | error e=>exact (hCX H e s' h).elim
  | ok fl=>
   cases fl with
   | next=>exact False.elim h
   | brk=>exact False.elim h
   | cont=>exact False.elim h
   | ret u=>
    obtain ⟨v,H',os,bare,un,hok',r',q⟩:=h
    have q':v=.bl true:=q
    subst q'
    obtain rfl:u=Value.bool true:=r'
    refine ⟨rfl,OldK.of_keep fun b o e=>?_,os,bare⟩
    cases q:H b with
    | none=>exact un.keep b o e q (by intro z; exact absurd (show b ∈ ([]:List Addr) from z) (by simp)) (by simp)
    | some u=>
     rcases hO b with z | ⟨ob,xs,z⟩
     ·rw [q] at z; cases z
     ·have z2:=un.frzs b ob _ z
      obtain ⟨e1,_⟩:=hok b _ z
      obtain ⟨e2,_⟩:=hok' b _ z2
      rw [e] at e1; cases e1
      exact e2
 cases hk:K.lookup a with
 | some o=>
  -- the script is one of the module's own objects
  have e:=KX a o hk
  rw [ha] at e
  cases e
  refine core (fun _=>none) (fun _=>.inl rfl) (.inr ⟨_,vs.toArray,_,hk,rfl,rfl,rfl,by rw [List.size_toArray,lenV]; exact hl,by simpa using rv⟩) (fun b u z=>by have z':(none:Option HO)=some u:=z; cases z') (fun b z=>absurd rfl z) fun z=>absurd rfl z
 | none=>
  refine core (fun b=>if b=a then some (.frz { cls:=.type "list",data:=.seq vs.toArray } (.lst (ns.map V.int))) else none) (fun b=>?_) (.inl (.inr ⟨{ cls:=.type "list",data:=.seq vs.toArray },if_pos rfl⟩)) (fun b u z=>?_) (fun b z=>?_) fun _=>hk
  ·by_cases hb:b=a
   ·exact .inr ⟨_,_,if_pos hb⟩
   ·exact .inl (if_neg hb)
  ·by_cases hb:b=a
   ·have z':=(if_pos hb).symm.trans z
    cases z'
    subst hb
    exact ⟨ha,by rw [List.length_map]; exact hl,vs,_,rv,ha⟩
   ·have z':=(if_neg hb).symm.trans z
    cases z'
  ·by_cases hb:b=a
   ·exact hb
   ·exact absurd (if_neg hb) z
end L2
namespace L2
open PySem PySem.Spec PyProof.Rows
theorem walk_of {l:PySem.W.OpenLaw} {n k:Nat} {q:Program} {loose:List Str} {XP:(Str->Option Value)->Heap->Prop} {YP:World->Heap->Prop} {d:DefRec} {K:Params->PySem.W.Frag} {CX:World->CXT} {sp:World->Sp} {x:Str}
  (hn:l.most=some n) (hn2:n<=sizeLine) (hdf:d.params.defaults=[]) (hr:Room k callerA)
  (hY:∀ (w:World) (h:Heap),YP w h->(K w.params).In h)
  (F:∀ (w:World) (mg:Str->Option Value) (fa:Addr) (h:Heap),(K w.params).In h->h.Ns mainGlobals mg->mg d.name=some (.ref fa) →
   ∃ fd:FuncData,(∀ (s:Shared) (u:Value),BindsTo s fd ⟨[u],[]⟩ [(x,u)]) ∧
    ∀ base:Heap,(K w.params).In base->base.Ns mainGlobals mg->FnOk l.prog w (K w.params) mg base (CX w) k fa fd [x] (sp w))
  (hsp:∀ (w:World) (H:Hp) (a:Addr) (ns:List Int),ns.length<=n->Only H->SqL (K w.params) H a (ns.map V.int)->sp w [.ref a] H (fun v _=>v=.bl true) fun _ _ _=>False)
  (hCX:∀ (w:World) (H:Hp) (s:Shared) (e:Value) (s':Shared),CX w [] H s (fun _ _ _=>False) e s' -> False) :
  PySem.W.WalkO q loose XP YP l.row.toRowW d [] (fun f vs=>PySem.call f vs):=by
 refine Att.attach_call hn hdf fun w s₀ s₁ mg mb fa o pm cd doc a vs ns G Y ho hd hcd hmg hobj hints hlen hg=>?_
 have KX:=hY w _ Y
 obtain ⟨fd,hb,hF⟩:=F w mg fa _ KX G.T.g hmg
 exact Zlc KX G.T.g G.T.b G.T.builtins G.T.nolimit hg hobj hints (Nat.le_trans hlen hn2) hr hF hb (fun H hO hS=>hsp w H a ns hlen hO hS) fun H e s'=>hCX w H s₁ e s'
end L2
namespace L2
open PySem PySem.Spec PyProof.Rows
def defArgs (s:Stmt):Arguments:=match s with
 | .FunctionDef _ a _ _ _ _ _ _ _ _=>a
 | _=>{ posonlyargs:=[],args:=[],vararg:=none,kwonlyargs:=[],kw_defaults:=[],kwarg:=none,defaults:=[] }
def defBody (s:Stmt):List Stmt:=match s with
 | .FunctionDef _ _ b _ _ _ _ _ _ _=>b
 | _=>[]
def defScope (s:Stmt):Scope:=match s with
 | .FunctionDef _ _ _ _ _ _ sc _ _ _=>sc
 | _=>{ kind:=.function,names:=[],isGenerator:=false,isCoroutine:=false }
abbrev CX0:CXT:=fun _ _ _ _ _ _=>False
abbrev E0:XK:=fun _ _ _=>False
theorem pass0 {X:Cx}:Passes CX0 X E0:=fun _ _ _ _ _ _ _ h=>h.elim
structure Fun (K:PySem.W.Frag) (x qual:Str) (st:Stmt) (f:Addr) (fd:FuncData):Prop where
 ex:∃ (oc:Value) (od:Option Addr) (kV doc pm:Value) (an:Option Addr) (cdv ct:Value) (osl:Array (Option Value)),
  fd=PySem.W.fnOf x qual (defArgs st) (defBody st) (defScope st) .none kV doc pm an cdv ct/\K.lookup f=some ⟨oc,od,.func fd,osl⟩ /\ PySem.W.codeIn K cdv qual=true
 kp:PySem.W.keepIn K (.ref f)=true
section
variable {P:Program} {w:World} {K:PySem.W.Frag} {mg:Str->Option Value} {base:Heap}
theorem Fun.ok {x qual:Str} {st:Stmt} {f:Addr} {fd:FuncData} {N ps:List Str} {k:Nat} {sp:Sp} (F:Fun K x qual st f fd) (S:FnScope N ps (defScope st)) (len:∀ vs H Q E,sp vs H Q E->vs.length=ps.length)
  (hbody:∀ (cdv:Value) (A:Around) (outer:List Env) (s:Shared) (H:Hp) (vs:List V) (Q:VK) (E:XK),Room k (A.deeper (envOfC qual (defScope st) s.heap.objs.size f cdv))->sp vs H Q E →
   ∃ t,PSs (cxOf CX0 P w K mg base N qual (defScope st) f cdv A outer s H E).nox (defBody st) t/\t { nx:=fun _ H'=>Q .non H',rt:=Q } (start N vs) H):FnOk P w K mg base CX0 (k + 1) f fd ps sp:=by
 obtain ⟨oc,od,kV,doc,pm,an,cdv,ct,osl,rfl,lk,hcd⟩:=F.ex
 refine Zpx lk hcd S len fun A outer s H vs Q E hr hsp=>?_
 obtain ⟨t,h,q⟩:=hbody cdv A outer s H vs Q E hr hsp
 exact ⟨t,h.nox,q⟩
theorem Fun.binds {x qual:Str} {st:Stmt} {f:Addr} {fd:FuncData} {ps:List Str} (F:Fun K x qual st f fd)
  (h:∀ (kV doc pm:Value) (an:Option Addr) (cdv ct:Value) (us:List Value),us.length=ps.length->bindArgs (PySem.W.fnOf x qual (defArgs st) (defBody st) (defScope st) .none kV doc pm an cdv ct) ⟨us,[]⟩ = pure (ps.zip us)):Binds K fd ps []:=by
 obtain ⟨oc,od,kV,doc,pm,an,cdv,ct,osl,rfl,lk,hcd⟩:=F.ex
 exact .all (h kV doc pm an cdv ct)
theorem Zog {x qual:Str} {st:Stmt} {f:Addr} {oc:Value} {od an:Option Addr} {osl:Array (Option Value)} {kV doc pm cdv ct:Value} (l:K.lookup f=some ⟨oc,od,.func (PySem.W.fnOf x qual (defArgs st) (defBody st) (defScope st) .none kV doc pm an cdv ct),osl⟩)
  (c:PySem.W.codeIn K cdv qual=true) (k:PySem.W.keepIn K (.ref f)=true):Fun K x qual st f (PySem.W.fnOf x qual (defArgs st) (defBody st) (defScope st) .none kV doc pm an cdv ct):=⟨⟨oc,od,kV,doc,pm,an,cdv,ct,osl,rfl,l,c⟩,k⟩
end
theorem Zb5 {A:Around} {k:Nat} (hr:Room k A):A.units + 1 < cLine:=Nat.lt_of_le_of_lt (Nat.add_le_add_left (by decide:1<=64) _) hr.units
theorem small1000 {n:Nat} (h:n<=1000):n < sizeLine:=Nat.lt_of_le_of_lt h (by decide)
section
variable {X:Cx}
theorem pv (i:Nat) {x:Str} {pos:Pos} (hN:X.N[i]? = some x:=by rfl) (hv:Vis X.env.scope x:=by first | exact Or.inl rfl | exact Or.inr (Or.inl rfl) | exact Or.inr (Or.inr rfl)) (hd:(x == ("__debug__":Str))=false:=by decide)
  (hcd:(x == ("__classdict__":Str))=false:=by decide):PE X (.Name x pos) (tVar i):=Zpc hN hv hd hcd
end
theorem iteF {A B:Prop} (h:B):if false=true then A else B:=by
 rw [if_neg Bool.false_ne_true]
 exact h
theorem iteT {A B:Prop} (h:A):if true=true then A else B:=by
 rw [if_pos rfl]
 exact h
theorem ite2 {c A B:Prop} [Decidable c] (h1:c->A) (h2:¬ c->B):if c then A else B:=by
 by_cases h:c
 ·rw [if_pos h]
  exact h1 h
 ·rw [if_neg h]
  exact h2 h
def Same (H H':Hp):Prop:=∀ b o,H b=some o->H' b=some o
theorem Same.refl (H:Hp):Same H H:=fun _ _ h=>h
theorem Same.trans {H H1 H2:Hp} (a:Same H H1) (b:Same H1 H2):Same H H2:=fun c o h=>b c o (a c o h)
theorem Same.seq {K:PySem.W.Frag} {H H':Hp} {a:Addr} {xs:List V} (e:Same H H') (h:SqL K H a xs):SqL K H' a xs:=by
 rcases h with (h | ⟨o,h⟩) | h
 ·exact .inl (.inl (e _ _ h))
 ·exact .inl (.inr ⟨o,e _ _ h⟩)
 ·exact .inr h
end L2
namespace L2
open PySem PySem.Spec PyProof.Rows
section
variable {κ:Type} [DecidableEq κ]
def valV (kvs:List (κ × V)) (k:κ):Option V:=(kvs.find? fun kv=>decide (kv.1=k)).map (·.2)
def putK (kvs:List (κ × V)) (k:κ) (v:V):List (κ × V):=
 if (kvs.any fun kv=>decide (kv.1=k))=true then kvs.map (fun kv=>if kv.1=k then (kv.1,v) else kv) else kvs ++ [(k,v)]
theorem Zev {p:κ × V} {r:List (κ × V)} {k:κ} (e:p.1=k):valV (p :: r) k=some p.2:=by simp [valV,List.find?_cons,e]
theorem Zfl {p:κ × V} {r:List (κ × V)} {k:κ} (e:¬ p.1=k):valV (p :: r) k=valV r k:=by simp [valV,List.find?_cons,e]
theorem Zhh (k:κ):∀ kvs:List (κ × V),(kvs.any fun kv=>decide (kv.1=k))=(valV kvs k).isSome
 | []=>rfl
 | p :: r=>by
  rw [List.any_cons]
  by_cases e:p.1=k
  ·simp only [Zev e,decide_eq_true e,Bool.true_or,Option.isSome_some]
  ·rw [Zfl e,decide_eq_false e,Bool.false_or]; exact Zhh k r
theorem Zd7 (kvs:List (κ × V)) (k:κ) (v:V):(putK kvs k v).length<=kvs.length + 1:=by
 unfold putK
 split
 ·rw [List.length_map]; omega
 ·rw [List.length_append,List.length_cons,List.length_nil]; omega
theorem RelO.isSome_eq {o:Option V} {u:Option Value} (r:RelO o u):o.isSome=u.isSome:=by
 cases o with
 | none=>cases u with
  | none=>rfl
  | some _=>exact (show False from r).elim
 | some _=>cases u with
  | none=>exact (show False from r).elim
  | some _=>rfl
theorem KV.val {kvs:List (κ × V)} {vs:List (κ × Value)} (r:KV kvs vs) (k:κ):RelO (valV kvs k) (valueAt vs k):=by
 unfold KV at r
 induction r with
 | nil=>exact True.intro
 | @cons p q ps qs h t ih=>
  obtain ⟨h1,h2⟩:=h
  by_cases e:p.1=k
  ·have e':q.1=k:=h1.symm.trans e
   have b:valueAt (q :: qs) k=some q.2:=by simp [valueAt,List.find?_cons,e']
   rw [Zev e,b]; exact h2
  ·have e':¬ q.1=k:=fun z=>e (h1.trans z)
   have b:valueAt (q :: qs) k=valueAt qs k:=by simp [valueAt,List.find?_cons,e']
   rw [Zfl e,b]; exact ih
theorem KV.any {kvs:List (κ × V)} {vs:List (κ × Value)} (r:KV kvs vs) (k:κ):(kvs.any fun kv=>decide (kv.1=k))=vs.any fun kv=>decide (kv.1=k):=by
 unfold KV at r
 induction r with
 | nil=>rfl
 | cons h t ih=>rw [List.any_cons,List.any_cons,ih,h.1]
theorem KV.repl {kvs:List (κ × V)} {vs:List (κ × Value)} (r:KV kvs vs) (k:κ) {y:V} {u:Value} (ry:RelV y u) :
  KV (kvs.map fun kv=>if kv.1=k then (kv.1,y) else kv) (vs.map fun kv=>if kv.1=k then (kv.1,u) else kv):=by
 unfold KV at r ⊢
 induction r with
 | nil=>exact .nil
 | @cons p q ps qs h t ih=>
  rw [List.map_cons,List.map_cons]
  refine .cons ?_ ih
  obtain ⟨h1,h2⟩:=h
  by_cases e:p.1=k
  ·rw [if_pos e,if_pos (h1.symm.trans e)]; exact ⟨h1,ry⟩
  ·rw [if_neg e,if_neg (fun z=>e (h1.trans z))]; exact ⟨h1,h2⟩
theorem KV.put {kvs:List (κ × V)} {vs:List (κ × Value)} (r:KV kvs vs) (k:κ) {y:V} {u:Value} (ry:RelV y u):KV (putK kvs k y) (stored vs k u):=by
 unfold putK stored
 rw [r.any k]
 by_cases e:(vs.any fun kv=>decide (kv.1=k))=true
 ·rw [if_pos e,if_pos e]; exact r.repl k ry
 ·rw [if_neg e,if_neg e]; exact Paired.snoc r ⟨rfl,ry⟩
theorem KV.length {kvs:List (κ × V)} {vs:List (κ × Value)} (r:KV kvs vs):kvs.length=vs.length:=Paired.length r
end
theorem Zns {P:Program} {w:World} {k:Key} {u:Value} (r:RelV (kV k) u):(mixKind P w).is k u=true:=by
 cases k with
 | inl i=>obtain ⟨t,e⟩:=(show ∃ t,u=Value.int i t from r); subst e; exact Zgx P w i t
 | inr x=>obtain ⟨t,e⟩:=(show ∃ t,u=Value.str x t from r); subst e; exact Zg1 P w x t
theorem Zfx {P:Program} {w:World}:∀ {ks:List Key} {us:List Value},Vals (ks.map kV) us->ItemsAre (mixKind P w) ks us
 | [],_,r=>by rw [List.map_nil] at r; cases r; exact .nil
 | k :: ks,_,r=>by
  rw [List.map_cons] at r
  cases r with
  | cons h t=>exact .cons (Zns h) (Zfx t)
abbrev KT (H:Hp):List (List Key × V)->List (List Key × Addr × Value)->Prop:=Paired fun p q=>p.1=q.1/\H q.2.1=some (.tup (p.1.map kV))/\RelV p.2 q.2.2
theorem KT.val {H:Hp} {kvs:List (List Key × V)} {xs:List (List Key × Addr × Value)} (r:KT H kvs xs) (k:List Key):RelO (valV kvs k) ((atKey xs k).map (·.2)):=by
 induction r with
 | nil=>exact True.intro
 | @cons p q ps qs h t ih=>
  obtain ⟨h1,_,h2⟩:=h
  by_cases e:p.1=k
  ·have e':q.1=k:=h1.symm.trans e
   have b:atKey (q :: qs) k=some q.2:=by simp [atKey,List.find?_cons,e']
   rw [Zev e,b]; exact h2
  ·have e':¬ q.1=k:=fun z=>e (h1.trans z)
   have b:atKey (q :: qs) k=atKey qs k:=by simp [atKey,List.find?_cons,e']
   rw [Zfl e,b]; exact ih
theorem KT.repl {H:Hp} {kvs:List (List Key × V)} {xs:List (List Key × Addr × Value)} (r:KT H kvs xs) (k:List Key) {y:V} {u:Value} (ry:RelV y u) :
  KT H (kvs.map fun kv=>if kv.1=k then (kv.1,y) else kv) (xs.map (putAt k u)):=by
 induction r with
 | nil=>exact .nil
 | @cons p q ps qs h t ih=>
  rw [List.map_cons,List.map_cons]
  refine .cons ?_ ih
  obtain ⟨h1,h2,h3⟩:=h
  unfold putAt
  by_cases e:p.1=k
  ·rw [if_pos e,if_pos (h1.symm.trans e)]; exact ⟨h1,h2,ry⟩
  ·rw [if_neg e,if_neg (fun z=>e (h1.trans z))]; exact ⟨h1,h2,h3⟩
theorem KT.put {H:Hp} {kvs:List (List Key × V)} {xs:List (List Key × Addr × Value)} (r:KT H kvs xs) (k:List Key) {b:Addr} {y:V} {u:Value} (hb:H b=some (.tup (k.map kV))) (ry:RelV y u) :
  KT H (putK kvs k y) (storedH xs k b u):=by
 have e:(kvs.any fun kv=>decide (kv.1=k))=(atKey xs k).isSome:=by
  rw [Zhh,(r.val k).isSome_eq,Option.isSome_map]
 unfold putK storedH
 rw [e]
 by_cases q:(atKey xs k).isSome=true
 ·rw [if_pos q,if_pos q]; exact r.repl k ry
 ·rw [if_neg q,if_neg q]; exact Paired.snoc r ⟨rfl,hb,ry⟩
theorem KT.keeps {H H':Hp} {kvs:List (List Key × V)} {xs:List (List Key × Addr × Value)} (r:KT H kvs xs) (ht:∀ b ys,H b=some (.tup ys)->H' b=some (.tup ys)):KT H' kvs xs:=
 Paired.mapP r fun _ _ z=>⟨z.1,ht _ _ z.2.1,z.2.2⟩
section
variable {P:Program} {w:World} {H:Hp} {h:Heap} {a:Addr}
theorem Zpk {u:HO} (ok:HOk P w H h) (e:Rd H a u):ObjOk P w H h a u:=e.ok ok
theorem Zlw {kvs:List (Key × V)} (ok:HOk P w H h) (e:Rd H a (.dK kvs)):kvs.length<=sizeLine/\(a == sysModules)=false/\∃ vs,KV kvs vs/\h.DictOf (mixKind P w) a vs:=
 show ObjOk P w H h a (.dK kvs) from Zpk ok e
theorem Zp4 {kvs:List (Key × V)} (ok:HOk P w H h) (e:H a=some (.dK kvs)):kvs.length<=sizeLine/\(a == sysModules)=false/\∃ vs,KV kvs vs/\h.DictOf (mixKind P w) a vs:=Zlw ok (.inl e)
theorem Zjp {ks:List Key} (ok:HOk P w H h) (e:H a=some (.tup (ks.map kV))):(tupleKind (mixKind P w)).is h ks a:=by
 obtain ⟨_,its,r,o,h1,⟨h2,n,h3⟩,_⟩:=(show ObjOk P w H h a (.tup (ks.map kV)) from ok a _ e)
 exact ⟨o,its.toArray,n,h1,h2,h3,by simpa using Zfx r⟩
theorem Znr {kvs:List (List Key × V)} (ok:HOk P w H h) (e:Rd H a (.dT kvs)):kvs.length<=sizeLine/\(a == sysModules)=false ∧
  ∃ xs,KT H kvs xs/\h.DictOfH (tupleKind (mixKind P w)) a xs:=by
 obtain ⟨z,y,xs,r,o,es,ep,h1,h2,h3,h4,h5⟩:=(show ObjOk P w H h a (.dT kvs) from Zpk ok e)
 refine ⟨z,y,xs,r,o,es,ep,h1,h2,h3,h4,fun x hx=>?_,h5⟩
 have all:∀ {l:List (List Key × V)} {m:List (List Key × Addr × Value)},KT H l m->∀ x ∈ m,(tupleKind (mixKind P w)).is h x.1 x.2.1:=by
  intro l m q
  induction q with
  | nil=>intro x hx; exact nomatch hx
  | @cons p q ps qs hq t ih=>
   intro x hx
   rcases List.mem_cons.mp hx with e | hx
   ·subst e
    exact Zjp ok (by rw [<- hq.1]; exact hq.2.1)
   ·exact ih x hx
 exact all r x hx
theorem Zp1 {kvs:List (List Key × V)} (ok:HOk P w H h) (e:H a=some (.dT kvs)):kvs.length<=sizeLine/\(a == sysModules)=false ∧
  ∃ xs,KT H kvs xs/\h.DictOfH (tupleKind (mixKind P w)) a xs:=Znr ok (.inl e)
end
def DGet (H:Hp) (a:Addr) (y:V) (r:Option V):Prop:=
 (∃ kvs k,Rd H a (.dK kvs)/\y=kV k/\r=valV kvs k)\/∃ kvs k b,Rd H a (.dT kvs)/\y=.ref b/\H b=some (.tup (k.map kV))/\r=valV kvs k
def DPut (H:Hp) (a:Addr) (y v:V) (H':Hp):Prop:=
 (∃ kvs k,H a=some (.dK kvs)/\y=kV k/\kvs.length < sizeLine/\H' = upd H a (.dK (putK kvs k v))) ∨
 ∃ kvs k b,H a=some (.dT kvs)/\y=.ref b/\H b=some (.tup (k.map kV))/\kvs.length < sizeLine/\H' = upd H a (.dT (putK kvs k v))
section
variable {X:Cx} {pins:List (Addr × Obj)} {σ:St} {H:Hp} {s:Shared} {a:Addr} {y v:V} {u r:Value} {o:Option V} {A:Around} {E:Value->Shared->Prop}
theorem Zkh {Q:Value->Shared->Prop} (hu:A.units + 1 < cLine) (I:Inv X pins σ H s) (g:DGet H a y (some v)) (ry:RelV y u) (h:∀ w' s',Inv X pins σ H s' -> RelV v w' -> Q w' s') :
  wpAny (model X.prog X.w) A (getItem (.ref a) u) Q E s:=by
 rcases g with ⟨kvs,k,e,ey,l⟩ | ⟨kvs,k,b,e,ey,eb,l⟩
 ·subst ey
  obtain ⟨z,hd,vs,rel,dd⟩:=Zlw I.hok e
  obtain ⟨w',hw,rw'⟩:=RelO.some_of (v:=v) (o:=valueAt vs k) (by rw [l]; exact rel.val k)
  exact wpAny_getItem_of (Zns ry) dd.mapOf hw (h w' _ (I.tok _) rw')
 ·subst ey
  cases (show u=Value.ref b from ry)
  obtain ⟨z,hd,xs,rel,dd⟩:=Znr I.hok e
  obtain ⟨w',hw,rw'⟩:=RelO.some_of (v:=v) (o:=(atKey xs k).map (·.2)) (by rw [l]; exact rel.val k)
  obtain ⟨p,hp,hp2⟩:=Option.map_eq_some_iff.mp hw
  refine wpAny_getItem_heap (tupleKind_room_in1 hu) (Zjp I.hok eb) dd hp ?_
  rw [hp2]
  exact h w' _ (I.tok _) rw'
theorem Zkn {h':Heap} {t':Nat} {ob:HO} (I:Inv X pins σ H s) (mu:Mut (H a)) (hs:Heap.SameBut a s.heap h') (he:∃ q,h'.get? a=some q) (new:ObjOk X.prog X.w (upd H a ob) h' a ob) :
  Inv X pins σ (upd H a ob) { s with heap:=h',toks:=t' }:=
 I.write (x:=a) (e:=a) mu (.inl rfl) (fun b q hb z=>(hs.2 b hb).trans z) he new
theorem Zo5 {P:Program} {w:World} {H':Hp} {h':Heap} {kvs:List (Key × V)} {vs:List (Key × Value)} (z:kvs.length<=sizeLine) (hd:(a == sysModules)=false) (rel:KV kvs vs) (dd:h'.DictOf (mixKind P w) a vs) :
  ObjOk P w H' h' a (.dK kvs):=⟨z,hd,vs,rel,dd⟩
theorem Zj9 {H':Hp} {Q:Unit->Shared->Prop} (hu:A.units + 1 < cLine) (I:Inv X pins σ H s) (g:DPut H a y v H') (ry:RelV y u) (rv:RelV v r) (h:∀ s',Inv X pins σ H' s' -> Q () s') :
  wpAny (model X.prog X.w) A (setItem (.ref a) u r) Q E s:=by
 rcases g with ⟨kvs,k,e,ey,l,eH⟩ | ⟨kvs,k,b,e,ey,eb,l,eH⟩
 ·subst ey eH
  obtain ⟨z,hd,vs,rel,dd⟩:=Zp4 I.hok e
  have hz:vs.length<=sizeLine:=by rw [<- rel.length]; exact z
  have hl:(putK kvs k v).length<=sizeLine:=by have:=Zd7 kvs k v; omega
  refine wpAny_setItem_pairs (hsz:=hz) (Zns ry) dd fun h' dd' hs=>h _ ?_
  have he:∃ q,h'.get? a=some q:=let ⟨q,_,_,hq,_⟩:=dd'; ⟨q,hq⟩
  exact Zkn I (by rw [e]; exact True.intro) hs he (Zo5 hl hd (rel.put k rv) dd')
 ·subst ey eH
  cases (show u=Value.ref b from ry)
  obtain ⟨z,hd,xs,rel,dd⟩:=Zp1 I.hok e
  have hz:xs.length<=sizeLine:=by rw [<- Paired.length rel]; exact z
  have hl:(putK kvs k v).length<=sizeLine:=by have:=Zd7 kvs k v; omega
  refine wpAny_setItem_heap (hsz:=hz) (tupleKind_room_in1 hu) (Zjp I.hok eb) dd fun h' dd' hs=>h _ ?_
  obtain ⟨q,es,ep,hq,h2,h3,h4,_,h5⟩:=dd'
  refine Zkn I (by rw [e]; exact True.intro) hs ⟨q,hq⟩ ⟨hl,hd,_,(rel.put k eb rv).keeps fun c ys ec=>?_,q,es,ep,hq,h2,h3,h4,h5⟩
  rw [Zaj (Zpz ec e (fun z=>nomatch z))]
  exact ec
end
section
variable {X:Cx} {pins:List (Addr × Obj)} {σ:St} {H:Hp} {s:Shared} {a:Addr} {kvs:List (Key × V)} {k:Key} {u:Value} {A:Around} {E:Value->Shared->Prop}
theorem Zp7 {Q:Value->Shared->Prop} (I:Inv X pins σ H s) (e:Rd H a (.dK kvs)) (h:∀ t s',Inv X pins σ H s' -> Q (.int kvs.length t) s'):wpAny (model X.prog X.w) A (call (.builtin "len") [.ref a]) Q E s:=by
 obtain ⟨z,hd,vs,rel,dd⟩:=Zlw I.hok e
 refine call_len_dict hd dd (by rw [<- rel.length]; rw [sizeLine_eq] at z; omega) ?_
 rw [<- rel.length]
 exact h _ _ (I.tok _)
end
theorem Zg7 {X:Cx} {pins:List (Addr × Obj)} {σ:St} {H:Hp} {s:Shared} {a:Addr} {y:V} {o:Option V} (I:Inv X pins σ H s) (g:DGet H a y o):s.TypeIs (.ref a) "dict":=by
 rcases g with ⟨kvs,k,e,_,_⟩ | ⟨kvs,k,b,e,_,_,_⟩
 ·obtain ⟨_,_,vs,_,dd⟩:=Zlw I.hok e
  exact dd.typeIs
 ·obtain ⟨_,_,xs,_,dd⟩:=Znr I.hok e
  exact dd.typeIs
section
variable {X:Cx} {pos:Pos}
end
section
variable {X:Cx} {o e f:Expr} {apos cpos:Pos} {td ty tx:TE}
end
section
variable {X:Cx} {pins:List (Addr × Obj)} {σ:St} {H:Hp} {s:Shared} {a:Addr} {y:V} {u:Value} {A:Around} {E:Value->Shared->Prop}
end
end L2
namespace L2
open PySem PySem.Spec PyProof.Rows
section
variable {X:Cx}
theorem Zkm:CallR X (.builtin "len") (fun xs H Q=>∃ a kvs,xs=[V.ref a]/\H a=some (.dK kvs)/\Q (.int kvs.length) H):=by
 intro pins s σ H xs us Q I r h
 obtain ⟨a,kvs,rfl,ha,q⟩:=h
 obtain ⟨u,rfl,ru⟩:=vals1 r
 cases ru
 exact Zp7 I (.inl ha) fun t s' I'=>⟨.int kvs.length,H,I',⟨t,rfl⟩,q⟩
end
end L2
set_option Elab.async false
set_option linter.all false
set_option maxRecDepth 100000
namespace L2
open PySem PySem.Spec PyProof.Rows
def clOf (env:Env):List (Str × NameKind)->List (Str × Addr)->List (Str × Addr)
 | [],cs=>cs
 | (n,k) :: r,cs=>if k == .free then (match env.cells.lookup n with
     | some a=>clOf env r ((n,a) :: cs)
     | none=>clOf env r cs) else clOf env r cs
theorem Zd0 {env:Env}:∀ (names:List (Str × NameKind)) (cs:List (Str × Addr)),(∀ n,(n,NameKind.free) ∈ names->∃ a,env.cells.lookup n=some a) →
  (forIn names cs fun (x:Str × NameKind) (cs:List (Str × Addr))=>if (x.2 == .free)=true then (do let a ← cellOf env x.1; pure (ForInStep.yield ((x.1,a) :: cs))) else pure (ForInStep.yield cs):Sem (List (Str × Addr)))=pure (clOf env names cs)
 | [],cs,_=>rfl
 | (n,k) :: r,cs,h=>by
  rw [List.forIn_cons]
  have hr:∀ m,(m,NameKind.free) ∈ r->∃ a,env.cells.lookup m=some a:=fun m hm=>h m (List.mem_cons_of_mem _ hm)
  cases hk:k == NameKind.free with
  | false=>
   have e:clOf env ((n,k) :: r) cs=clOf env r cs:=by simp [clOf,hk]
   rw [e,<- Zd0 r cs hr]
   simp only [hk,Bool.false_eq_true,if_false]
   rfl
  | true=>
   have hk':k=.free:=by simpa using hk
   subst hk'
   obtain ⟨a,ha⟩:=h n List.mem_cons_self
   have e:clOf env ((n,.free) :: r) cs=clOf env r ((n,a) :: cs):=by simp [clOf,ha]
   have ec:cellOf env n=pure a:=by simp [cellOf,ha]
   rw [e,<- Zd0 r ((n,a) :: cs) hr]
   simp only [hk,if_true,ec]
   rfl
theorem Zcn {env:Env} {scope:Scope} (h:∀ n,(n,NameKind.free) ∈ scope.names->∃ a,env.cells.lookup n=some a):closureFor scope env=pure (clOf env scope.names []):=by
 rw [<- Zd0 scope.names [] h]
 simp only [closureFor]
 exact Eq.trans (bind_pure _) rfl
theorem Zbd {env:Env}:∀ (names:List (Str × NameKind)) (cs:List (Str × Addr)) {x:Str} {c:Addr},(∀ y d,cs.lookup y=some d->env.cells.lookup y=some d)->(clOf env names cs).lookup x=some c->env.cells.lookup x=some c
 | [],cs,x,c,h,e=>h x c e
 | (n,k) :: r,cs,x,c,h,e=>by
  unfold clOf at e
  split at e
  ·split at e
   ·rename_i a ha
    refine Zbd r ((n,a) :: cs) (fun y d q=>?_) e
    rw [List.lookup_cons] at q
    split at q
    ·rename_i hy
     have hy':y=n:=by simpa using hy
     cases q
     rw [hy']; exact ha
    ·exact h y d q
   ·exact Zbd r cs h e
  ·exact Zbd r cs h e
theorem Zc8 {env:Env}:∀ (names:List (Str × NameKind)) (cs:List (Str × Addr)) {x:Str},(∃ c,cs.lookup x=some c)->∃ c,(clOf env names cs).lookup x=some c
 | [],cs,x,h=>h
 | (n,k) :: r,cs,x,h=>by
  have h2:∀ a,∃ c,((n,a) :: cs).lookup x=some c:=fun a=>by
   rw [List.lookup_cons]
   split
   ·exact ⟨_,rfl⟩
   ·exact h
  unfold clOf
  split
  ·split
   ·exact Zc8 r _ (h2 _)
   ·exact Zc8 r cs h
  ·exact Zc8 r cs h
theorem Zda {env:Env}:∀ (names:List (Str × NameKind)) (cs:List (Str × Addr)) {x:Str},(x,NameKind.free) ∈ names->(∃ a,env.cells.lookup x=some a)->∃ c,(clOf env names cs).lookup x=some c
 | [],_,_,h,_=>by simp at h
 | (n,k) :: r,cs,x,h,⟨a,ha⟩=>by
  rcases List.mem_cons.mp h with e | hm
  ·have e1:n=x:=(congrArg Prod.fst e).symm
   have e2:k=.free:=(congrArg Prod.snd e).symm
   subst e1; subst e2
   have e:clOf env ((n,.free) :: r) cs=clOf env r ((n,a) :: cs):=by simp [clOf,ha]
   rw [e]
   exact Zc8 r _ ⟨a,by simp⟩
  ·unfold clOf
   split
   ·split
    ·exact Zda r _ hm ⟨a,ha⟩
    ·exact Zda r _ hm ⟨a,ha⟩
   ·exact Zda r _ hm ⟨a,ha⟩
def relab (osc scope:Scope):Scope:=
 { scope with names:=scope.names.map fun (n,k)=>if (k == .free && osc.kind == .function && osc.names.lookup n == some .cell) then (n,.cell) else (n,k) }
theorem Zf5 {osc scope:Scope} {x:Str} {k:NameKind} (hk:k=.cell\/k=.free) (hc:∀ y ∈ scope.names,y.2 ≠ .cell) (h:(relab osc scope).names.lookup x=some k):(x,NameKind.free) ∈ scope.names:=by
 have hm:=PySem.mem_of_lookup h
 obtain ⟨⟨n,j⟩,hy,e⟩:=List.mem_map.mp hm
 dsimp only at e
 split at e
 ·rename_i hj
  have e1:n=x:=congrArg Prod.fst e
  have hj':j=.free:=by
   simp only [Bool.and_eq_true,beq_iff_eq] at hj
   exact hj.1.1
  rw [<- e1,<- hj']; exact hy
 ·have e1:n=x:=congrArg Prod.fst e
  have e2:j=k:=congrArg Prod.snd e
  rcases hk with z | z
  ·exact absurd (show ((n,j):Str × NameKind).2=.cell from e2.trans z) (hc _ hy)
  ·rw [<- e1,<- z,<- e2]; exact hy
theorem Zeq {osc:Scope} {x:Str}:∀ {names:List (Str × NameKind)},names.lookup x=some .free →
  (names.map fun (n,k)=>if (k == NameKind.free && osc.kind == .function && osc.names.lookup n == some .cell) then (n,NameKind.cell) else (n,k)).lookup x=some .cell ∨
  (names.map fun (n,k)=>if (k == NameKind.free && osc.kind == .function && osc.names.lookup n == some .cell) then (n,NameKind.cell) else (n,k)).lookup x=some .free
 | [],h=>by simp at h
 | (n,k) :: r,h=>by
  have ih:=@Zeq osc x r
  rw [List.map_cons]
  cases hx:x == n with
  | true=>
   simp only [List.lookup_cons,hx] at h
   cases h
   dsimp only
   split
   ·left; simp [List.lookup_cons,hx]
   ·right; simp [List.lookup_cons,hx]
  | false=>
   simp only [List.lookup_cons,hx] at h
   dsimp only
   split
   ·simpa only [List.lookup_cons,hx] using ih h
   ·simpa only [List.lookup_cons,hx] using ih h
structure CompSc (osc:Scope) (oN:List Str) (scope:Scope) (fvs:List Str) (sel:List Nat):Prop where
 kind:scope.kind=.function
 nocell:∀ y ∈ scope.names,y.2 ≠ .cell
 names:∀ y ∈ scope.names,y.2=.local->scope.names.lookup y.1=some .local
 free:∀ y ∈ scope.names,y.2=.free->osc.names.lookup y.1=some .cell\/osc.names.lookup y.1=some .free
 len:fvs.length=sel.length
 fv:∀ p ∈ fvs.zip sel,oN[p.2]? = some p.1/\scope.names.lookup p.1=some .free
def compCx (X:Cx) (scope:Scope) (N:List Str) (C:Addr) (s:Shared) (H:Hp) (ex:List Addr) (pn:List (Addr × Obj)):Cx where
 prog:=X.prog
 w:=X.w
 K:=X.K
 mg:=X.mg
 base:=X.base
 A:=X.A
 N:=N
 s₀:=s
 H₀:=H
 env:=compEnvC scope (clOf X.env scope.names []) C X.env
 outer:=X.stack
 stack:=X.stack
 ex:=ex
 fn:=fun _=>false
 calm:=X.calm
 pn:=pn
 xe:=fun _ _=>False
def compSt (n:Nat) (sel:List Nat) (σ:St):St:=List.replicate n none ++ sel.map fun i=>(σ[i]?).getD none
section
variable {X:Cx} {pins:List (Addr × Obj)} {σ:St} {H:Hp} {s:Shared} {fp:List Addr} {scope:Scope} {tgs fvs:List Str} {sel:List Nat}
theorem Zdk (S:CompSc X.env.scope X.N scope fvs sel) (ok:X.Ok):∀ n,(n,NameKind.free) ∈ scope.names->∃ a,X.env.cells.lookup n=some a:=fun n hn=>
 ok.has n (S.free _ hn rfl)
theorem Zm7 (S:CompSc X.env.scope X.N scope fvs sel) (N:List Str) (I:Inv X pins σ H s) (hf:∀ b ∈ fp,FpOk X pins H b) (hlt:∀ b ∈ fp,b < s.heap.objs.size):(compCx X scope N s.heap.objs.size s H fp (X.pn ++ pins)).Ok where
 mod:=I.ok.mod
 kind:=S.kind
 glob:=I.ok.glob
 blt:=I.ok.blt
 above:=Nat.le_refl _
 inj:=fun x y c h1 h2=>I.ok.inj x y c (Zbd _ _ (fun _ _ z=>by simp at z) h1) (Zbd _ _ (fun _ _ z=>by simp at z) h2)
 has:=fun x hx=>by
  have hm:(x,NameKind.free) ∈ scope.names:=by
   rcases hx with z | z
   ·exact Zf5 (osc:=X.env.scope) (.inl rfl) S.nocell z
   ·exact Zf5 (osc:=X.env.scope) (.inr rfl) S.nocell z
  exact Zda scope.names [] hm (Zdk S I.ok x hm)
 cab:=fun x c h _=>by cases h
 hd:=I.ok.hd
 frames:=I.ok.frames
 stk:=.inl rfl
 exf:=fun b hb=>⟨Nat.ne_of_lt (hlt b hb),fun x c e=>(hf b hb).2.2.2.2.1 x c (Zbd _ _ (fun _ _ z=>by simp at z) e)⟩
 bs:=I.bs
 bsz:=Nat.le_trans I.ok.bsz I.sz
 noex:=fun b o e hb=>by
  rcases (hf b hb).2.2.2.1 with z | z
  ·exact I.ok.noex b o e z
  ·exact absurd (Nat.lt_of_lt_of_le (Heap.lt_size e) (Nat.le_trans I.ok.bsz z)) (Nat.lt_irrefl _)
 exfs:=fun b hb z=>by
  rcases List.mem_cons.mp (I.stkSub b z) with e | z
  ·exact (hf b hb).2.1 e
  ·exact (hf b hb).2.2.1 z
 funs:=I.stack
 frf:=I.stkFree
theorem Zlh (S:CompSc X.env.scope X.N scope fvs sel) (I:Inv X pins σ H s) (hf:∀ b ∈ fp,FpOk X pins H b) (hlt:∀ b ∈ fp,b < s.heap.objs.size) {h':Heap} {tk:Nat} {m:Str->Option Value}
  (hns:h'.Ns s.heap.objs.size m) (old:∀ b o,s.heap.get? b=some o->h'.get? b=some o) :
  Inv (compCx X scope (tgs ++ fvs) s.heap.objs.size s H fp (X.pn ++ pins)) [] (compSt tgs.length sel σ) H { s with heap:=h',toks:=tk } where
 ok:=Zm7 S _ I hf hlt
 os:=rfl
 bare:=I.bare
 base:=Un.kept old
 loc:=by
  refine ⟨m,hns,fun i x v h1 h2 h3=>?_⟩
  have h1:(tgs ++ fvs)[i]? = some x:=h1
  unfold compSt at h2
  by_cases hi:i < tgs.length
  ·rw [List.getElem?_append_left (by simpa using hi),List.getElem?_replicate,if_pos hi] at h2
   cases h2
  ·have hi':tgs.length<=i:=Nat.le_of_not_lt hi
   rw [List.getElem?_append_right (by simpa using hi'),List.getElem?_map,List.length_replicate] at h2
   rw [List.getElem?_append_right hi'] at h1
   cases hj:sel[i - tgs.length]? with
   | none=>rw [hj] at h2; cases h2
   | some j=>
    rw [hj] at h2
    have h2:(σ[j]?).getD none=some v:=by simpa using h2
    have hz:(x,j) ∈ fvs.zip sel:=by
     refine List.mem_of_getElem? (i:=i - tgs.length) ?_
     rw [List.getElem?_zip_eq_some]
     exact ⟨h1,hj⟩
    obtain ⟨hN,hfr⟩:=S.fv _ hz
    have hσ:σ[j]? = some (some v):=by
     cases q:σ[j]? with
     | none=>rw [q] at h2; cases h2
     | some o=>rw [q] at h2; exact congrArg some h2
    have hko:X.env.scope.names.lookup x=some .cell\/X.env.scope.names.lookup x=some .free:=S.free (x,.free) (PySem.mem_of_lookup hfr) rfl
    obtain ⟨m0,hn0,hl0⟩:=I.loc
    obtain ⟨u,r,l⟩:=hl0 j x v hN hσ (.inr hko)
    refine ⟨u,r,.inr ⟨Zeq hfr,?_⟩⟩
    rcases l with ⟨hk,_⟩ | ⟨_,c,hc,hcell⟩
    ·have hk:X.env.scope.names.lookup x=some .local:=hk
     rcases hko with z | z <;> (rw [hk] at z; cases z)
    ·obtain ⟨c',hc'⟩:=Zda scope.names [] (PySem.mem_of_lookup hfr) ⟨c,hc⟩
     have e:=Zbd scope.names [] (fun _ _ z=>by simp at z) hc'
     rw [hc] at e; cases e
     obtain ⟨o,ho,hd⟩:=hcell
     exact ⟨c,hc',o,old _ _ ho,hd⟩
 cell:=fun x c e=>by
  obtain ⟨v,o,ho,hd⟩:=I.cell x c (Zbd _ _ (fun _ _ z=>by simp at z) e)
  exact ⟨v,o,old _ _ ho,hd⟩
 free:=I.hok.fresh (Nat.le_refl _)
 freeC:=fun x c e=>I.freeC x c (Zbd _ _ (fun _ _ z=>by simp at z) e)
 pin:=fun p hp=>by
  have hp:p ∈ (X.pn ++ pins) ++ []:=hp
  rw [List.append_nil] at hp
  obtain ⟨e,n,ne,nf,d⟩:=I.pin p hp
  refine ⟨old _ _ e,n,Nat.ne_of_lt (Heap.lt_size e),fun z=>?_,d⟩
  rcases List.mem_cons.mp (I.stkSub p.1 z) with q | q
  ·exact ne q
  ·exact nf q
 hok:=I.hok.kept old
 len:=by
  unfold compSt
  show _=(tgs ++ fvs).length
  rw [List.length_append,List.length_append,List.length_replicate,List.length_map,S.len]
theorem Zi6 {N:List Str} {σ':St} {H':Hp} {s':Shared} {h':Heap} (I:Inv X pins σ H s) (hf:∀ b ∈ fp,FpOk X pins H b)
  (J:Inv (compCx X scope N s.heap.objs.size s H fp (X.pn ++ pins)) [] σ' H' s') (sb:Heap.SameBut s.heap.objs.size s'.heap h'):Inv X pins σ H' { s' with heap:=h' }:=by
 have B:Un (frs X.stack) fp H H' s.heap s'.heap:=J.base
 have ne:∀ b o,s.heap.get? b=some o->b ≠ s.heap.objs.size:=fun b o e=>Nat.ne_of_lt (Heap.lt_size e)
 have fr:H' s.heap.objs.size=none:=J.free
 refine I.call' (s':={ s' with heap:=h' }) (ch:=fp) J.os ⟨fun b o e n h1 h2=>?_,fun b o e n h1 h2=>?_,B.free,fun b o e h2=>?_,B.tups,B.frzs,B.tbls⟩ (fun b ob e=>?_) J.bare fun b hb=>?_
 ·exact (sb.2 b (ne b o e)).trans (B.keep b o e n h1 h2)
 ·obtain ⟨sl,q⟩:=B.slot b o e n h1 h2
  exact ⟨sl,(sb.2 b (ne b o e)).trans q⟩
 ·obtain ⟨o',q⟩:=B.there b o e h2
  exact ⟨o',(sb.2 b (ne b o e)).trans q⟩
 ·refine (J.hok b ob e).stay (fun c w' hc q=>(sb.2 c ?_).trans q) (fun _ q=>q) fun _ _ q=>q
  intro z
  rcases hc with hc | hc
  ·rw [<- hc,z,fr] at e; cases e
  ·rw [z,fr] at hc; cases hc
 ·exact ⟨(hf b hb).2.2.2.1,(hf b hb).2.1,(hf b hb).2.2.2.2.1,(hf b hb).2.2.2.2.2⟩
end
def PTs (X:Cx) (ifs:List Expr) (t:TT):Prop:=
 ∀ (pins:List (Addr × Obj)) (s:Shared) (σ:St) (H:Hp) (Q:Bool->Hp->Prop),Inv X pins σ H s->t σ H Q →
  wpAny (model X.prog X.w) X.A (forIn ifs true fun c r=>if r=true then do let ok ← isTrue c X.env (eval c X.env); pure (ForInStep.yield ok) else pure (ForInStep.yield r)) (TP X pins σ Q) X.xe s
def tTrue:TT:=fun _ H Q=>Q true H
theorem Zcz {X:Cx}:PTs X [] tTrue:=fun pins s σ H Q I h=>wpAny_tests_nil ⟨H,I,h⟩
theorem Ze3 {X:Cx} {c:Expr} {t:TT} (h:PT X c t):PTs X [c] t:=fun pins s σ H Q I hq=>wpAny_tests_one (h pins s σ H Q I hq)
def tComp (n:Nat) (sel:List Nat) (wi:TI) (g:TG) (tc:TT) (te:TE):TE:=fun σ H Q=>wi σ H fun J H1=>∀ acc,H1 acc=none->∃ W:Nat->Nat->St->Hp->Prop,
 (∃ m,W 0 m (compSt n sel σ) (upd H1 acc (.lst [])))/\∀ i m σ' H',W i m σ' H' →
  (J.stop i H' /\ Q (.ref acc) H')\/(J.go i H' /\ ∃ N:St->Hp->Prop,(∀ σ2 H2,N σ2 H2->∃ m',m' < m/\W (i + 1) m' σ2 H2) ∧
   ∀ x H2,J.yld i H' x H2->g x σ' H2 fun σ2 H3=>tc σ2 H3 fun b H4=>if b=true then te σ2 H4 fun y H5=>∃ ys,H5 acc=some (.lst ys)/\ys.length < sizeLine/\N σ2 (upd H5 acc (.lst (ys ++ [y]))) else N σ2 H4)
section
variable {X:Cx}
theorem Zgk {elt tg iter:Expr} {ifs:List Expr} {scope:Scope} {pos:Pos} {tgs fvs:List Str} {sel:List Nat} {g:TG} {tc:TT} {te:TE} (S:CompSc X.env.scope X.N scope fvs sel) {Cm:Cx->Prop} (hc:∀ C s H ex pn,Cm (compCx X scope (tgs ++ fvs) C s H ex pn))
  (hg:∀ C s H ex pn,PG (compCx X scope (tgs ++ fvs) C s H ex pn) tg g) (ht:∀ C s H ex pn,PTs (compCx X scope (tgs ++ fvs) C s H ex pn) ifs tc) (he:∀ C s H ex pn,PE (compCx X scope (tgs ++ fvs) C s H ex pn) elt te)
  {pins:List (Addr × Obj)} {σ:St} {s:Shared} {itv:Value} {Q:VK} {E:Value->Shared->Prop} {RR:Value->Addr->Result->Shared->Prop}
  (h2:PIEG Cm X pins σ tg (fun J H1=>∀ acc,H1 acc=none->∃ W:Nat->Nat->St->Hp->Prop,
   (∃ m,W 0 m (compSt tgs.length sel σ) (upd H1 acc (.lst [])))/\∀ i m σ' H',W i m σ' H' →
   (J.stop i H' /\ Q (.ref acc) H')\/(J.go i H' /\ ∃ N:St->Hp->Prop,(∀ σ2 H2,N σ2 H2->∃ m',m' < m/\W (i + 1) m' σ2 H2) ∧
   ∀ x H2,J.yld i H' x H2->g x σ' H2 fun σ2 H3=>tc σ2 H3 fun b H4=>if b=true then te σ2 H4 fun y H5=>∃ ys,H5 acc=some (.lst ys)/\ys.length < sizeLine/\N σ2 (upd H5 acc (.lst (ys ++ [y]))) else N σ2 H4)) itv s)
  (fin:∀ (s':Shared) (C acc:Addr) (H':Hp) (m:Str->Option Value),s'.heap.Ns C m->FpOk X pins H' C->(∀ h',Heap.SameBut C s'.heap h' -> Inv X pins σ H' { s' with heap:=h' })->Q (.ref acc) H' -> RR (.ref acc) C (.ok .next) s') :
  wpAny (model X.prog X.w) X.A (newList []) (fun acc s3=>wpAny (model X.prog X.w) X.A (newFunctionEnv scope X.env.globals (clOf X.env scope.names []) [] X.env.qual none .none (some X.env)) (fun cenv s4=>
   codeAny (model X.prog X.w) X.A (.compStart (.ListComp elt [⟨tg,iter,ifs,0⟩] scope pos) 0 itv acc { cenv with scope:=relabel scope X.env }) (RR acc cenv.locals) s4) E s3) E s:=by
 obtain ⟨it,fp,tn,J,H1,e,I,T,st,f2,h2⟩:=h2
 subst e
 have hlt:∀ b ∈ fp,b < s.heap.objs.size:=fun b hb=>let ⟨o,ho,_⟩:=T.obj 0 _ st b hb; Heap.lt_size ho
 refine wpAny_newObj_type (wpAny_newFunctionEnv S.nocell (by intro y hy; simp at hy) (fun h1 hns hsb=>?_) S.kind)
 dsimp only at hns hsb ⊢
 have I3:Inv X pins σ (upd H1 s.heap.objs.size (.lst [])) { s with heap:=s.heap.push { cls:=.type "list",data:=.seq ([]:List Value).toArray },toks:=s.toks }:=I.lnew (its:=[]) .nil (by decide)
 have hacc:H1 s.heap.objs.size=none:=I.hok.fresh (Nat.le_refl _)
 obtain ⟨W,⟨m0,w0⟩,turn⟩:=h2 s.heap.objs.size hacc
 generalize hs3:({ s with heap:=s.heap.push { cls:=.type "list",data:=.seq ([]:List Value).toArray },toks:=s.toks }:Shared)=s3 at I3
 have hh3:s3.heap=s.heap.push { cls:=.type "list",data:=.seq ([]:List Value).toArray }:=by rw [<- hs3]
 have old3:∀ b o,s.heap.get? b=some o->s3.heap.get? b=some o:=fun b o q=>by rw [hh3]; exact Heap.get?_push_of_some _ q
 have hf3:∀ b ∈ fp,FpOk X pins (upd H1 s.heap.objs.size (.lst [])) b:=fun b hb=>⟨by rw [Zaj (Nat.ne_of_lt (hlt b hb))]; exact (f2 b hb).1,(f2 b hb).2⟩
 have hlt3:∀ b ∈ fp,b < s3.heap.objs.size:=fun b hb=>by rw [hh3,Heap.size_push]; exact Nat.lt_succ_of_lt (hlt b hb)
 have tn3:tn 0 s3.heap:=T.keep 0 _ _ st fun b hb o q=>old3 b o q
 have old4:∀ b o,s3.heap.get? b=some o->h1.get? b=some o:=fun b o q=>by
  have hb:b ≠ s3.heap.objs.size:=Nat.ne_of_lt (Heap.lt_size q)
  rw [hh3] at hb q
  exact (hsb.2 b hb).trans (Heap.get?_push_of_some _ q)
 have tn4:tn 0 h1:=T.keep 0 _ _ tn3 fun b hb o q=>old4 b o q
 have hC:(s.heap.push { cls:=.type "list",data:=.seq ([]:List Value).toArray }).objs.size=s3.heap.objs.size:=by rw [hh3]
 rw [hC] at hns
 have J0:=Zlh (tgs:=tgs) (tk:=s.toks + ([]:List (Str × Value)).length) S I3 hf3 hlt3 hns old4
 have es:({ s3 with heap:=h1,toks:=s.toks + ([]:List (Str × Value)).length }:Shared) = { s with heap:=h1,toks:=s.toks + ([]:List (Str × Value)).length }:=by rw [<- hs3]
 rw [es] at J0
 generalize hY:compCx X scope (tgs ++ fvs) s3.heap.objs.size s3 (upd H1 s.heap.objs.size (.lst [])) fp (X.pn ++ pins)=Y at J0
 have hYp:Y.prog=X.prog:=by rw [<- hY]; rfl
 have hYw:Y.w=X.w:=by rw [<- hY]; rfl
 have hYK:Y.K=X.K:=by rw [<- hY]; rfl
 have hYA:Y.A=X.A:=by rw [<- hY]; rfl
 have hYc:Cm Y:=by rw [<- hY]; exact hc _ _ _ _ _
 have hYx:Y.xe=fun _ _=>False:=by rw [<- hY]; rfl
 have hYe:Y.env=compEnvC scope (clOf X.env scope.names []) s3.heap.objs.size X.env:=by rw [<- hY]; rfl
 have stat:∀ {H':Hp},(∀ b ∈ fp,H' b=none)->∀ b ∈ fp,FpOk Y [] H' b:=fun hn b hb=>by
  rw [<- hY]
  refine ⟨hn b hb,Nat.ne_of_lt (hlt3 b hb),fun z=>?_,.inl hb,fun x c e=>?_,fun p hp z=>?_⟩
  ·rcases List.mem_cons.mp (I3.stkSub b z) with q | q
   ·exact (hf3 b hb).2.1 q
   ·exact (hf3 b hb).2.2.1 q
  ·exact (hf3 b hb).2.2.2.2.1 x c (Zbd _ _ (fun _ _ z=>by simp at z) e)
  ·have hp:p ∈ (X.pn ++ pins) ++ []:=hp
   rw [List.append_nil] at hp
   exact (hf3 b hb).2.2.2.2.2 p hp z
 have loop:codeAny (model X.prog X.w) X.A (.compLoop (.ListComp elt [⟨tg,iter,ifs,0⟩] scope pos) 0 (.ref it) (.ref s.heap.objs.size) Y.env) (RR (.ref s.heap.objs.size) s3.heap.objs.size)
   { s with heap:=h1,toks:=s.toks + ([]:List (Str × Value)).length }:=by
  refine codeAny_loop rfl (fun n s'=>∃ i σ' H',Inv Y [] σ' H' s' /\ tn i s'.heap/\(∀ b ∈ fp,H' b=none)/\W i n σ' H') ?_ m0 ⟨0,_,_,J0,tn4,fun b hb=>(hf3 b hb).1,w0⟩
  rintro n s5 ⟨i,σ5,H5,I5,st5,fr5,w5⟩
  show wpAny _ X.A ((compTurn (.ListComp elt [⟨tg,iter,ifs,0⟩] scope pos) 0 (.ref it) (.ref s.heap.objs.size) Y.env).onRaise (fun x=>do noteFrame x Y.env; theTreesLotGoes x)) _ _ s5
  refine wpAny_noted (wpAny_mono (E:=fun _ _=>False) ?_ (fun _ _ q=>q) fun _ _ z=>z.elim)
  rw [compTurn_list]
  refine wpAny_bind (wpAny_standAt (wpAny_bind ?_))
  rcases turn i n σ5 H5 w5 with ⟨stop,qn⟩ | ⟨go,N,hN,step⟩
  ·have D:=T.done Y hYp hYw hYK hYc i [] s5 σ5 H5 (fun _ _=>False) I5 (stat fr5) st5 stop
   rw [hYA] at D
   refine thn D fun r s6 ⟨hr,I6⟩=>?_
   subst hr
   refine wpAny_pure ?_
   obtain ⟨m6,hn6,_⟩:=I6.loc
   rw [hYe] at hn6
   refine fin s6 _ _ H5 m6 hn6 (I3.fpOk (Nat.le_refl _) (by have z:=I6.free; rw [hYe] at z; exact z)) (fun h' sb=>?_) qn
   have I6':Inv (compCx X scope (tgs ++ fvs) s3.heap.objs.size s3 (upd H1 s.heap.objs.size (.lst [])) fp (X.pn ++ pins)) [] σ5 H5 s6:=by rw [hY]; exact I6
   exact Zi6 I3 hf3 I6' sb
  ·have D:=T.item Y hYp hYw hYK hYc i [] s5 σ5 H5 (fun _ _=>False) I5 (stat fr5) st5 go
   rw [hYA] at D
   refine thn D fun r s6 ⟨u,hr,h6⟩=>?_
   subst hr
   refine wpAny_bind (thn h6 fun _ s7 ⟨x,H7,I7,r7,y7,st7,fr7⟩=>?_)
   have I7':=I7.pinned (stat fr7) (T.obj _ _ st7)
   have G:=hg s3.heap.objs.size s3 (upd H1 s.heap.objs.size (.lst [])) fp (X.pn ++ pins)
   have TT:=ht s3.heap.objs.size s3 (upd H1 s.heap.objs.size (.lst [])) fp (X.pn ++ pins)
   have EE:=he s3.heap.objs.size s3 (upd H1 s.heap.objs.size (.lst [])) fp (X.pn ++ pins)
   rw [hY] at G TT EE
   have G1:=G _ s7 σ5 H7 x u _ I7' r7 (step x H7 y7)
   rw [hYp,hYw,hYA,hYx] at G1
   refine wpAny_bind (thn G1 fun _ s8 ⟨σ8,H8,I8,q8⟩=>?_)
   have T1:=TT _ s8 σ8 H8 _ I8 q8
   rw [hYp,hYw,hYA,hYx] at T1
   refine wpAny_bind (thn T1 fun ok s9 ⟨H9,I9,q9⟩=>?_)
   have again:∀ {s':Shared} {σ':St} {H':Hp},Inv Y ([] ++ pinsAt fp s7.heap) σ' H' s' -> N σ' H' -> ∃ m,m < n/\∃ i σ' H',Inv Y [] σ' H' s' /\ tn i s'.heap/\(∀ b ∈ fp,H' b=none)/\W i m σ' H':=fun {s' σ' H'} K7 n7=>by
    obtain ⟨m',hm,w7⟩:=hN σ' H' n7
    refine ⟨m',hm,i + 1,σ',H',K7.unpinned,T.keep _ _ _ st7 fun b hb o e=>(K7.pin (b,o) (List.mem_append_right _ (List.mem_append_right _ (Zcq hb e)))).1,fun b hb=>?_,w7⟩
    obtain ⟨o,e,d⟩:=T.obj _ _ st7 b hb
    exact (K7.pin (b,o) (List.mem_append_right _ (List.mem_append_right _ (Zcq hb e)))).2.1
   cases ok with
   | false=>
    have q9:N σ8 H9:=q9
    exact wpAny_pure ⟨by rw [hYe],again I9 q9⟩
   | true=>
    have q9:te σ8 H9 fun y H5=>∃ ys,H5 s.heap.objs.size=some (.lst ys)/\ys.length < sizeLine/\N σ8 (upd H5 s.heap.objs.size (.lst (ys ++ [y]))):=q9
    have E1:=EE _ s9 σ8 H9 _ I9 q9
    rw [hYp,hYw,hYA,hYx] at E1
    refine wpAny_bind (wpAny_bind (thn E1 fun v sa ⟨y,Ha,Ia,ra,ys,ea,za,na⟩=>?_))
    have M:=Zc9 (X:=Y) _ sa σ8 Ha (.ref s.heap.objs.size) [y] (.ref s.heap.objs.size) [v] (fun _ H=>N σ8 H) Ia rfl (.cons ra .nil) ⟨_,ys,y,rfl,rfl,ea,za,na⟩
    rw [hYp,hYw,hYA,hYx] at M
    refine wpAny_bind (thn M fun _ sb ⟨_,Hb,Ib,_,nb⟩=>wpAny_pure (wpAny_pure ⟨by rw [hYe],again Ib nb⟩))
 have hcs:(relabel scope X.env)=(relabel scope X.env):=rfl
 have loop':=loop
 rw [hYe] at loop'
 show codeAny (model X.prog X.w) X.A (.compStart (.ListComp elt [⟨tg,iter,ifs,0⟩] scope pos) 0 (.ref it) (.ref s.heap.objs.size) (compEnvC scope (clOf X.env scope.names []) (s.heap.push { cls:=.type "list",data:=.seq ([]:List Value).toArray }).objs.size X.env)) (RR (.ref s.heap.objs.size) (s.heap.push { cls:=.type "list",data:=.seq ([]:List Value).toArray }).objs.size) _
 rw [hC]
 exact codeAny_compStart_list loop' (T.self _ 0 _ _ _ tn4 loop')
theorem Zbp {elt tg iter:Expr} {ifs:List Expr} {scope:Scope} {pos:Pos} {fvs:List Str} {sel:List Nat} {wi:TI} {g:TG} {tc:TT} {te:TE} (tgs:List Str) (S:CompSc X.env.scope X.N scope fvs sel) (hc:X.calm=true)
  (hi:PI X tg iter wi) (hg:∀ C s H ex pn,PG (compCx X scope (tgs ++ fvs) C s H ex pn) tg g) (ht:∀ C s H ex pn,PTs (compCx X scope (tgs ++ fvs) C s H ex pn) ifs tc) (he:∀ C s H ex pn,PE (compCx X scope (tgs ++ fvs) C s H ex pn) elt te)
  (hs:∀ x,foldedSetIterable iter X.env x=pure x:=by intro _; rfl) :
  PE X (.ListComp elt [⟨tg,iter,ifs,0⟩] scope pos) (tComp tgs.length sel wi g tc te):=by
 intro pins s σ H Q I h
 rw [eval_ListComp]
 refine wpAny_comprehension_free (use:=none) rfl hs (Zcn (Zdk S I.ok)) S.kind S.names (thn (hi pins s σ H _ I h) fun v s1 h1=>thn h1 fun itv s2 h2=>?_)
 refine Zgk (Cm:=fun X=>X.calm=true) S (fun _ _ _ _ _=>hc) hg ht he (RR:=fun acc C=>compPost (model X.prog X.w) X.A X.xe none (EP X pins σ Q) acc C) (Q:=Q) h2 ?_
 intro s' C acc H' m hn _ hI q
 exact ⟨m,hn,fun h' sb=>⟨.ref acc,H',hI h' sb,rfl,q⟩⟩
theorem Zkq {elt tg iter:Expr} {ifs:List Expr} {scope:Scope} {pos spos py:Pos} {fvs:List Str} {sel:List Nat} {wi:TI} {g:TG} {tc:TT} {te:TE} {i:Nat} {y:Str} (tgs:List Str) (S:CompSc X.env.scope X.N scope fvs sel) (hc:X.calm=true)
  (hN:X.N.Nodup) (hiy:X.N[i]? = some y) (hx:Loc X.env.scope y)
  (hi:PI X tg iter wi) (hg:∀ C s H ex pn,PG (compCx X scope (tgs ++ fvs) C s H ex pn) tg g) (ht:∀ C s H ex pn,PTs (compCx X scope (tgs ++ fvs) C s H ex pn) ifs tc) (he:∀ C s H ex pn,PE (compCx X scope (tgs ++ fvs) C s H ex pn) elt te)
  (hs:∀ x,foldedSetIterable iter X.env x=pure x:=by intro _; rfl) (hsw:swapsWith (.ListComp elt [⟨tg,iter,ifs,0⟩] scope pos) (some (.Name y py)) spos.line X.env=pure true:=by rfl)
  (hf:X.fn y=true\/X.env.scope.names.lookup y=some .local:=by first | exact .inl rfl | exact .inr rfl | assumption) :
  PS X (.Assign [.Name y py] (.ListComp elt [⟨tg,iter,ifs,0⟩] scope pos) spos) (tAsg (tComp tgs.length sel wi g tc te) (gName i)):=by
 intro pins s σ H D I h
 rw [exec_Assign_Name_used _ _ _ _ hsw]
 refine wpAny_bind (wpAny_standAt (wpAny_bind ?_))
 show wpAny _ X.A (do let _ ← comprehension (.ListComp elt [⟨tg,iter,ifs,0⟩] scope pos) scope X.env _ (newList []) false (eval iter X.env) (some (assign (.Name y py) X.env))) _ _ s
 refine wpAny_bind (wpAny_mono (wpAny_comprehension_free (use:=some (assign (.Name y py) X.env)) (Q:=fun _ s'=>SP X pins D .next s') rfl hs (Zcn (Zdk S I.ok)) S.kind S.names
  (thn (hi pins s σ H _ I h) fun v s1 h1=>thn h1 fun itv s2 h2=>?_)) (fun _ s' hq=>wpAny_pure (wpAny_pure hq)) fun _ _ e=>e)
 refine Zgk (Cm:=fun X=>X.calm=true) S (fun _ _ _ _ _=>hc) hg ht he (RR:=fun acc C=>compPost (model X.prog X.w) X.A X.xe (some (assign (.Name y py) X.env)) (fun _ s'=>SP X pins D .next s') acc C) (Q:=fun v H'=>D.nx (σ.set i (some v)) H') h2 ?_
 intro s' C acc H' m hn fp hI q
 have I0:Inv X pins σ H' s':=hI s'.heap (.refl ..)
 show wpAny _ X.A (assign (.Name y py) X.env (.ref acc)) _ _ _
 refine wpAny_assign_Name (Zgh (v:=.ref acc) I0 hN hiy hx rfl (fun s2 I2 hsb=>?_) hf)
 obtain ⟨a,sb,ha⟩:=hsb
 have hCa:C ≠ a:=by
  rcases ha with z | z
  ·rw [z]; exact fp.2.1
  ·exact Ne.symm (fp.2.2.2.2.1 y a z)
 refine ⟨m,hn.sameBut sb hCa,fun h' sb'=>?_⟩
 obtain ⟨f0,f1,f2,f3,f4,f5⟩:=fp
 exact ⟨_,H',I2.turned (t':=s2.toks) (it:=C) (fun b o hb e=>(sb'.2 b hb).trans e) f0 f1 f3 f4 f5,q⟩
end
end L2
set_option Elab.async false
set_option linter.all false
set_option maxRecDepth 100000
namespace L2
open PySem PySem.Spec PyProof.Rows
def InsC (a C:Addr) (h:Heap):Prop:=∃ ox vs,h.get? a=some ox/\ox.cls=.ref C/\ox.data=.fields vs/\vs[2]? = some .none
inductive D where
 | non | bl (b:Bool) | int (i:Int) | str (x:Str) | ty (n:String) | tup (ds:List D) | lst (ds:List D) | scr (ds:List D) | adr (a:Addr) | dct (ks:List Key) (ds:List D) | exc (a C:Addr)
mutual
inductive Rep (K:PySem.W.Frag) (G:Hp):V->D->Prop
 | non:Rep K G .non .non
 | bl (b:Bool):Rep K G (.bl b) (.bl b)
 | int (i:Int):Rep K G (.int i) (.int i)
 | str (x:Str):Rep K G (.str x) (.str x)
 | ty (n:String):Rep K G (.ty n) (.ty n)
 | tup {a:Addr} {vs:List V} {ds:List D}:G a=some (.tup vs)->Reps K G vs ds->Rep K G (.ref a) (.tup ds)
 | lst {a:Addr} {vs:List V} {ds:List D}:G a=some (.lst vs)->Reps K G vs ds->Rep K G (.ref a) (.lst ds)
 | scr {a:Addr} {vs:List V} {ds:List D}:SqL K G a vs->Reps K G vs ds->Rep K G (.ref a) (.scr ds)
 | adr (a:Addr):Rep K G (.ref a) (.adr a)
 | dct {a:Addr} {ks:List Key} {vs:List V} {ds:List D}:G a=some (.dK (ks.zip vs))->ks.length=vs.length->Reps K G vs ds->Rep K G (.ref a) (.dct ks ds)
 | exc {a C:Addr}:G a=some (.ext (InsC a C))->Rep K G (.ref a) (.exc a C)
inductive Reps (K:PySem.W.Frag) (G:Hp):List V->List D->Prop
 | nil:Reps K G [] []
 | cons {v:V} {d:D} {vs:List V} {ds:List D}:Rep K G v d->Reps K G vs ds->Reps K G (v :: vs) (d :: ds)
end
def RepI (K:PySem.W.Frag) (G:Hp) (v:V):D->Prop
 | .non=>v=.non
 | .bl b=>v=.bl b
 | .int i=>v=.int i
 | .str x=>v=.str x
 | .ty n=>v=.ty n
 | .tup ds=>∃ a vs,v=.ref a/\G a=some (.tup vs)/\Reps K G vs ds
 | .lst ds=>∃ a vs,v=.ref a/\G a=some (.lst vs)/\Reps K G vs ds
 | .scr ds=>∃ a vs,v=.ref a/\SqL K G a vs/\Reps K G vs ds
 | .adr a=>v=.ref a
 | .dct ks ds=>∃ a vs,v=.ref a/\G a=some (.dK (ks.zip vs))/\ks.length=vs.length/\Reps K G vs ds
 | .exc a C=>v=.ref a/\G a=some (.ext (InsC a C))
theorem Rep.inv {K:PySem.W.Frag} {G:Hp} {v:V} {d:D} (r:Rep K G v d):RepI K G v d:=by
 cases r with
 | tup h r=>exact ⟨_,_,rfl,h,r⟩
 | lst h r=>exact ⟨_,_,rfl,h,r⟩
 | scr h r=>exact ⟨_,_,rfl,h,r⟩
 | dct h l r=>exact ⟨_,_,rfl,h,l,r⟩
 | exc h=>exact ⟨rfl,h⟩
 | _=>rfl
def RepsI (K:PySem.W.Frag) (G:Hp) (vs:List V):List D->Prop
 | []=>vs=[]
 | d :: ds=>∃ v ws,vs=v :: ws/\Rep K G v d/\Reps K G ws ds
theorem Reps.inv {K:PySem.W.Frag} {G:Hp} {vs:List V} {ds:List D} (r:Reps K G vs ds):RepsI K G vs ds:=by
 cases r with
 | nil=>rfl
 | cons a b=>exact ⟨_,_,rfl,a,b⟩
section
variable {K:PySem.W.Frag} {G G' H H':Hp}
mutual
theorem Rep.mono (s:Same G G'):∀ {v:V} {d:D},Rep K G v d->Rep K G' v d
 | _,_,.non=>.non
 | _,_,.bl b=>.bl b
 | _,_,.int i=>.int i
 | _,_,.str x=>.str x
 | _,_,.ty n=>.ty n
 | _,_,.tup h r=>.tup (s _ _ h) (Reps.mono s r)
 | _,_,.lst h r=>.lst (s _ _ h) (Reps.mono s r)
 | _,_,.scr h r=>.scr (s.seq h) (Reps.mono s r)
 | _,_,.adr a=>.adr a
 | _,_,.dct h l r=>.dct (s _ _ h) l (Reps.mono s r)
 | _,_,.exc h=>.exc (s _ _ h)
theorem Reps.mono (s:Same G G'):∀ {vs:List V} {ds:List D},Reps K G vs ds->Reps K G' vs ds
 | _,_,.nil=>.nil
 | _,_,.cons h r=>.cons (Rep.mono s h) (Reps.mono s r)
end
theorem Reps.length:∀ {vs:List V} {ds:List D},Reps K G vs ds->vs.length=ds.length
 | _,_,.nil=>rfl
 | _,_,.cons _ r=>by rw [List.length_cons,List.length_cons,r.length]
theorem Reps.get:∀ {vs:List V} {ds:List D} {i:Nat} {d:D},Reps K G vs ds->ds[i]? = some d->∃ v,vs[i]? = some v/\Rep K G v d
 | _,_,_,_,.nil,e=>by simp at e
 | _,_,0,_,.cons r _,e=>by simp at e; subst e; exact ⟨_,rfl,r⟩
 | _,_,i + 1,d,.cons _ t,e=>by
  obtain ⟨u,h1,h2⟩:=Reps.get (i:=i) (d:=d) t (by simpa using e)
  exact ⟨u,by simpa using h1,h2⟩
theorem Reps.append:∀ {vs ws:List V} {ds es:List D},Reps K G vs ds->Reps K G ws es->Reps K G (vs ++ ws) (ds ++ es)
 | _,_,_,_,.nil,s=>s
 | _,_,_,_,.cons r t,s=>.cons r (Reps.append t s)
theorem Reps.take:∀ {vs:List V} {ds:List D} (n:Nat),Reps K G vs ds->Reps K G (vs.take n) (ds.take n)
 | _,_,0,_=>.nil
 | _,_,_ + 1,.nil=>.nil
 | _,_,n + 1,.cons r t=>.cons r (Reps.take n t)
theorem Reps.drop:∀ {vs:List V} {ds:List D} (n:Nat),Reps K G vs ds->Reps K G (vs.drop n) (ds.drop n)
 | _,_,0,r=>r
 | _,_,_ + 1,.nil=>.nil
 | _,_,n + 1,.cons _ t=>Reps.drop n t
theorem Reps.reverse {vs:List V} {ds:List D} (h:Reps K G vs ds):Reps K G vs.reverse ds.reverse:=by
 induction vs generalizing ds with
 | nil=>cases h; exact .nil
 | cons v vs ih=>
  cases h with
  | cons r t=>rw [List.reverse_cons,List.reverse_cons]; exact (ih t).append (.cons r .nil)
theorem Reps.set:∀ {vs:List V} {ds:List D} {v:V} {d:D} (i:Nat),Reps K G vs ds->Rep K G v d->Reps K G (vs.set i v) (ds.set i d)
 | _,_,_,_,_,.nil,_=>.nil
 | _,_,_,_,0,.cons _ t,q=>.cons q t
 | _,_,_,_,i + 1,.cons r t,q=>.cons r (Reps.set i t q)
theorem Reps.eraseIdx:∀ {vs:List V} {ds:List D} (i:Nat),Reps K G vs ds->Reps K G (vs.eraseIdx i) (ds.eraseIdx i)
 | _,_,_,.nil=>.nil
 | _,_,0,.cons _ t=>t
 | _,_,i + 1,.cons r t=>.cons r (Reps.eraseIdx i t)
theorem Reps.ints {vs:List V}:∀ {ns:List Int},Reps K G vs (ns.map D.int)->vs=ns.map V.int:=by
 induction vs with
 | nil=>intro ns h; cases ns with
  | nil=>rfl
  | cons n ns=>cases h
 | cons v vs ih=>intro ns h; cases ns with
  | nil=>cases h
  | cons n ns=>
   cases h with
   | cons r t=>cases r.inv; rw [ih t]; rfl
theorem Reps.ofInts:∀ (ns:List Int),Reps K G (ns.map V.int) (ns.map D.int)
 | []=>.nil
 | n :: ns=>.cons (.int n) (Reps.ofInts ns)
theorem Zfk {vs:List V} {ds:List D} {i:Int} {d:D} (r:Reps K G vs ds) (h:atI ds i=some d):∃ v,atI vs i=some v/\Rep K G v d:=by
 unfold atI at h ⊢
 rw [<- r.length] at h
 cases e:ixN vs.length i with
 | none=>rw [e] at h; cases h
 | some j=>rw [e] at h; exact r.get h
end
inductive OD where
 | lst (ds:List D) | dct (kvs:List (Key × D)) | set (S:Int->Bool) (n:Nat) | dtt (kvs:List (List Key × D))
def OwnRep (K:PySem.W.Frag) (G:Hp):HO->OD->Prop
 | .lst vs,.lst ds=>Reps K G vs ds
 | .dK kvs,.dct kds=>Paired (fun (p:Key × V) (q:Key × D)=>p.1=q.1/\Rep K G p.2 q.2) kvs kds
 | .set S n,.set S' n'=>S=S' /\ n=n'
 | .dT kvs,.dtt kds=>Paired (fun (p:List Key × V) (q:List Key × D)=>p.1=q.1/\Rep K G p.2 q.2) kvs kds
 | _,_=>False
theorem OwnRep.mono {K:PySem.W.Frag} {G G':Hp} (s:Same G G') {o:HO} {od:OD} (h:OwnRep K G o od):OwnRep K G' o od:=by
 cases o <;> cases od <;> first
  | exact h.elim
  | exact Reps.mono s h
  | exact Paired.mapP h fun _ _ z=>⟨z.1,z.2.mono s⟩
  | exact h
inductive Slot where
 | any | val (d:D) | own (o:OD) | bor (o:OD) | ownA (a:Addr) (o:OD)
abbrev Evt:=List Slot
def Slot.od:Slot->Option OD
 | .own o=>some o
 | .bor o=>some o
 | .ownA _ o=>some o
 | _=>none
structure Gm where
 B:Addr->Prop
 F:Hp
 Hz:Hp
 Xo:Hp
def SlotAt (g:Gm) (x:Slot) (a:Addr):Prop:=match x with
 | .own _=>g.Hz a=none
 | .bor _=>g.B a
 | .ownA b _=>b=a/\g.Hz a=none
 | _=>True
structure Ok (K:PySem.W.Frag) (g:Gm) (G H:Hp) (σ:St) (Δ:Evt):Prop where
 same:∀ b o,¬ g.B b->g.Hz b=some o->H b=some o
 lent:∀ b,g.B b->H b ≠ none
 sub:Same g.F G
 frz:∀ b o,G b=some o->H b=some o/\(g.Hz b=none\/g.F b=some o)
 ext:∀ b o,g.Xo b=some o->H b=some o/\G b=none/\∀ (i:Nat) x od,Δ[i]? = some x->x.od=some od -> σ[i]? ≠ some (some (.ref b))
 len:Δ.length = σ.length
 val:∀ (i:Nat) d,Δ[i]? = some (.val d)->∃ v,σ[i]? = some (some v)/\Rep K G v d
 own:∀ (i:Nat) x od,Δ[i]? = some x->x.od=some od->∃ a o,σ[i]? = some (some (.ref a))/\H a=some o/\OwnRep K G o od/\G a=none/\SlotAt g x a
 dis:∀ (i j:Nat) x y od od' a,Δ[i]? = some x->x.od=some od -> Δ[j]? = some y->y.od=some od' -> σ[i]? = some (some (.ref a)) -> σ[j]? = some (some (.ref a))->i=j
section
variable {K:PySem.W.Frag} {g:Gm} {G H G' H':Hp} {σ:St} {Δ:Evt}
theorem Ok.live (k:Ok K g G H σ Δ):Same G H:=fun b o e=>(k.frz b o e).1
theorem Ok.there (k:Ok K g G H σ Δ) {b:Addr} (h:H b=none):g.Hz b=none:=by
 cases e:g.Hz b with
 | none=>rfl
 | some o=>
  by_cases hb:g.B b
  ·exact absurd h (k.lent b hb)
  ·have:=k.same b o hb e
   rw [h] at this; cases this
theorem Ok.grow (k:Ok K g G H σ Δ) (sg:Same G G') (sh:Same H H') (hg:∀ b o,G' b=some o->H' b=some o/\(G b=some o\/H b=none)):Ok K g G' H' σ Δ where
 same:=fun b o hb e=>sh b o (k.same b o hb e)
 lent:=fun b hb z=>by
  cases e:H b with
  | none=>exact k.lent b hb e
  | some o=>rw [sh b o e] at z; cases z
 sub:=k.sub.trans sg
 frz:=fun b o e=>by
  obtain ⟨h1,h2⟩:=hg b o e
  refine ⟨h1,?_⟩
  rcases h2 with z | z
  ·exact (k.frz b o z).2
  ·exact .inl (k.there z)
 ext:=fun b o e=>by
  obtain ⟨h1,h2,h3⟩:=k.ext b o e
  refine ⟨sh b o h1,?_,h3⟩
  cases q:G' b with
  | none=>rfl
  | some o'=>
   rcases (hg b o' q).2 with z | z
   ·rw [h2] at z; cases z
   ·rw [h1] at z; cases z
 len:=k.len
 val:=fun i d e=>by
  obtain ⟨v,h1,h2⟩:=k.val i d e
  exact ⟨v,h1,h2.mono sg⟩
 own:=fun i x od e1 e2=>by
  obtain ⟨a,o,h1,h2,h3,h4,h5⟩:=k.own i x od e1 e2
  refine ⟨a,o,h1,sh a o h2,h3.mono sg,?_,h5⟩
  cases q:G' a with
  | none=>rfl
  | some o'=>
   rcases (hg a o' q).2 with z | z
   ·rw [h4] at z; cases z
   ·rw [h2] at z; cases z
 dis:=k.dis
theorem Ok.laid (k:Ok K g G H σ Δ) {p:Addr} (hp:H p=none) (o:HO):Ok K g (upd G p o) (upd H p o) σ Δ /\ Same G (upd G p o):=by
 have hG:G p=none:=by
  cases e:G p with
  | none=>rfl
  | some u=>rw [k.live p u e] at hp; cases hp
 have sg:Same G (upd G p o):=fun b u e=>by rw [Zaj (Zak e hG)]; exact e
 refine ⟨k.grow sg (fun b u e=>by rw [Zaj (Zak e hp)]; exact e) fun b u e=>?_,sg⟩
 by_cases hb:b=p
 ·subst hb; rw [Zam] at e ⊢; exact ⟨e,.inr hp⟩
 ·rw [Zaj hb] at e ⊢; exact ⟨k.live b u e,.inl e⟩
theorem Ok.lt (k:Ok K g G H σ Δ) {i:Nat} {x:Slot} (h:Δ[i]? = some x):i < σ.length:=by
 rw [<- k.len]; exact (List.getElem?_eq_some_iff.mp h).1
def Pend (K:PySem.W.Frag) (g:Gm) (G H:Hp) (σ:St) (Δ:Evt) (a:Addr) (od:OD):Prop:=
 ∃ o,H a=some o/\OwnRep K G o od/\G a=none/\g.Hz a=none/\g.Xo a=none/\∀ (i:Nat) x od',Δ[i]? = some x->x.od=some od' -> σ[i]? ≠ some (some (.ref a))
theorem Ok.setVal (k:Ok K g G H σ Δ) {v:V} {d:D} {i:Nat} (hi:i < Δ.length) (r:Rep K G v d):Ok K g G H (σ.set i (some v)) (Δ.set i (.val d)):=by
 have hs:i < σ.length:=by rw [<- k.len]; exact hi
 have old:∀ (j:Nat) x od,(Δ.set i (.val d))[j]? = some x->x.od=some od->j ≠ i /\ Δ[j]? = some x/\(σ.set i (some v))[j]? = σ[j]?:=fun j x od e1 e2=>by
  by_cases hj:j=i
  ·subst hj
   rw [List.getElem?_set_self hi] at e1
   cases e1; cases e2
  ·rw [List.getElem?_set_ne (Ne.symm hj)] at e1
   exact ⟨hj,e1,List.getElem?_set_ne (Ne.symm hj)⟩
 refine ⟨k.same,k.lent,k.sub,k.frz,fun b o e=>?_,by simp [k.len],fun j e h=>?_,fun j x od e1 e2=>?_,fun j l x y od od' a e1 e2 e3 e4 e5 e6=>?_⟩
 ·obtain ⟨h1,h2,h3⟩:=k.ext b o e
  refine ⟨h1,h2,fun j x od e1 e2=>?_⟩
  obtain ⟨_,q1,q2⟩:=old j x od e1 e2
  rw [q2]; exact h3 j x od q1 e2
 ·by_cases hj:j=i
  ·subst hj
   rw [List.getElem?_set_self hi] at h
   cases h
   exact ⟨v,List.getElem?_set_self hs,r⟩
  ·rw [List.getElem?_set_ne (Ne.symm hj)] at h ⊢
   exact k.val j e h
 ·obtain ⟨_,q1,q2⟩:=old j x od e1 e2
  rw [q2]; exact k.own j x od q1 e2
 ·obtain ⟨_,q1,q2⟩:=old j x od e1 e2
  obtain ⟨_,q3,q4⟩:=old l y od' e3 e4
  rw [q2] at e5; rw [q4] at e6
  exact k.dis j l x y od od' a q1 e2 q3 e4 e5 e6
theorem Ok.setOwn (k:Ok K g G H σ Δ) {a:Addr} {od:OD} {i:Nat} (hi:i < Δ.length) (p:Pend K g G H σ Δ a od):Ok K g G H (σ.set i (some (.ref a))) (Δ.set i (.own od)):=by
 obtain ⟨o,p1,p2,p3,p4,p5,p6⟩:=p
 have hs:i < σ.length:=by rw [<- k.len]; exact hi
 have old:∀ (j:Nat) x,j ≠ i->(Δ.set i (.own od))[j]? = some x -> Δ[j]? = some x/\(σ.set i (some (.ref a)))[j]? = σ[j]?:=fun j x hj e1=>by
  rw [List.getElem?_set_ne (Ne.symm hj)] at e1
  exact ⟨e1,List.getElem?_set_ne (Ne.symm hj)⟩
 refine ⟨k.same,k.lent,k.sub,k.frz,fun b ob e=>?_,by simp [k.len],fun j e h=>?_,fun j x od' e1 e2=>?_,fun j l x y od1 od2 c e1 e2 e3 e4 e5 e6=>?_⟩
 ·obtain ⟨h1,h2,h3⟩:=k.ext b ob e
  refine ⟨h1,h2,fun j x od' e1 e2=>?_⟩
  by_cases hj:j=i
  ·subst hj
   rw [List.getElem?_set_self hs]
   intro z
   cases z
   rw [p5] at e; cases e
  ·obtain ⟨q1,q2⟩:=old j x hj e1
   rw [q2]; exact h3 j x od' q1 e2
 ·by_cases hj:j=i
  ·subst hj
   rw [List.getElem?_set_self hi] at h
   cases h
  ·rw [List.getElem?_set_ne (Ne.symm hj)] at h ⊢
   exact k.val j e h
 ·by_cases hj:j=i
  ·subst hj
   rw [List.getElem?_set_self hi] at e1
   cases e1
   cases e2
   exact ⟨a,o,List.getElem?_set_self hs,p1,p2,p3,p4⟩
  ·obtain ⟨q1,q2⟩:=old j x hj e1
   rw [q2]; exact k.own j x od' q1 e2
 ·by_cases hj:j=i
  ·by_cases hl:l=i
   ·rw [hj,hl]
   ·obtain ⟨q3,q4⟩:=old l y hl e3
    rw [q4] at e6
    rw [hj,List.getElem?_set_self hs] at e5
    cases e5
    exact absurd e6 (p6 l y od2 q3 e4)
  ·obtain ⟨q1,q2⟩:=old j x hj e1
   rw [q2] at e5
   by_cases hl:l=i
   ·rw [hl,List.getElem?_set_self hs] at e6
    cases e6
    exact absurd e5 (p6 j x od1 q1 e2)
   ·obtain ⟨q3,q4⟩:=old l y hl e3
    rw [q4] at e6
    exact k.dis j l x y od1 od2 c q1 e2 q3 e4 e5 e6
def Slot.put:Slot->OD->Slot
 | .own _,o=>.own o
 | .bor _,o=>.bor o
 | .ownA a _,o=>.ownA a o
 | x,_=>x
theorem SlotAt.put {g:Gm} {x:Slot} {a:Addr} {o:OD} (h:SlotAt g x a):SlotAt g (x.put o) a:=by cases x <;> exact h
theorem SlotAt.free {g:Gm} {x:Slot} {a:Addr} {od:OD} (h:SlotAt g x a) (ho:x.od=some od):g.Hz a=none\/g.B a:=by
 cases x with
 | any=>cases ho
 | val d=>cases ho
 | own o=>exact .inl h
 | bor o=>exact .inr h
 | ownA b o=>exact .inl h.2
theorem Slot.put_od {x:Slot} {od o:OD} (h:x.od=some od):(x.put o).od=some o:=by cases x <;> cases h <;> rfl
theorem Ok.write (k:Ok K g G H σ Δ) {a:Addr} {od od':OD} {x:Slot} {i:Nat} {o':HO} (hx:Δ[i]? = some x) (hod:x.od=some od) (ha:σ[i]? = some (some (.ref a))) (r:OwnRep K G o' od'):Ok K g G (upd H a o') σ (Δ.set i (x.put od')):=by
 obtain ⟨a',o,q1,q2,q3,q4,q5⟩:=k.own i x od hx hod
 rw [ha] at q1; cases q1
 have hi:i < Δ.length:=(List.getElem?_eq_some_iff.mp hx).1
 have other:∀ (j:Nat) y od2,(Δ.set i (x.put od'))[j]? = some y->y.od=some od2->j ≠ i -> Δ[j]? = some y:=fun j y od2 e1 e2 hj=>by
  rw [List.getElem?_set_ne (Ne.symm hj)] at e1; exact e1
 have anyOd:∀ (j:Nat) y od2,(Δ.set i (x.put od'))[j]? = some y->y.od=some od2->∃ y' od3,Δ[j]? = some y' /\ y'.od=some od3:=fun j y od2 e1 e2=>by
  by_cases hj:j=i
  ·subst hj; exact ⟨x,od,hx,hod⟩
  ·exact ⟨y,od2,other j y od2 e1 e2 hj,e2⟩
 refine ⟨fun b u hb e=>?_,fun b hb=>?_,k.sub,fun b u e=>?_,fun b u e=>?_,by simp [k.len],fun j e h=>?_,fun j y od2 e1 e2=>?_,fun j l y z od1 od2 c e1 e2 e3 e4 e5 e6=>?_⟩
 ·have hba:b ≠ a:=by
   intro z; subst z
   rcases q5.free hod with z | z
   ·rw [z] at e; cases e
   ·exact hb z
  rw [Zaj hba]; exact k.same b u hb e
 ·by_cases hba:b=a
  ·subst hba; rw [Zam]; intro z; cases z
  ·rw [Zaj hba]; exact k.lent b hb
 ·have hba:b ≠ a:=by intro z; subst z; rw [q4] at e; cases e
  rw [Zaj hba]; exact k.frz b u e
 ·obtain ⟨h1,h2,h3⟩:=k.ext b u e
  have hba:b ≠ a:=by intro z; subst z; exact h3 i x od hx hod ha
  rw [Zaj hba]
  refine ⟨h1,h2,fun j y od2 e1 e2=>?_⟩
  obtain ⟨y',od3,z1,z2⟩:=anyOd j y od2 e1 e2
  exact h3 j y' od3 z1 z2
 ·by_cases hj:j=i
  ·subst hj
   rw [List.getElem?_set_self hi] at h
   cases x <;> cases hod <;> cases h
  ·rw [List.getElem?_set_ne (Ne.symm hj)] at h
   exact k.val j e h
 ·by_cases hj:j=i
  ·subst hj
   rw [List.getElem?_set_self hi] at e1
   cases e1
   rw [Slot.put_od hod] at e2; cases e2
   exact ⟨a,o',ha,Zam,r,q4,q5.put⟩
  ·have e1':=other j y od2 e1 e2 hj
   obtain ⟨c,oc,w1,w2,w3,w4,w5⟩:=k.own j y od2 e1' e2
   have hca:c ≠ a:=by
    intro z; subst z
    exact hj (k.dis j i y x od2 od c e1' e2 hx hod w1 ha)
   exact ⟨c,oc,w1,by rw [Zaj hca]; exact w2,w3,w4,w5⟩
 ·obtain ⟨y',od3,z1,z2⟩:=anyOd j y od1 e1 e2
  obtain ⟨y'',od4,z3,z4⟩:=anyOd l z od2 e3 e4
  exact k.dis j l y' y'' od3 od4 c z1 z2 z3 z4 e5 e6
theorem Ok.freeze (k:Ok K g G H σ Δ) {a:Addr} {ds:List D} {vs:List V} (p:Pend K g G H σ Δ a (.lst ds)) (hv:H a=some (.lst vs)):Ok K g (upd G a (.lst vs)) H σ Δ /\ Same G (upd G a (.lst vs))/\Rep K (upd G a (.lst vs)) (.ref a) (.lst ds):=by
 obtain ⟨o,p1,p2,p3,p4,p5,p6⟩:=p
 rw [hv] at p1; cases p1
 have p2:Reps K G vs ds:=p2
 have sg:Same G (upd G a (.lst vs)):=fun b u e=>by rw [Zaj (Zak e p3)]; exact e
 refine ⟨⟨k.same,k.lent,k.sub.trans sg,fun b u e=>?_,fun b u e=>?_,k.len,fun j d h=>?_,fun j x od e1 e2=>?_,k.dis⟩,sg,.lst Zam (p2.mono sg)⟩
 ·by_cases hb:b=a
  ·subst hb; rw [Zam] at e; cases e; exact ⟨hv,.inl p4⟩
  ·rw [Zaj hb] at e; exact k.frz b u e
 ·obtain ⟨h1,h2,h3⟩:=k.ext b u e
  have hb:b ≠ a:=by intro z; subst z; rw [p5] at e; cases e
  exact ⟨h1,by rw [Zaj hb]; exact h2,h3⟩
 ·obtain ⟨v,h1,h2⟩:=k.val j d h
  exact ⟨v,h1,h2.mono sg⟩
 ·obtain ⟨c,o,w1,w2,w3,w4,w5⟩:=k.own j x od e1 e2
  have hc:c ≠ a:=by intro z; subst z; exact p6 j x od e1 e2 w1
  exact ⟨c,o,w1,w2,w3.mono sg,by rw [Zaj hc]; exact w4,w5⟩
theorem Ok.drop (k:Ok K g G H σ Δ) (i:Nat):Ok K g G H σ (Δ.set i .any):=by
 have old:∀ (j:Nat) x,(Δ.set i .any)[j]? = some x->x=.any\/(Δ[j]? = some x/\j ≠ i):=fun j x e1=>by
  by_cases hj:j=i
  ·subst hj
   rw [List.getElem?_set] at e1
   simp at e1
   exact .inl e1.2.symm
  ·rw [List.getElem?_set_ne (Ne.symm hj)] at e1
   exact .inr ⟨e1,hj⟩
 have oldO:∀ (j:Nat) x od,(Δ.set i .any)[j]? = some x->x.od=some od -> Δ[j]? = some x:=fun j x od e1 e2=>by
  rcases old j x e1 with z | z
  ·subst z; cases e2
  ·exact z.1
 refine ⟨k.same,k.lent,k.sub,k.frz,fun b o e=>?_,by simp [k.len],fun j e h=>?_,fun j x od e1 e2=>k.own j x od (oldO j x od e1 e2) e2,fun j l x y od od' a e1 e2 e3 e4=>k.dis j l x y od od' a (oldO j x od e1 e2) e2 (oldO l y od' e3 e4) e4⟩
 ·obtain ⟨h1,h2,h3⟩:=k.ext b o e
  exact ⟨h1,h2,fun j x od e1 e2=>h3 j x od (oldO j x od e1 e2) e2⟩
 ·rcases old j _ h with z | z
  ·cases z
  ·exact k.val j e z.1
theorem Ok.take (k:Ok K g G H σ Δ) {i:Nat} {od:OD} (h:Δ[i]? = some (.own od)):∃ a,σ[i]? = some (some (.ref a))/\Pend K g G H σ (Δ.set i .any) a od:=by
 obtain ⟨a,o,h1,h2,h3,h4,h5⟩:=k.own i _ od h rfl
 have h5:g.Hz a=none:=h5
 refine ⟨a,h1,o,h2,h3,h4,h5,?_,fun j x od' e1 e2 e3=>?_⟩
 ·cases q:g.Xo a with
  | none=>rfl
  | some u=>exact absurd h1 ((k.ext a u q).2.2 i _ od h rfl)
 ·by_cases hj:j=i
  ·subst hj
   rw [List.getElem?_set] at e1
   simp at e1
   obtain ⟨_,e1⟩:=e1
   subst e1
   cases e2
  ·rw [List.getElem?_set_ne (Ne.symm hj)] at e1
   exact hj (k.dis j i x _ od' od a e1 e2 h rfl e3 h1)
end
end L2
set_option Elab.async false
set_option linter.all false
set_option maxRecDepth 100000
namespace L2
open PySem PySem.Spec PyProof.Rows
def Cont (K:PySem.W.Frag) (g:Gm) (G:Hp) (σ:St) (P:D->Evt->Prop) (Q:VK):Prop:=
 ∀ v d G' H' Δ',Ok K g G' H' σ Δ' -> Same G G' -> Rep K G' v d->P d Δ' -> Q v H'
def JE (K:PySem.W.Frag) (t:TE) (Δ:Evt) (P:D->Evt->Prop):Prop:=
 ∀ g G H σ Q,Ok K g G H σ Δ -> Cont K g G σ P Q->t σ H Q
def JT (K:PySem.W.Frag) (t:TT) (Δ:Evt) (P:Bool->Evt->Prop):Prop:=
 ∀ g G H σ Q,Ok K g G H σ Δ -> (∀ b G' H' Δ',Ok K g G' H' σ Δ' -> Same G G' -> P b Δ' -> Q b H')->t σ H Q
def JA (K:PySem.W.Frag) (t:TA) (Δ:Evt) (P:List D->Evt->Prop):Prop:=
 ∀ g G H σ Q,Ok K g G H σ Δ -> (∀ vs ds G' H' Δ',Ok K g G' H' σ Δ' -> Same G G' -> Reps K G' vs ds->P ds Δ' -> Q vs H')->t σ H Q
def JO (K:PySem.W.Frag) (t:TE) (Δ:Evt) (P:OD->Evt->Prop):Prop:=
 ∀ g G H σ Q,Ok K g G H σ Δ -> (∀ a od G' H' Δ',Ok K g G' H' σ Δ' -> Same G G' -> Pend K g G' H' σ Δ' a od->P od Δ' -> Q (.ref a) H')->t σ H Q
def JR2 (K:PySem.W.Frag) (r:R2) (d e:D) (Δ:Evt) (P:D->Evt->Prop):Prop:=
 ∀ g G H σ Q x y,Ok K g G H σ Δ -> Rep K G x d->Rep K G y e->Cont K g G σ P Q->r x y H Q
def JR1 (K:PySem.W.Frag) (r:V->Hp->VK->Prop) (d:D) (Δ:Evt) (P:D->Evt->Prop):Prop:=
 ∀ g G H σ Q x,Ok K g G H σ Δ -> Rep K G x d->Cont K g G σ P Q->r x H Q
def JC (K:PySem.W.Frag) (r:List V->Hp->VK->Prop) (ds:List D) (Δ:Evt) (P:D->Evt->Prop):Prop:=
 ∀ g G H σ Q vs,Ok K g G H σ Δ -> Reps K G vs ds->Cont K g G σ P Q->r vs H Q
structure Pst where
 nx:Evt->Prop
 rt:D->Evt->Prop
 bk:Evt->Prop:=fun _=>False
 ct:Evt->Prop:=fun _=>False
 ro:OD->Evt->Prop:=fun _ _=>False
structure SCont (K:PySem.W.Frag) (g:Gm) (P:Pst) (E:Ends):Prop where
 nx:∀ σ G H Δ,Ok K g G H σ Δ -> P.nx Δ -> E.nx σ H
 rt:∀ v d σ G H Δ,Ok K g G H σ Δ -> Rep K G v d->P.rt d Δ -> E.rt v H
 bk:∀ σ G H Δ,Ok K g G H σ Δ -> P.bk Δ -> E.bk σ H
 ct:∀ σ G H Δ,Ok K g G H σ Δ -> P.ct Δ -> E.ct σ H
 ro:∀ a od σ G H Δ,Ok K g G H σ Δ -> Pend K g G H σ Δ a od->P.ro od Δ -> E.rt (.ref a) H
def JS (K:PySem.W.Frag) (t:TS) (Δ:Evt) (P:Pst):Prop:=
 ∀ g G H σ E,Ok K g G H σ Δ -> SCont K g P E->t E σ H
def JG (K:PySem.W.Frag) (t:TG) (d:D) (Δ:Evt) (P:Evt->Prop):Prop:=
 ∀ g G H σ v (R:St->Hp->Prop),Ok K g G H σ Δ -> Rep K G v d->(∀ σ' G' H' Δ',Ok K g G' H' σ' Δ' -> Same G G' -> P Δ' -> R σ' H')->t v σ H R
def JGs (K:PySem.W.Frag) (t:TGs) (ds:List D) (Δ:Evt) (P:Evt->Prop):Prop:=
 ∀ g G H σ vs (R:St->Hp->Prop),Ok K g G H σ Δ -> Reps K G vs ds->(∀ σ' G' H' Δ',Ok K g G' H' σ' Δ' -> Same G G' -> P Δ' -> R σ' H')->t vs σ H R
section
variable {K:PySem.W.Frag} {Δ:Evt}
theorem Cont.up {g:Gm} {G G1:Hp} {σ:St} {P:D->Evt->Prop} {Q:VK} (c:Cont K g G σ P Q) (s:Same G G1):Cont K g G1 σ P Q:=
 fun v d G' H' Δ' k s' r p=>c v d G' H' Δ' k (s.trans s') r p
theorem JE.mono {t:TE} {P P':D->Evt->Prop} (h:JE K t Δ P) (hp:∀ d Δ,P d Δ -> P' d Δ):JE K t Δ P':=
 fun g G H σ Q k c=>h g G H σ Q k fun v d G' H' Δ' k' s r p=>c v d G' H' Δ' k' s r (hp d Δ' p)
theorem JS.mono {t:TS} {P P':Pst} (h:JS K t Δ P) (hn:∀ Δ,P.nx Δ -> P'.nx Δ) (hr:∀ d Δ,P.rt d Δ -> P'.rt d Δ) (hb:∀ Δ,P.bk Δ -> P'.bk Δ) (hc:∀ Δ,P.ct Δ -> P'.ct Δ) (ho:∀ od Δ,P.ro od Δ -> P'.ro od Δ):JS K t Δ P':=
 fun g G H σ E k c=>h g G H σ E k ⟨fun σ' G' H' Δ' k' p=>c.nx σ' G' H' Δ' k' (hn _ p),fun v d σ' G' H' Δ' k' r p=>c.rt v d σ' G' H' Δ' k' r (hr _ _ p),fun σ' G' H' Δ' k' p=>c.bk σ' G' H' Δ' k' (hb _ p),fun σ' G' H' Δ' k' p=>c.ct σ' G' H' Δ' k' (hc _ p),fun a od σ' G' H' Δ' k' r p=>c.ro a od σ' G' H' Δ' k' r (ho _ _ p)⟩
theorem Zac {i:Nat} {d:D} {P:D->Evt->Prop} (h:Δ[i]? = some (.val d)) (p:P d Δ):JE K (tVar i) Δ P:=fun g G H σ Q k c=>by
 obtain ⟨v,h1,h2⟩:=k.val i d h
 exact ⟨v,h1,c v d G H Δ k (Same.refl _) h2 p⟩
theorem Zgu {i:Nat} {ds:List D} {P:D->Evt->Prop} (h:Δ[i]? = some (.own (.lst ds))) (p:P (.lst ds) (Δ.set i (.val (.lst ds)))):JE K (tVar i) Δ P:=fun g G H σ Q k c=>by
 obtain ⟨a,h1,pd⟩:=k.take h
 obtain ⟨o,q1,q2,_⟩:=id pd
 cases o with
 | lst vs=>
  obtain ⟨k2,sg,r⟩:=(k.drop i).freeze pd q1
  have k3:=k2.setVal (i:=i) (by simpa using (List.getElem?_eq_some_iff.mp h).1) r
  have e1:σ.set i (some (.ref a)) = σ:=by
   apply List.ext_getElem?
   intro j
   by_cases hj:j=i
   ·subst hj; rw [List.getElem?_set_self (k.lt h),h1]
   ·rw [List.getElem?_set_ne (Ne.symm hj)]
  rw [e1,List.set_set] at k3
  exact ⟨.ref a,h1,c _ _ _ H _ k3 sg r p⟩
 | _=>exact absurd q2 (fun z=>z)
theorem Zao {i:Int} {P:D->Evt->Prop} (p:P (.int i) Δ):JE K (tC (.int i)) Δ P:=fun g G H σ Q k c=>c _ _ G H Δ k (Same.refl _) (.int i) p
theorem Zpp {b:Bool} {P:D->Evt->Prop} (p:P (.bl b) Δ):JE K (tC (.bl b)) Δ P:=fun g G H σ Q k c=>c _ _ G H Δ k (Same.refl _) (.bl b) p
theorem Zdd {P:D->Evt->Prop} (p:P .non Δ):JE K (tC .non) Δ P:=fun g G H σ Q k c=>c _ _ G H Δ k (Same.refl _) .non p
theorem Zbm {x:String} {P:D->Evt->Prop} (p:P (.ty x) Δ):JE K (tC (.ty x)) Δ P:=fun g G H σ Q k c=>c _ _ G H Δ k (Same.refl _) (.ty x) p
theorem Zaq {r:R2} {ta tb:TE} {P:D->Evt->Prop} (h:JE K ta Δ fun d Δ1=>JE K tb Δ1 fun e Δ2=>JR2 K r d e Δ2 P):JE K (tOp r ta tb) Δ P:=fun g G H σ Q k c=>
 h g G H σ _ k fun x d G1 H1 Δ1 k1 s1 r1 p1=>p1 g G1 H1 σ _ k1 fun y e G2 H2 Δ2 k2 s2 r2 p2=>p2 g G2 H2 σ Q x y k2 (r1.mono s2) r2 (c.up (s1.trans s2))
theorem Zla {r:V->Hp->VK->Prop} {ta:TE} {P:D->Evt->Prop} (h:JE K ta Δ fun d Δ1=>JR1 K r d Δ1 P):JE K (tUn r ta) Δ P:=fun g G H σ Q k c=>
 h g G H σ _ k fun x d G1 H1 Δ1 k1 s1 r1 p1=>p1 g G1 H1 σ Q x k1 r1 (c.up s1)
theorem Zae {P:List D->Evt->Prop} (p:P [] Δ):JA K tNil Δ P:=fun g G H σ Q k c=>c [] [] G H Δ k (Same.refl _) .nil p
theorem Zab {ta:TE} {tr:TA} {P:List D->Evt->Prop} (h:JE K ta Δ fun d Δ1=>JA K tr Δ1 fun ds Δ2=>P (d :: ds) Δ2):JA K (tCons ta tr) Δ P:=fun g G H σ Q k c=>
 h g G H σ _ k fun x d G1 H1 Δ1 k1 s1 r1 p1=>p1 g G1 H1 σ _ k1 fun vs ds G2 H2 Δ2 k2 s2 r2 p2=>c _ _ G2 H2 Δ2 k2 (s1.trans s2) (.cons (r1.mono s2) r2) p2
theorem Zaw {r:List V->Hp->VK->Prop} {ta:TA} {P:D->Evt->Prop} (h:JA K ta Δ fun ds Δ1=>JC K r ds Δ1 P):JE K (tCB r ta) Δ P:=fun g G H σ Q k c=>
 h g G H σ _ k fun vs ds G1 H1 Δ1 k1 s1 r1 p1=>p1 g G1 H1 σ Q vs k1 r1 (c.up s1)
theorem Zcx {ta:TA} {P:D->Evt->Prop} (h:JA K ta Δ fun ds Δ1=>ds.length<=sizeLine/\P (.tup ds) Δ1):JE K (tTup ta) Δ P:=fun g G H σ Q k c=>
 h g G H σ _ k fun vs ds G1 H1 Δ1 k1 s1 r1 ⟨z,p1⟩=>⟨by rw [r1.length]; exact z,fun p hp=>by
  obtain ⟨k2,sg⟩:=k1.laid hp (.tup vs)
  exact c _ _ _ _ Δ1 k2 (s1.trans sg) (.tup Zam (r1.mono sg)) p1⟩
theorem Zjt {ta:TA} {P:D->Evt->Prop} (h:JA K ta Δ fun ds Δ1=>ds.length<=sizeLine/\P (.lst ds) Δ1):JE K (tLst ta) Δ P:=fun g G H σ Q k c=>
 h g G H σ _ k fun vs ds G1 H1 Δ1 k1 s1 r1 ⟨z,p1⟩=>⟨by rw [r1.length]; exact z,fun p hp=>by
  obtain ⟨k2,sg⟩:=k1.laid hp (.lst vs)
  exact c _ _ _ _ Δ1 k2 (s1.trans sg) (.lst Zam (r1.mono sg)) p1⟩
theorem Ok.fresh {g:Gm} {G H:Hp} {σ:St} (k:Ok K g G H σ Δ) {p:Addr} {o:HO} {od:OD} (hp:H p=none) (r:OwnRep K G o od):Ok K g G (upd H p o) σ Δ /\ Pend K g G (upd H p o) σ Δ p od:=by
 have hG:G p=none:=by
  cases e:G p with
  | none=>rfl
  | some u=>rw [k.live p u e] at hp; cases hp
 refine ⟨k.grow (Same.refl _) (fun b u e=>by rw [Zaj (Zak e hp)]; exact e) fun b u e=>⟨?_,.inl e⟩,o,Zam,r,hG,k.there hp,?_,fun j x od' e1 e2 e3=>?_⟩
 ·have hb:b ≠ p:=by intro z; subst z; rw [hG] at e; cases e
  rw [Zaj hb]; exact k.live b u e
 ·cases q:g.Xo p with
  | none=>rfl
  | some u=>have z:=(k.ext p u q).1; rw [hp] at z; cases z
 ·obtain ⟨a,oo,w1,w2,_⟩:=k.own j x od' e1 e2
  rw [e3] at w1; cases w1
  rw [hp] at w2; cases w2
theorem Zhu {ta:TA} {P:OD->Evt->Prop} (h:JA K ta Δ fun ds Δ1=>ds.length<=sizeLine/\P (.lst ds) Δ1):JO K (tLst ta) Δ P:=fun g G H σ Q k c=>
 h g G H σ _ k fun vs ds G1 H1 Δ1 k1 s1 r1 ⟨z,p1⟩=>⟨by rw [r1.length]; exact z,fun p hp=>by
  obtain ⟨k2,pd⟩:=k1.fresh (od:=.lst ds) hp (show OwnRep K G1 (.lst vs) (.lst ds) from r1)
  exact c p _ G1 _ Δ1 k2 s1 pd p1⟩
theorem Zbo {t:TE} {P:D->Evt->Prop} (h:JO K t Δ fun od Δ1=>∃ ds,od=.lst ds/\P (.lst ds) Δ1):JE K t Δ P:=fun g G H σ Q k c=>
 h g G H σ Q k fun a od G1 H1 Δ1 k1 s1 pd hq_=>by
  obtain ⟨ds,e,p1⟩:=hq_
  subst e
  obtain ⟨o,q1,q2,_⟩:=id pd
  cases o with
  | lst vs=>
   obtain ⟨k2,sg,r⟩:=k1.freeze pd q1
   exact c _ _ _ H1 Δ1 k2 (s1.trans sg) r p1
  | _=>exact absurd q2 (fun z=>z)
theorem Zav {t:TE} {P:Bool->Evt->Prop} (h:JE K t Δ fun d Δ1=>∃ b,d=.bl b/\P b Δ1):JT K (tTest t) Δ P:=fun g G H σ Q k c=>
 h g G H σ _ k fun v d G1 H1 Δ1 k1 s1 r1 hq_=>by obtain ⟨b,e,p1⟩:=hq_; subst e; cases r1.inv; exact ⟨b,rfl,c b G1 H1 Δ1 k1 s1 p1⟩
theorem Zhw {a b:TT} {P:Bool->Evt->Prop} (h:JT K a Δ fun x Δ1=>if x=true then JT K b Δ1 P else P false Δ1):JT K (tAnd a b) Δ P:=fun g G H σ Q k c=>
 h g G H σ _ k fun x G1 H1 Δ1 k1 s1 p1=>by
  cases x with
  | true=>exact (show JT K b Δ1 P from p1) g G1 H1 σ _ k1 fun y G2 H2 Δ2 k2 s2 p2=>c y G2 H2 Δ2 k2 (s1.trans s2) p2
  | false=>exact c false G1 H1 Δ1 k1 s1 p1
theorem Zdj {a b:TT} {P:Bool->Evt->Prop} (h:JT K a Δ fun x Δ1=>if x=true then P true Δ1 else JT K b Δ1 P):JT K (tOr a b) Δ P:=fun g G H σ Q k c=>
 h g G H σ _ k fun x G1 H1 Δ1 k1 s1 p1=>by
  cases x with
  | true=>exact c true G1 H1 Δ1 k1 s1 p1
  | false=>exact (show JT K b Δ1 P from p1) g G1 H1 σ _ k1 fun y G2 H2 Δ2 k2 s2 p2=>c y G2 H2 Δ2 k2 (s1.trans s2) p2
theorem Zbw {a:TT} {P:Bool->Evt->Prop} (h:JT K a Δ fun x Δ1=>P (!x) Δ1):JT K (tNot a) Δ P:=fun g G H σ Q k c=>
 h g G H σ _ k fun x G1 H1 Δ1 k1 s1 p1=>c (!x) G1 H1 Δ1 k1 s1 p1
theorem Zcm {P:Bool->Evt->Prop} (p:P true Δ):JT K tTrue Δ P:=fun g G H σ Q k c=>c true G H Δ k (Same.refl _) p
theorem Znj {P:Pst} (p:P.nx Δ):JS K tNext Δ P:=fun g G H σ E k c=>c.nx σ G H Δ k p
theorem Zl6 {t u:TS} {P:Pst} (h:JS K t Δ { P with nx:=fun Δ1=>JS K u Δ1 P }):JS K (tSeq t u) Δ P:=fun g G H σ E k c=>
 h g G H σ _ k ⟨fun σ1 G1 H1 Δ1 k1 p1=>p1 g G1 H1 σ1 E k1 c,c.rt,c.bk,c.ct,c.ro⟩
theorem Zps {te:TE} {P:Pst} (h:JE K te Δ P.rt):JS K (tRet te) Δ P:=fun g G H σ E k c=>
 h g G H σ _ k fun v d G1 H1 Δ1 k1 s1 r1 p1=>c.rt v d σ G1 H1 Δ1 k1 r1 p1
theorem Zny {te:TE} {P:Pst} (h:JO K te Δ P.ro):JS K (tRet te) Δ P:=fun g G H σ E k c=>
 h g G H σ _ k fun a od G1 H1 Δ1 k1 s1 pd p1=>c.ro a od σ G1 H1 Δ1 k1 pd p1
theorem Zmz {te:TE} {P:Pst} (h:JE K te Δ fun _ Δ1=>P.nx Δ1):JS K (tDrop te) Δ P:=fun g G H σ E k c=>
 h g G H σ _ k fun v d G1 H1 Δ1 k1 s1 r1 p1=>c.nx σ G1 H1 Δ1 k1 p1
theorem Zpy {c:TT} {t u:TS} {P:Pst} (h:JT K c Δ fun b Δ1=>if b=true then JS K t Δ1 P else JS K u Δ1 P):JS K (tIfS c t u) Δ P:=fun g G H σ E k q=>
 h g G H σ _ k fun b G1 H1 Δ1 k1 s1 p1=>by
  cases b with
  | true=>exact (show JS K t Δ1 P from p1) g G1 H1 σ E k1 q
  | false=>exact (show JS K u Δ1 P from p1) g G1 H1 σ E k1 q
theorem Zoy {te:TE} {t:TG} {P:Pst} (h:JE K te Δ fun d Δ1=>JG K t d Δ1 P.nx):JS K (tAsg te t) Δ P:=fun g G H σ E k c=>
 h g G H σ _ k fun v d G1 H1 Δ1 k1 s1 r1 p1=>p1 g G1 H1 σ v _ k1 r1 fun σ2 G2 H2 Δ2 k2 s2 p2=>c.nx σ2 G2 H2 Δ2 k2 p2
theorem Ze8 {P:Evt->Prop} (p:P Δ):JGs K gNil [] Δ P:=fun g G H σ vs R k r c=>by cases r; exact ⟨rfl,c σ G H Δ k (Same.refl _) p⟩
theorem Zb6 {t:TG} {u:TGs} {d:D} {ds:List D} {P:Evt->Prop} (h:JG K t d Δ fun Δ1=>JGs K u ds Δ1 P):JGs K (gCons t u) (d :: ds) Δ P:=fun g G H σ vs R k r c=>by
 obtain ⟨_,_,rfl,r1,rr⟩:=r.inv
 next=>exact ⟨_,_,rfl,h g G H σ _ _ k r1 fun σ1 G1 H1 Δ1 k1 s1 p1=>p1 g G1 H1 σ1 _ R k1 (rr.mono s1) fun σ2 G2 H2 Δ2 k2 s2 p2=>c σ2 G2 H2 Δ2 k2 (s1.trans s2) p2⟩
theorem Zh4 {n:Nat} {t:TGs} {ds:List D} {P:Evt->Prop} (hl:ds.length=n) (h:JGs K t ds Δ P):JG K (gTup K n t) (.tup ds) Δ P:=fun g G H σ v R k r c=>by
 obtain ⟨_,_,rfl,ha,rs⟩:=r.inv
 next=>exact ⟨_,_,rfl,SqT.of (k.live _ _ ha),by rw [rs.length]; exact hl,h g G H σ _ R k rs c⟩
def ItOk (K:PySem.W.Frag) (G:Hp) (J:It) (ds:List D):Prop:=
 ∀ G1 H1,Same G G1->Same G1 H1->J.stop ds.length H1/\∀ (i:Nat) d,ds[i]? = some d->J.go i H1/\∀ x H2,J.yld i H1 x H2->∃ G2,Same G1 G2/\Same H1 H2/\(∀ b o,G2 b=some o->H2 b=some o/\(G1 b=some o\/H1 b=none))/\Rep K G2 x d
def JI (K:PySem.W.Frag) (wi:TI) (Δ:Evt) (P:List D->Evt->Prop):Prop:=
 ∀ g G H σ (R:It->Hp->Prop),Ok K g G H σ Δ -> (∀ J ds G' H' Δ',Ok K g G' H' σ Δ' -> Same G G' -> ItOk K G' J ds->P ds Δ' -> R J H')->wi σ H R
theorem Zpr {tl:TE} {P:List D->Evt->Prop} (h:JE K tl Δ fun d Δ1=>∃ ds,d=.tup ds/\P ds Δ1):JI K (iTup K tl) Δ P:=fun g G H σ R k c=>
 h g G H σ _ k fun v d G1 H1 Δ1 k1 s1 r1 hq_=>by
  obtain ⟨ds,e,p1⟩:=hq_
  subst e
  obtain ⟨a,vs,rfl,ha,rs⟩:=r1.inv
  next=>
   refine ⟨a,rfl,⟨vs,SqT.of (k1.live _ _ ha)⟩,c _ ds G1 H1 Δ1 k1 s1 (fun G2 H2 sg sh=>⟨⟨vs,SqT.of (sh _ _ (sg _ _ ha)),by rw [rs.length]; exact Nat.le_refl _⟩,fun i d e=>?_⟩) p1⟩
   obtain ⟨v,hv,rv⟩:=rs.get e
   refine ⟨⟨vs,v,SqT.of (sh _ _ (sg _ _ ha)),hv⟩,fun x H3 ⟨e3,y3⟩=>⟨G2,Same.refl _,by rw [e3]; exact Same.refl _,fun b o q=>⟨by rw [e3]; exact sh b o q,.inl q⟩,?_⟩⟩
   have:=y3 vs (SqT.of (sh _ _ (sg _ _ ha)))
   rw [hv] at this; cases this
   exact rv.mono sg
theorem Zmo {tl:TE} {P:List D->Evt->Prop} (h:JE K tl Δ fun d Δ1=>∃ ds,(d=.lst ds\/d=.scr ds)/\P ds Δ1):JI K (iList K tl) Δ P:=fun g G H σ R k c=>
 h g G H σ _ k fun v d G1 H1 Δ1 k1 s1 r1 hq_=>by
  obtain ⟨ds,e,p1⟩:=hq_
  obtain ⟨a,vs,ea,hs,rs⟩:∃ a vs,v=.ref a/\SqL K G1 a vs/\Reps K G1 vs ds:=by
   rcases e with e | e
   ·subst e; cases r1 with | lst ha rs=>exact ⟨_,_,rfl,SqL.of ha,rs⟩
   ·subst e; cases r1 with | scr ha rs=>exact ⟨_,_,rfl,ha,rs⟩
  subst ea
  refine ⟨a,rfl,⟨vs,k1.live.seq hs⟩,c _ ds G1 H1 Δ1 k1 s1 (fun G2 H2 sg sh=>⟨⟨vs,sh.seq (sg.seq hs),by rw [rs.length]; exact Nat.le_refl _⟩,fun i d e=>?_⟩) p1⟩
  obtain ⟨v,hv,rv⟩:=rs.get e
  refine ⟨⟨vs,v,sh.seq (sg.seq hs),hv⟩,fun x H3 ⟨e3,y3⟩=>⟨G2,Same.refl _,by rw [e3]; exact Same.refl _,fun b o q=>⟨by rw [e3]; exact sh b o q,.inl q⟩,?_⟩⟩
  have:=y3 vs (sh.seq (sg.seq hs))
  rw [hv] at this; cases this
  exact rv.mono sg
def rngD (lo:Int) (n:Nat):List D:=(List.range n).map fun i:Nat=>D.int (lo + (i:Int))
theorem Za8 (lo:Int) (n:Nat):(rngD lo n).length=n:=by simp [rngD]
theorem Zbx {lo:Int} {n i:Nat} {d:D} (h:(rngD lo n)[i]? = some d):i < n/\d=.int (lo + (i:Int)):=by
 unfold rngD at h
 rw [List.getElem?_map] at h
 cases e:(List.range n)[i]? with
 | none=>rw [e] at h; cases h
 | some j=>
  rw [e] at h
  obtain ⟨h1,h2⟩:=List.getElem?_eq_some_iff.mp e
  rw [List.getElem_range] at h2
  subst h2
  exact ⟨by simpa using h1,(Option.some.inj h).symm⟩
theorem Zhs {G:Hp} (lo:Int) (n:Nat):ItOk K G (Itr lo n) (rngD lo n):=fun G1 H1 sg sh=>by
 refine ⟨by show n<=(rngD lo n).length; rw [Za8]; exact Nat.le_refl _,fun i d e=>?_⟩
 obtain ⟨h1,h2⟩:=Zbx e
 subst h2
 refine ⟨h1,fun x H2 ⟨e2,y2⟩=>⟨G1,Same.refl _,by rw [e2]; exact Same.refl _,fun b o q=>⟨by rw [e2]; exact sh b o q,.inl q⟩,?_⟩⟩
 subst y2
 exact .int _
theorem Zb2 {ta:TA} {P:List D->Evt->Prop} (h:JA K ta Δ fun ds Δ1=>∃ n:Int,ds=[.int n] /\ -(2 ^ 62)<=n/\n < 2 ^ 62/\P (rngD 0 n.toNat) Δ1):JI K (iRng1 ta) Δ P:=fun g G H σ R k c=>
 h g G H σ _ k fun vs ds G1 H1 Δ1 k1 s1 r1 hq_=>by
  obtain ⟨n,e,h1,h2,p1⟩:=hq_
  subst e
  obtain ⟨_,_,rfl,ra,rr⟩:=r1.inv
  next=>
   cases rr.inv; cases ra.inv
   exact ⟨n,rfl,h1,h2,c _ _ G1 H1 Δ1 k1 s1 (Zhs 0 _) p1⟩
theorem Zf0 {ta:TA} {P:List D->Evt->Prop} (h:JA K ta Δ fun ds Δ1=>∃ m n:Int,ds=[.int m,.int n]/\(-(2 ^ 62)<=m/\m < 2 ^ 62 /\ -(2 ^ 62)<=n/\n < 2 ^ 62)/\P (rngD m (n - m).toNat) Δ1):JI K (iRng2 ta) Δ P:=fun g G H σ R k c=>
 h g G H σ _ k fun vs ds G1 H1 Δ1 k1 s1 r1 hq_=>by
  obtain ⟨m,n,e,h1,p1⟩:=hq_
  subst e
  obtain ⟨_,_,rfl,ra,rr⟩:=r1.inv
  next=>
   obtain ⟨_,_,rfl,rb,rr⟩:=rr.inv
   next=>
    cases rr.inv; cases ra.inv; cases rb.inv
    exact ⟨m,n,rfl,h1,c _ _ G1 H1 Δ1 k1 s1 (Zhs m _) p1⟩
theorem Zpt {wi:TI} {t:TG} {tb:TS} {P:Pst} (h:JI K wi Δ fun ds Δ1=>∃ I:Nat->Evt->Prop,I 0 Δ1/\(∀ i d Δ2,ds[i]? = some d->I i Δ2->JG K t d Δ2 fun Δ3=>JS K tb Δ3 ⟨I (i + 1),P.rt,P.nx,I (i + 1),P.ro⟩)/\∀ Δ2,I ds.length Δ2->P.nx Δ2) :
  JS K (tFor wi t tb) Δ P:=fun g G H σ E k c=>
 h g G H σ _ k fun J ds G1 H1 Δ1 k1 s1 it hq_=>by
  obtain ⟨I,h0,ht,he⟩:=hq_
  refine ⟨fun i m σ H=>m=ds.length - i/\i<=ds.length/\∃ G Δ,Ok K g G H σ Δ /\ Same G1 G/\I i Δ,⟨ds.length,by simp,Nat.zero_le _,G1,Δ1,k1,Same.refl _,h0⟩,?_⟩
  rintro i m σ2 H2 ⟨rfl,hi,G2,Δ2,k2,s2,h2⟩
  obtain ⟨stop,go⟩:=it G2 H2 s2 k2.live
  by_cases hlt:i < ds.length
  ·obtain ⟨g1,g2⟩:=go i _ (List.getElem?_eq_getElem hlt)
   refine .inr ⟨g1,fun σ' H'=>i + 1<=ds.length/\∃ G Δ,Ok K g G H' σ' Δ /\ Same G1 G/\I (i + 1) Δ,fun σ' H' p'=>⟨ds.length - (i + 1),by omega,rfl,p'.1,p'.2⟩,fun x H3 y=>?_⟩
   obtain ⟨G3,a1,a2,a3,a4⟩:=g2 x H3 y
   have k3:=k2.grow a1 a2 a3
   refine ht i _ Δ2 (List.getElem?_eq_getElem hlt) h2 { g with F:=G3,Xo:=g.Xo } G3 H3 σ2 x _ ?_ a4 fun σ4 G4 H4 Δ4 k4 s4 p4=>?_
   ·exact ⟨k3.same,k3.lent,Same.refl _,fun b o q=>⟨(k3.frz b o q).1,.inr q⟩,k3.ext,k3.len,k3.val,k3.own,k3.dis⟩
   ·have cv:∀ {G5 H5:Hp} {σ5:St} {Δ5:Evt},Ok K { g with F:=G3,Xo:=g.Xo } G5 H5 σ5 Δ5->Ok K g G5 H5 σ5 Δ5/\Same G1 G5:=fun {G5 H5 σ5 Δ5} k5=>
     ⟨⟨k5.same,k5.lent,k3.sub.trans k5.sub,fun b o q=>by
      obtain ⟨q1,q2⟩:=k5.frz b o q
      refine ⟨q1,?_⟩
      rcases q2 with z | z
      ·exact .inl z
      ·exact (k3.frz b o z).2,k5.ext,k5.len,k5.val,k5.own,k5.dis⟩,s2.trans (a1.trans k5.sub)⟩
    refine p4 _ G4 H4 σ4 _ k4 ⟨fun σ5 G5 H5 Δ5 k5 p5=>?_,fun v d σ5 G5 H5 Δ5 k5 r5 p5=>?_,fun σ5 G5 H5 Δ5 k5 p5=>?_,fun σ5 G5 H5 Δ5 k5 p5=>?_,fun a od σ5 G5 H5 Δ5 k5 pd5 p5=>?_⟩
    ·exact ⟨hlt,G5,Δ5,(cv k5).1,(cv k5).2,p5⟩
    ·exact c.rt v d σ5 G5 H5 Δ5 (cv k5).1 r5 p5
    ·exact c.nx σ5 G5 H5 Δ5 (cv k5).1 p5
    ·exact ⟨hlt,G5,Δ5,(cv k5).1,(cv k5).2,p5⟩
    ·exact c.ro a od σ5 G5 H5 Δ5 (cv k5).1 pd5 p5
  ·have e:i=ds.length:=by omega
   subst e
   exact .inl ⟨stop,c.nx σ2 G2 H2 Δ2 k2 (he Δ2 h2)⟩
theorem Zk8 {c:TT} {tb:TS} {P:Pst} (I:Nat->Evt->Prop) (h0:∃ m,I m Δ) (ht:∀ m Δ1,I m Δ1->JT K c Δ1 fun b Δ2=>if b=true then JS K tb Δ2 ⟨fun Δ3=>∃ m',m' < m/\I m' Δ3,P.rt,P.nx,fun Δ3=>∃ m',m' < m/\I m' Δ3,P.ro⟩ else P.nx Δ2) :
  JS K (tWhile c tb) Δ P:=fun g G H σ E k q=>by
 obtain ⟨m,h0⟩:=h0
 refine ⟨fun m σ H=>∃ G Δ,Ok K g G H σ Δ /\ I m Δ,⟨m,G,Δ,k,h0⟩,?_⟩
 rintro m σ1 H1 ⟨G1,Δ1,k1,h1⟩
 refine ht m Δ1 h1 g G1 H1 σ1 _ k1 fun b G2 H2 Δ2 k2 s2 p2=>?_
 cases b with
 | true=>
  refine ⟨fun σ' H'=>∃ m',m' < m/\∃ G Δ,Ok K g G H' σ' Δ /\ I m' Δ,fun σ' H' ⟨m',hm,z⟩=>⟨m',hm,z⟩,?_⟩
  refine (show JS K tb Δ2 _ from p2) g G2 H2 σ1 _ k2 ⟨fun σ5 G5 H5 Δ5 k5 ⟨m',hm,p5⟩=>⟨m',hm,G5,Δ5,k5,p5⟩,q.rt,q.nx,fun σ5 G5 H5 Δ5 k5 ⟨m',hm,p5⟩=>⟨m',hm,G5,Δ5,k5,p5⟩,q.ro⟩
 | false=>exact q.nx σ1 G2 H2 Δ2 k2 p2
end
end L2
set_option Elab.async false
set_option linter.all false
set_option maxRecDepth 100000
namespace L2
open PySem PySem.Spec PyProof.Rows
section
variable {K:PySem.W.Frag} {Δ:Evt} {P:D->Evt->Prop}
theorem jr_I {C:Int->Int->Prop} {f:Int->Int->Int} {i j:Int} (hc:C i j) (p:P (.int (f i j)) Δ):JR2 K (rI C fun i j=>.int (f i j)) (.int i) (.int j) Δ P:=fun g G H σ Q x y k rx ry c=>by
 cases rx.inv; cases ry.inv
 exact ⟨i,j,rfl,rfl,hc,c _ _ G H Δ k (Same.refl _) (.int _) p⟩
theorem Zgt {f:Int->Int->Int} {i j:Int} (p:P (.int (f i j)) Δ):JR2 K (rI0 fun i j=>.int (f i j)) (.int i) (.int j) Δ P:=fun g G H σ Q x y k rx ry c=>by
 cases rx.inv; cases ry.inv
 exact ⟨i,j,rfl,rfl,c _ _ G H Δ k (Same.refl _) (.int _) p⟩
theorem Zij {f:Int->Int->Bool} {i j:Int} (p:P (.bl (f i j)) Δ):JR2 K (rI0 fun i j=>.bl (f i j)) (.int i) (.int j) Δ P:=fun g G H σ Q x y k rx ry c=>by
 cases rx.inv; cases ry.inv
 exact ⟨i,j,rfl,rfl,c _ _ G H Δ k (Same.refl _) (.bl _) p⟩
theorem Zga {i j:Int} (p:P (.bl (decide (i=j))) Δ):JR2 K rEq (.int i) (.int j) Δ P:=fun g G H σ Q x y k rx ry c=>by
 cases rx.inv; cases ry.inv
 refine ⟨rfl,?_⟩
 have e:decide (V.int i=V.int j)=decide (i=j):=by rw [Ze0]; exact (Bool.beq_eq_decide_eq i j)
 rw [e]
 exact c _ _ G H Δ k (Same.refl _) (.bl _) p
theorem Zgm {i j:Int} (p:P (.bl (!decide (i=j))) Δ):JR2 K rNe (.int i) (.int j) Δ P:=fun g G H σ Q x y k rx ry c=>by
 cases rx.inv; cases ry.inv
 refine ⟨rfl,?_⟩
 have e:decide (V.int i=V.int j)=decide (i=j):=by rw [Ze0]; exact (Bool.beq_eq_decide_eq i j)
 rw [e]
 exact c _ _ G H Δ k (Same.refl _) (.bl _) p
theorem Zo2 {i j:Bool} (p:P (.bl (decide (i=j))) Δ):JR2 K rEq (.bl i) (.bl j) Δ P:=fun g G H σ Q x y k rx ry c=>by
 cases rx.inv; cases ry.inv
 refine ⟨rfl,?_⟩
 have e:decide (V.bl i=V.bl j)=decide (i=j):=by cases i <;> cases j <;> rfl
 rw [e]
 exact c _ _ G H Δ k (Same.refl _) (.bl _) p
theorem Zem {i j:Bool} (p:P (.bl (!decide (i=j))) Δ):JR2 K rNe (.bl i) (.bl j) Δ P:=fun g G H σ Q x y k rx ry c=>by
 cases rx.inv; cases ry.inv
 refine ⟨rfl,?_⟩
 have e:decide (V.bl i=V.bl j)=decide (i=j):=by cases i <;> cases j <;> rfl
 rw [e]
 exact c _ _ G H Δ k (Same.refl _) (.bl _) p
theorem Zoo {ds:List D} {i:Int} {d:D} (h:atI ds i=some d) (p:P d Δ):JR2 K (rIxT K) (.tup ds) (.int i) Δ P:=fun g G H σ Q x y k rx ry c=>by
 obtain ⟨_,_,rfl,ha,rs⟩:=rx.inv
 next=>
  cases ry.inv
  obtain ⟨v,h1,h2⟩:=Zfk rs h
  exact ⟨_,_,i,v,rfl,rfl,SqT.of (k.live _ _ ha),h1,c v d G H Δ k (Same.refl _) h2 p⟩
theorem Zok {ds:List D} {i:Int} {d:D} (h:atI ds i=some d) (p:P d Δ):JR2 K (rIxL K) (.lst ds) (.int i) Δ P:=fun g G H σ Q x y k rx ry c=>by
 obtain ⟨_,_,rfl,ha,rs⟩:=rx.inv
 next=>
  cases ry.inv
  obtain ⟨v,h1,h2⟩:=Zfk rs h
  exact ⟨_,_,i,v,rfl,rfl,SqL.of (k.live _ _ ha),h1,c v d G H Δ k (Same.refl _) h2 p⟩
theorem Zjr {n:Nat} {te:TE} {Pp:Pst} {x:Slot} {od:OD} (hx:Δ[n]? = some x) (ho:x.od=some od) (hod:∃ ds,od=.lst ds)
  (h:JE K te Δ fun d Δ1=>∃ y ds,Δ1[n]? = some y/\y.od=some (.lst ds)/\ds.length < sizeLine/\Pp.nx (Δ1.set n (y.put (.lst (ds ++ [d]))))) :
  JS K (tDrop (tBM K "list" rAppend (tVar n) (tCons te tNil))) Δ Pp:=fun g G H σ E k c=>by
 obtain ⟨a,o,h1,h2,h3,h4,h5⟩:=k.own n x _ hx ho
 obtain ⟨ds0,hod⟩:=hod
 subst hod
 cases o with
 | lst vs0=>
  refine ⟨.ref a,h1,.inl ⟨rfl,_,SqL.of h2⟩,h g G H σ _ k fun v d G1 H1 Δ1 k1 s1 r1 ⟨y,ds,q1,q2,q3,p⟩=>?_⟩
  obtain ⟨a',o',w1,w2,w3,w4,w5⟩:=k1.own n y _ q1 q2
  rw [h1] at w1; cases w1
  cases o' with
  | lst vs=>
   have w3:Reps K G1 vs ds:=w3
   exact ⟨a,vs,v,rfl,rfl,w2,by rw [w3.length]; exact q3,c.nx σ G1 _ _ (k1.write q1 q2 h1 (show OwnRep K G1 (.lst (vs ++ [v])) (.lst (ds ++ [d])) from w3.append (.cons r1 .nil))) p⟩
  | _=>exact absurd w3 (fun z=>z)
 | _=>exact absurd h3 (fun z=>z)
theorem Zo6 {ds es:List D} (he:ds=[.lst es]\/ds=[.tup es]) (p:P (.int es.length) Δ) :
  JC K (fun xs H Q=>∃ p ys,xs=[.ref p]/\(SqL K H p ys\/SqT K H p ys)/\Q (.int ys.length) H) ds Δ P:=fun g G H σ Q vs k rs c=>by
 rcases he with he | he <;> subst he
 ·obtain ⟨_,_,rfl,r,t⟩:=rs.inv
  next=>
   cases t.inv
   obtain ⟨_,_,rfl,ha,rs⟩:=r.inv
   next=>
    refine ⟨_,_,rfl,.inl (SqL.of (k.live _ _ ha)),?_⟩
    rw [rs.length]; exact c _ _ G H Δ k (Same.refl _) (.int _) p
 ·obtain ⟨_,_,rfl,r,t⟩:=rs.inv
  next=>
   cases t.inv
   obtain ⟨_,_,rfl,ha,rs⟩:=r.inv
   next=>
    refine ⟨_,_,rfl,.inr (SqT.of (k.live _ _ ha)),?_⟩
    rw [rs.length]; exact c _ _ G H Δ k (Same.refl _) (.int _) p
theorem Zmq {n:Nat} {x:Slot} {ds:List D} (hx:Δ[n]? = some x) (ho:x.od=some (.lst ds)) (p:P (.int ds.length) Δ) :
  JE K (tCB (fun xs H Q=>∃ p ys,xs=[.ref p]/\(SqL K H p ys\/SqT K H p ys)/\Q (.int ys.length) H) (tCons (tVar n) tNil)) Δ P:=fun g G H σ Q k c=>by
 obtain ⟨a,o,h1,h2,h3,h4,h5⟩:=k.own n x _ hx ho
 cases o with
 | lst vs=>
  have h3:Reps K G vs ds:=h3
  refine ⟨.ref a,h1,a,vs,rfl,.inl (SqL.of h2),?_⟩
  rw [h3.length]; exact c _ _ G H Δ k (Same.refl _) (.int _) p
 | _=>exact absurd h3 (fun z=>z)
theorem Zpi {i:Int} (p:P (.int (if i < 0 then -i else i)) Δ):JC K (fun xs H Q=>∃ i,xs=[.int i]/\Q (.int (if i < 0 then -i else i)) H) [.int i] Δ P:=fun g G H σ Q vs k rs c=>by
 obtain ⟨_,_,rfl,r,t⟩:=rs.inv
 next=>cases t.inv; cases r.inv; exact ⟨i,rfl,c _ _ G H Δ k (Same.refl _) (.int _) p⟩
theorem Zh7 {f:Int->Int->Int} {i j:Int} (p:P (.int (f i j)) Δ):JC K (fun xs H Q=>∃ i j,xs=[.int i,.int j]/\Q (.int (f i j)) H) [.int i,.int j] Δ P:=fun g G H σ Q vs k rs c=>by
 obtain ⟨_,_,rfl,r,t⟩:=rs.inv
 next=>
  obtain ⟨_,_,rfl,r',t⟩:=t.inv
  next=>cases t.inv; cases r.inv; cases r'.inv; exact ⟨i,j,rfl,c _ _ G H Δ k (Same.refl _) (.int _) p⟩
theorem Zlu {ds es:List D} (he:ds=[.lst es]\/ds=[.tup es]) (p:P (.tup es) Δ) :
  JC K (fun xs H Q=>∃ p ys,xs=[.ref p]/\((SqL K H p ys/\∀ l,H l=none->Q (.ref l) (upd H l (.tup ys)))\/(SqT K H p ys/\Q (.ref p) H))) ds Δ P:=fun g G H σ Q vs k rs c=>by
 rcases he with he | he <;> subst he
 ·obtain ⟨_,_,rfl,r,t⟩:=rs.inv
  next=>
   cases t.inv
   obtain ⟨_,_,rfl,ha,rs⟩:=r.inv
   next=>
    refine ⟨_,_,rfl,.inl ⟨SqL.of (k.live _ _ ha),fun l hl=>?_⟩⟩
    obtain ⟨k2,sg⟩:=k.laid hl (.tup _)
    exact c _ _ _ _ Δ k2 sg (.tup Zam (rs.mono sg)) p
 ·obtain ⟨_,_,rfl,r,t⟩:=rs.inv
  next=>
   cases t.inv
   obtain ⟨_,_,rfl,ha,rs⟩:=r.inv
   next=>exact ⟨_,_,rfl,.inr ⟨SqT.of (k.live _ _ ha),c _ _ G H Δ k (Same.refl _) (.tup ha rs) p⟩⟩
def glue (F H H':Hp):Hp:=fun b=>match H b with
 | none=>H' b
 | some _=>F b
theorem Zdx {F H H':Hp} {b:Addr} (h:H b=none):glue F H H' b=H' b:=by unfold glue; rw [h]
theorem Zcr {F H H':Hp} {b:Addr} {o:HO} (h:H b=some o):glue F H H' b=F b:=by unfold glue; rw [h]
theorem Zfm {G H H':Hp} (l:Same G H):Same G (glue G H H'):=fun b o e=>by rw [Zcr (l b o e)]; exact e
theorem Zgp {G H H':Hp} (l:Same G H) (sh:∀ b o,G b=some o->H b=some o->H' b=some o):∀ b o,glue G H H' b=some o->H' b=some o/\(G b=some o\/H b=none):=fun b o e=>by
 cases q:H b with
 | none=>rw [Zdx q] at e; exact ⟨e,.inr rfl⟩
 | some u=>rw [Zcr q] at e; exact ⟨sh b o e (l b o e),.inl e⟩
abbrev DSp:=List D->(D->Prop)->Prop
def spD (K:PySem.W.Frag) (f:DSp):Sp:=fun vs H Q _=>∃ F ds Post,Same F H/\Reps K F vs ds/\f ds Post/\∀ r H' d,Same H H' -> Rep K (glue F H H') r d->Post d->Q r H'
theorem Zap {f:DSp} {ta:TA} {E:XK} (h:JA K ta Δ fun ds Δ1=>f ds fun d=>P d Δ1):JE K (tCall (spD K f) [] E ta) Δ P:=fun g G H σ Q k c=>
 h g G H σ _ k fun vs ds G1 H1 Δ1 k1 s1 r1 p1=>by
  show spD K f (vs ++ []) H1 Q E
  rw [List.append_nil]
  refine ⟨G1,ds,_,k1.live,r1,p1,fun r H' d sh rr pd=>?_⟩
  have sg:=Zfm (H':=H') k1.live
  exact c r d _ H' Δ1 (k1.grow sg sh (Zgp k1.live fun b o _ e=>sh b o e)) (s1.trans sg) rr pd
abbrev BSp:=List D->List D->(D->List D->Prop)->Prop
def spB (K:PySem.W.Frag) (f:BSp):Sp:=fun vs H Q _=>∃ F a us ws ps ds Post,vs=.ref a :: ws/\Same F H/\F a=none/\H a=some (.lst us)/\Reps K F us ps/\Reps K F ws ds/\f ps ds Post ∧
 ∀ r H' us' ps' d,(∀ b o,b ≠ a->H b=some o->H' b=some o)->H' a=some (.lst us')->Reps K (glue F H H') us' ps' -> Rep K (glue F H H') r d->Post d ps' -> Q r H'
theorem Ok.lend {g:Gm} {G H H':Hp} {σ:St} (k:Ok K g G H σ Δ) {i:Nat} {x:Slot} {ps ps':List D} {us':List V} {a:Addr} (hx:Δ[i]? = some x) (ho:x.od=some (.lst ps)) (ha:σ[i]? = some (some (.ref a)))
  (sh:∀ b o,b ≠ a->H b=some o->H' b=some o) (hn:H' a=some (.lst us')) (r:Reps K (glue G H H') us' ps'):Ok K g (glue G H H') H' σ (Δ.set i (x.put (.lst ps')))/\Same G (glue G H H'):=by
 obtain ⟨a',o,h1,h2,h3,h4,h5⟩:=k.own i x _ hx ho
 rw [ha] at h1; cases h1
 have sg:=Zfm (H':=H') k.live
 have k2:Ok K g (glue G H H') (upd H' a o) σ Δ:=by
  refine k.grow sg (fun b u e=>?_) fun b u e=>?_
  ·by_cases hb:b=a
   ·subst hb; rw [Zam,<- h2]; exact e
   ·rw [Zaj hb]; exact sh b u hb e
  ·have hb:b ≠ a:=by intro z; subst z; rw [Zcr h2,h4] at e; cases e
   rw [Zaj hb]
   exact Zgp k.live (fun c w e1 e2=>sh c w (fun z=>by subst z; rw [h4] at e1; cases e1) e2) b u e
 have k3:=k2.write hx ho ha (show OwnRep K (glue G H H') (.lst us') (.lst ps') from r)
 rw [Zmn] at k3
 have e:upd H' a (.lst us')=H':=by
  funext b
  by_cases hb:b=a
  ·subst hb; rw [Zam,hn]
  ·rw [Zaj hb]
 rw [e] at k3
 exact ⟨k3,sg⟩
theorem Zj2 {f:BSp} {ta:TA} {E:XK} {i:Nat} {x:Slot} {od:OD} (hx:Δ[i]? = some x) (ho:x.od=some od) (h:JA K ta Δ fun ds Δ1=>∃ y ps,Δ1[i]? = some y/\y.od=some (.lst ps)/\f ps ds fun d ps'=>P d (Δ1.set i (y.put (.lst ps')))) :
  JE K (tCall (spB K f) [] E (tCons (tVar i) ta)) Δ P:=fun g G H σ Q k c=>by
 obtain ⟨a,o,h1,h2,h3,h4,h5⟩:=k.own i x _ hx ho
 refine ⟨.ref a,h1,h g G H σ _ k fun vs ds G1 H1 Δ1 k1 s1 r1 ⟨y,ps,q1,q2,p1⟩=>?_⟩
 show spB K f ((.ref a :: vs) ++ []) H1 Q E
 rw [List.append_nil]
 obtain ⟨a',o',w1,w2,w3,w4,w5⟩:=k1.own i y _ q1 q2
 rw [h1] at w1; cases w1
 cases o' with
 | lst us=>
  refine ⟨G1,a,us,vs,ps,ds,_,rfl,k1.live,w4,w2,w3,r1,p1,fun r H' us' ps' d sh hn rr rd pd=>?_⟩
  obtain ⟨k2,sg⟩:=k1.lend q1 q2 h1 sh hn rr
  exact c r d _ H' _ k2 (s1.trans sg) rd pd
 | _=>exact absurd w3 (fun z=>z)
abbrev NSp:=List D->(List D->Prop)->Prop
def spN (K:PySem.W.Frag) (f:NSp):Sp:=fun vs H Q _=>∃ F ds Post,Same F H/\Reps K F vs ds/\f ds Post ∧
 ∀ a H' us ps,Same H H' -> H a=none->H' a=some (.lst us)->Reps K (fun b=>if b=a then none else glue F H H' b) us ps->Post ps->Q (.ref a) H'
theorem Zdp {f:NSp} {ta:TA} {E:XK} {Po:OD->Evt->Prop} (h:JA K ta Δ fun ds Δ1=>f ds fun ps=>Po (.lst ps) Δ1):JO K (tCall (spN K f) [] E ta) Δ Po:=fun g G H σ Q k c=>
 h g G H σ _ k fun vs ds G1 H1 Δ1 k1 s1 r1 p1=>by
  show spN K f (vs ++ []) H1 Q E
  rw [List.append_nil]
  refine ⟨G1,ds,_,k1.live,r1,p1,fun a H' us ps sh ha hn rr pd=>?_⟩
  have sg:Same G1 (fun b=>if b=a then none else glue G1 H1 H' b):=fun b o e=>by
   have hb:b ≠ a:=by intro z; subst z; rw [k1.live _ _ e] at ha; cases ha
   try dsimp only
   rw [if_neg hb]
   exact Zfm k1.live b o e
  have k2:Ok K g (fun b=>if b=a then none else glue G1 H1 H' b) H' σ Δ1:=k1.grow sg sh fun b o e=>by
   try dsimp only at e
   by_cases hb:b=a
   ·rw [if_pos hb] at e; cases e
   ·rw [if_neg hb] at e; exact Zgp k1.live (fun b o _ e=>sh b o e) b o e
  refine c a _ _ H' Δ1 k2 (s1.trans sg) ⟨.lst us,hn,(show OwnRep K _ (.lst us) (.lst ps) from rr),by simp,k1.there ha,?_,fun j x od' e1 e2 e3=>?_⟩ pd
  ·cases q:g.Xo a with
   | none=>rfl
   | some u=>have z:=(k1.ext a u q).1; rw [ha] at z; cases z
  ·obtain ⟨b,oo,w1,w2,_⟩:=k1.own j x od' e1 e2
   rw [e3] at w1; cases w1
   rw [ha] at w2; cases w2
end
def startD (N:List Str) (ds:List D):Evt:=ds.map .val ++ List.replicate (N.length - ds.length) .any
section
variable {K:PySem.W.Frag}
theorem Zfi {g:Gm} {G H:Hp} {N:List Str} {vs:List V} {ds:List D} (rs:Reps K G vs ds) (hl:ds.length<=N.length) (same:∀ b o,¬ g.B b->g.Hz b=some o->H b=some o) (lent:∀ b,g.B b->H b ≠ none) (sub:Same g.F G)
  (frz:∀ b o,G b=some o->H b=some o/\(g.Hz b=none\/g.F b=some o)) (ext:∀ b,g.Xo b=none):Ok K g G H (start N vs) (startD N ds):=by
 have noOd:∀ (i:Nat) x od,(startD N ds)[i]? = some x->x.od=some od->False:=fun i x od e1 e2=>by
  have hm:=List.mem_of_getElem? e1
  rcases List.mem_append.mp hm with z | z
  ·obtain ⟨d,_,rfl⟩:=List.mem_map.mp z; cases e2
  ·rw [List.mem_replicate] at z; rw [z.2] at e2; cases e2
 refine ⟨same,lent,sub,frz,fun b o e=>(by rw [ext b] at e; cases e),?_,fun i d e=>?_,fun i x od e1 e2=>(noOd i x od e1 e2).elim,fun i j x y od od' a e1 e2=>(noOd i x od e1 e2).elim⟩
 ·unfold start startD
  rw [List.length_append,List.length_append,List.length_map,List.length_map,List.length_replicate,List.length_replicate,rs.length]
 ·unfold startD at e
  unfold start
  by_cases hi:i < ds.length
  ·rw [List.getElem?_append_left (by simpa using hi),List.getElem?_map] at e
   cases q:ds[i]? with
   | none=>rw [q] at e; cases e
   | some d'=>
    rw [q] at e
    have e:Slot.val d' = Slot.val d:=by simpa using e
    cases e
    obtain ⟨v,h1,h2⟩:=rs.get q
    refine ⟨v,?_,h2⟩
    rw [List.getElem?_append_left (by rw [List.length_map,rs.length]; exact hi),List.getElem?_map,h1]
    rfl
  ·rw [List.getElem?_append_right (by simpa using hi),List.getElem?_replicate] at e
   split at e <;> cases e
theorem Zcu {f:DSp} {t:TS} {N:List Str} {vs:List V} {H:Hp} {Q:VK} {E:XK} (ht:∀ ds Post,f ds Post->ds.length<=N.length/\JS K t (startD N ds) ⟨fun _=>Post .non,fun d _=>Post d,fun _=>False,fun _=>False,fun _ _=>False⟩) (h:spD K f vs H Q E) :
  t { nx:=fun _ H'=>Q .non H',rt:=Q } (start N vs) H:=by
 obtain ⟨F,ds,Post,l,rs,hf,q⟩:=h
 obtain ⟨hl,hj⟩:=ht ds Post hf
 have fin:∀ {v:V} {d:D} {σ:St} {G H':Hp} {Δ:Evt},Ok K ⟨fun _=>False,F,H,fun _=>none⟩ G H' σ Δ -> Rep K G v d->Post d->Q v H':=fun {v d σ G H' Δ} k r p=>by
  refine q v H' d (fun b o e=>k.same b o (fun z=>z) e) (r.mono fun b o e=>?_) p
  obtain ⟨e1,e2⟩:=k.frz b o e
  rcases e2 with z | z
  ·rw [Zdx z]; exact e1
  ·rw [Zcr (l b o z)]; exact z
 refine hj ⟨fun _=>False,F,H,fun _=>none⟩ F H (start N vs) _ (Zfi rs hl (fun _ _ _ e=>e) (fun _ z=>z.elim) (Same.refl _) (fun b o e=>⟨l b o e,.inr e⟩) fun _=>rfl) ⟨fun σ G H' Δ k p=>fin k .non p,fun v d σ G H' Δ k r p=>fin k r p,fun _ _ _ _ _ z=>z.elim,fun _ _ _ _ _ z=>z.elim,fun _ _ _ _ _ _ _ _ z=>z.elim⟩
theorem Znu {f:NSp} {t:TS} {N:List Str} {vs:List V} {H:Hp} {Q:VK} {E:XK} (ht:∀ ds Post,f ds Post->ds.length<=N.length/\JS K t (startD N ds) ⟨fun _=>False,fun _ _=>False,fun _=>False,fun _=>False,fun od _=>∃ ps,od=.lst ps/\Post ps⟩) (h:spN K f vs H Q E) :
  t { nx:=fun _ H'=>Q .non H',rt:=Q } (start N vs) H:=by
 obtain ⟨F,ds,Post,l,rs,hf,q⟩:=h
 obtain ⟨hl,hj⟩:=ht ds Post hf
 refine hj ⟨fun _=>False,F,H,fun _=>none⟩ F H (start N vs) _ (Zfi rs hl (fun _ _ _ e=>e) (fun _ z=>z.elim) (Same.refl _) (fun b o e=>⟨l b o e,.inr e⟩) fun _=>rfl) ⟨fun _ _ _ _ _ z=>z.elim,fun _ _ _ _ _ _ _ _ z=>z.elim,fun _ _ _ _ _ z=>z.elim,fun _ _ _ _ _ z=>z.elim,fun a od σ G H' Δ k pd ⟨ps,e,p⟩=>?_⟩
 subst e
 obtain ⟨o,h1,h2,h3,h4,h5,h6⟩:=pd
 cases o with
 | lst us=>
  refine q a H' us ps (fun b o e=>k.same b o (fun z=>z) e) h4 h1 (Reps.mono (fun b o e=>?_) (show Reps K G us ps from h2)) p
  have hb:b ≠ a:=by intro z; subst z; rw [h3] at e; cases e
  try dsimp only
  rw [if_neg hb]
  obtain ⟨e1,e2⟩:=k.frz b o e
  rcases e2 with z | z
  ·rw [Zdx z]; exact e1
  ·rw [Zcr (l b o z)]; exact z
 | _=>exact absurd h2 (fun z=>z)
theorem Zmk {f:BSp} {t:TS} {N:List Str} {vs:List V} {H:Hp} {Q:VK} {E:XK} (ht:∀ ps ds Post,f ps ds Post->ds.length + 1<=N.length/\JS K t (.bor (.lst ps) :: startD N.tail ds) ⟨fun Δ=>∃ ps',Δ[0]? = some (.bor (.lst ps'))/\Post .non ps',fun d Δ=>∃ ps',Δ[0]? = some (.bor (.lst ps'))/\Post d ps',fun _=>False,fun _=>False,fun _ _=>False⟩) (h:spB K f vs H Q E) :
  t { nx:=fun _ H'=>Q .non H',rt:=Q } (start N vs) H:=by
 obtain ⟨F,a,us,ws,ps,ds,Post,rfl,l,fa,ha,ru,rs,hf,q⟩:=h
 obtain ⟨hl,hj⟩:=ht ps ds Post hf
 have fin:∀ {v:V} {d:D} {σ:St} {G H':Hp} {Δ:Evt} {ps':List D},Ok K ⟨fun b=>b=a,F,H,fun _=>none⟩ G H' σ Δ -> Δ[0]? = some (.bor (.lst ps'))->Rep K G v d->Post d ps' -> Q v H':=fun {v d σ G H' Δ ps'} k e0 r p=>by
  obtain ⟨a',o,h1,h2,h3,h4,h5⟩:=k.own 0 _ _ e0 rfl
  have ea:a' = a:=h5
  subst ea
  cases o with
  | lst us'=>
   have up:Same G (glue F H H'):=fun b o e=>by
    obtain ⟨e1,e2⟩:=k.frz b o e
    rcases e2 with z | z
    ·rw [Zdx z]; exact e1
    ·rw [Zcr (l b o z)]; exact z
   exact q v H' us' ps' d (fun b o hb e=>k.same b o hb e) h2 (Reps.mono up (show Reps K G us' ps' from h3)) (r.mono up) p
  | _=>exact absurd h3 (fun z=>z)
 cases N with
 | nil=>simp at hl
 | cons n0 N=>
  have hl':ds.length<=N.length:=by simpa using hl
  have k0:=Zfi (K:=K) (H:=H) (g:=⟨fun b=>b=a,F,H,fun _=>none⟩) (N:=N) rs hl' (fun _ _ _ e=>e) (fun b z=>by subst z; rw [ha]; intro w; cases w) (Same.refl _) (fun b o e=>⟨l b o e,.inr e⟩) fun _=>rfl
  have e1:start (n0 :: N) (.ref a :: ws)=some (.ref a) :: start N ws:=by
   unfold start
   rw [List.map_cons,List.length_cons,List.length_cons,Nat.add_sub_add_right]
   rfl
  rw [e1]
  have noOd:∀ (i:Nat) x od,(startD N ds)[i]? = some x->x.od=some od->False:=fun i x od e1 e2=>by
   have hm:=List.mem_of_getElem? e1
   rcases List.mem_append.mp hm with z | z
   ·obtain ⟨d,_,rfl⟩:=List.mem_map.mp z; cases e2
   ·rw [List.mem_replicate] at z; rw [z.2] at e2; cases e2
  have k1:Ok K ⟨fun b=>b=a,F,H,fun _=>none⟩ F H (some (.ref a) :: start N ws) (.bor (.lst ps) :: startD N ds):=by
   refine ⟨k0.same,k0.lent,k0.sub,k0.frz,fun b o e=>(by cases e),(by rw [List.length_cons,List.length_cons,k0.len]),fun i d e=>?_,fun i x od e1 e2=>?_,fun i j x y od od' c e1 e2 e3 e4 _ _=>?_⟩
   ·cases i with
    | zero=>cases e
    | succ i=>exact k0.val i d e
   ·cases i with
    | zero=>cases e1; cases e2; exact ⟨a,.lst us,rfl,ha,ru,fa,rfl⟩
    | succ i=>exact (noOd i x od e1 e2).elim
   ·cases i with
    | zero=>cases j with
     | zero=>rfl
     | succ j=>exact (noOd j y od' e3 e4).elim
    | succ i=>exact (noOd i x od e1 e2).elim
  exact hj _ F H _ _ k1 ⟨fun σ G H' Δ k ⟨ps',e,p⟩=>fin k e .non p,fun v d σ G H' Δ k r ⟨ps',e,p⟩=>fin k e r p,fun _ _ _ _ _ z=>z.elim,fun _ _ _ _ _ z=>z.elim,fun _ _ _ _ _ _ _ _ z=>z.elim⟩
theorem Zbc {f:DSp} {n:Nat} (h:∀ ds Post,f ds Post->ds.length=n):∀ vs H Q E,spD K f vs H Q E->vs.length=n:=fun vs H Q E hq_=>by obtain ⟨F,ds,Post,l,rs,hf,q⟩:=hq_; rw [rs.length]; exact h ds Post hf
theorem Zg9 {f:NSp} {n:Nat} (h:∀ ds Post,f ds Post->ds.length=n):∀ vs H Q E,spN K f vs H Q E->vs.length=n:=fun vs H Q E hq_=>by obtain ⟨F,ds,Post,l,rs,hf,q⟩:=hq_; rw [rs.length]; exact h ds Post hf
theorem Zg0 {f:BSp} {n:Nat} (h:∀ ps ds Post,f ps ds Post->ds.length + 1=n):∀ vs H Q E,spB K f vs H Q E->vs.length=n:=fun vs H Q E hq_=>by obtain ⟨F,a,us,ws,ps,ds,Post,e,l,fa,ha,ru,rs,hf,q⟩:=hq_; rw [e,List.length_cons,rs.length]; exact h ps ds Post hf
end
end L2
set_option Elab.async false
set_option linter.all false
set_option maxRecDepth 100000
namespace L2
open PySem PySem.Spec PyProof.Rows
def JGn (K:PySem.W.Frag) (n:Nat) (t:TG) (d:D) (Δ:Evt) (P:Evt->Prop):Prop:=
 ∀ g G H σ v (R:St->Hp->Prop),Ok K g G H σ Δ -> Rep K G v d->(∀ σ' G' H' Δ',Ok K g G' H' σ' Δ' -> Same G G' -> (∀ j,n<=j -> σ'[j]? = σ[j]?)->P Δ' -> R σ' H')->t v σ H R
def JGsn (K:PySem.W.Frag) (n:Nat) (t:TGs) (ds:List D) (Δ:Evt) (P:Evt->Prop):Prop:=
 ∀ g G H σ vs (R:St->Hp->Prop),Ok K g G H σ Δ -> Reps K G vs ds->(∀ σ' G' H' Δ',Ok K g G' H' σ' Δ' -> Same G G' -> (∀ j,n<=j -> σ'[j]? = σ[j]?)->P Δ' -> R σ' H')->t vs σ H R
section
variable {K:PySem.W.Frag} {Δ:Evt}
theorem Zlo {n:Nat} {P:Evt->Prop} (p:P Δ):JGsn K n gNil [] Δ P:=fun g G H σ vs R k r c=>by cases r; exact ⟨rfl,c σ G H Δ k (Same.refl _) (fun _ _=>rfl) p⟩
theorem Zgc {n:Nat} {t:TG} {u:TGs} {d:D} {ds:List D} {P:Evt->Prop} (h:JGn K n t d Δ fun Δ1=>JGsn K n u ds Δ1 P):JGsn K n (gCons t u) (d :: ds) Δ P:=fun g G H σ vs R k r c=>by
 obtain ⟨_,_,rfl,r1,rr⟩:=r.inv
 next=>exact ⟨_,_,rfl,h g G H σ _ _ k r1 fun σ1 G1 H1 Δ1 k1 s1 e1 p1=>p1 g G1 H1 σ1 _ R k1 (rr.mono s1) fun σ2 G2 H2 Δ2 k2 s2 e2 p2=>c σ2 G2 H2 Δ2 k2 (s1.trans s2) (fun j hj=>(e2 j hj).trans (e1 j hj)) p2⟩
theorem Zmg {n m:Nat} {t:TGs} {ds:List D} {P:Evt->Prop} (hl:ds.length=m) (h:JGsn K n t ds Δ P):JGn K n (gTup K m t) (.tup ds) Δ P:=fun g G H σ v R k r c=>by
 obtain ⟨_,_,rfl,ha,rs⟩:=r.inv
 next=>exact ⟨_,_,rfl,SqT.of (k.live _ _ ha),by rw [rs.length]; exact hl,h g G H σ _ R k rs c⟩
end
def compD (n:Nat) (sel:List Nat) (Δ:Evt):Evt:=List.replicate n .any ++ sel.map fun i=>(Δ[i]?).getD .any
def backAt (n:Nat) (sel:List Nat) (Δi:Evt) (i:Nat) (x:Slot):Slot:=match x with
 | .val d=>.val d
 | .any=>.any
 | x=>match sel.idxOf? i with
  | none=>x
  | some j=>match Δi[n + j]? with
   | some (.own o)=>.own o
   | some (.bor o)=>.bor o
   | some (.ownA a o)=>.ownA a o
   | _=>.any
def backD (n:Nat) (sel:List Nat) (Δi:Evt):Nat->Evt->Evt
 | _,[]=>[]
 | i,x :: r=>backAt n sel Δi i x :: backD n sel Δi (i + 1) r
theorem Zcg (n:Nat) (sel:List Nat) (Δi:Evt):∀ (Δ:Evt) (k i:Nat),(backD n sel Δi k Δ)[i]? = (Δ[i]?).map (backAt n sel Δi (k + i))
 | [],k,i=>by simp [backD]
 | x :: r,k,0=>by simp [backD]
 | x :: r,k,i + 1=>by
  have:=Zcg n sel Δi r (k + 1) i
  simp only [backD,List.getElem?_cons_succ]
  rw [this,show k + 1 + i=k + (i + 1) by omega]
theorem Zgd (n:Nat) (sel:List Nat) (Δi:Evt):∀ (Δ:Evt) (k:Nat),(backD n sel Δi k Δ).length = Δ.length
 | [],k=>rfl
 | x :: r,k=>by simp [backD,Zgd n sel Δi r (k + 1)]
theorem Zc5 {sel:List Nat} {i j:Nat} (h:sel.idxOf? i=some j):sel[j]? = some i:=by
 have h2:=List.idxOf?_eq_some_iff.mp h
 obtain ⟨hj,e,_⟩:=h2
 rw [List.getElem?_eq_getElem hj,e]
theorem Zir {n:Nat} {sel:List Nat} {Δi:Evt} {i:Nat} {x y:Slot} {od:OD} (h:backAt n sel Δi i x=y) (ho:y.od=some od) :
  (x=y/\sel.idxOf? i=none)\/∃ j,sel[j]? = some i /\ Δi[n + j]? = some y/\∃ od',x.od=some od':=by
 unfold backAt at h
 cases x with
 | any=>subst h; cases ho
 | val d=>subst h; cases ho
 | own o=>
  dsimp only at h
  cases q:sel.idxOf? i with
  | none=>rw [q] at h; exact .inl ⟨h,rfl⟩
  | some j=>
   rw [q] at h
   dsimp only at h
   refine .inr ⟨j,Zc5 q,?_,o,rfl⟩
   cases e:Δi[n + j]? with
   | none=>rw [e] at h; subst h; cases ho
   | some z=>rw [e] at h; cases z <;> (subst h; first | rfl | cases ho)
 | ownA a o=>
  dsimp only at h
  cases q:sel.idxOf? i with
  | none=>rw [q] at h; exact .inl ⟨h,rfl⟩
  | some j=>
   rw [q] at h
   dsimp only at h
   refine .inr ⟨j,Zc5 q,?_,o,rfl⟩
   cases e:Δi[n + j]? with
   | none=>rw [e] at h; subst h; cases ho
   | some z=>rw [e] at h; cases z <;> (subst h; first | rfl | cases ho)
 | bor o=>
  dsimp only at h
  cases q:sel.idxOf? i with
  | none=>rw [q] at h; exact .inl ⟨h,rfl⟩
  | some j=>
   rw [q] at h
   dsimp only at h
   refine .inr ⟨j,Zc5 q,?_,o,rfl⟩
   cases e:Δi[n + j]? with
   | none=>rw [e] at h; subst h; cases ho
   | some z=>rw [e] at h; cases z <;> (subst h; first | rfl | cases ho)
section
variable {K:PySem.W.Frag} {Δ:Evt}
open Classical in
noncomputable def aside (g:Gm) (sel:List Nat) (σ:St) (Δ:Evt) (H:Hp) (acc:Addr) (ys:List V):Hp:=fun b=>
 if b=acc then some (.lst ys) else if ∃ (i:Nat) (x:Slot) (od:OD),Δ[i]? = some x/\x.od=some od/\i ∉ sel /\ σ[i]? = some (some (.ref b)) then H b else g.Xo b
theorem Zct {n:Nat} {sel:List Nat} {σ:St} {j i:Nat} (h:sel[j]? = some i):(compSt n sel σ)[n + j]? = some ((σ[i]?).getD none):=by
 unfold compSt
 rw [List.getElem?_append_right (by rw [List.length_replicate]; omega),List.length_replicate,Nat.add_sub_cancel_left,List.getElem?_map,h]
 rfl
theorem Zb4 {n:Nat} {sel:List Nat} {Δ:Evt} {k:Nat} {x:Slot} (h:(compD n sel Δ)[k]? = some x):x=.any\/∃ j i,k=n + j/\sel[j]? = some i /\ Δ[i]? = some x:=by
 unfold compD at h
 by_cases hk:k < n
 ·rw [List.getElem?_append_left (by simpa using hk),List.getElem?_replicate,if_pos hk] at h
  exact .inl (Option.some.inj h).symm
 ·rw [List.getElem?_append_right (by simpa using hk),List.length_replicate,List.getElem?_map] at h
  cases e:sel[k - n]? with
  | none=>rw [e] at h; cases h
  | some i=>
   rw [e] at h
   have h:(Δ[i]?).getD .any=x:=by simpa using h
   cases q:Δ[i]? with
   | none=>rw [q] at h; exact .inl h.symm
   | some y=>rw [q] at h; cases h; exact .inr ⟨k - n,i,by omega,e,q⟩
theorem Zep {g:Gm} {G1 H1:Hp} {σ:St} {Δ1:Evt} {n:Nat} {sel:List Nat} {acc:Addr} {X0:Hp} (hsel:sel.Nodup) (k1:Ok K g G1 H1 σ Δ1) (hacc:H1 acc=none)
  (hX:∀ b o,X0 b=some o->(b=acc/\o=.lst [])\/(b ≠ acc/\(((∃ (i:Nat) (x:Slot) (od:OD),Δ1[i]? = some x/\x.od=some od/\i ∉ sel /\ σ[i]? = some (some (.ref b)))/\H1 b=some o)\/g.Xo b=some o))):Ok K ⟨g.B,G1,g.Hz,X0⟩ G1 (upd H1 acc (.lst [])) (compSt n sel σ) (compD n sel Δ1):=by
 have hsl:∀ {j j' i:Nat},sel[j]? = some i->sel[j']? = some i->j=j':=fun {j j' i} a b=>by
  obtain ⟨h1,e1⟩:=List.getElem?_eq_some_iff.mp a
  obtain ⟨h2,e2⟩:=List.getElem?_eq_some_iff.mp b
  exact (List.getElem_inj hsel).mp (e1.trans e2.symm)
 have hGa:G1 acc=none:=by
  cases e:G1 acc with
  | none=>rfl
  | some u=>rw [k1.live _ _ e] at hacc; cases hacc
 have cs:∀ {j i:Nat} {a:Addr},sel[j]? = some i->(compSt n sel σ)[n + j]? = some (some (.ref a)) -> σ[i]? = some (some (.ref a)):=fun {j i a} ej e3=>by
  rw [Zct ej] at e3
  cases q:σ[i]? with
  | none=>rw [q] at e3; cases e3
  | some w=>rw [q] at e3; cases e3; rfl
 have oldH:∀ b o,H1 b=some o->(upd H1 acc (.lst [])) b=some o:=fun b o e=>by rw [Zaj (Zak e hacc)]; exact e
 refine ⟨fun b o hb e=>oldH b o (k1.same b o hb e),fun b hb z=>?_,Same.refl _,fun b o e=>⟨oldH b o (k1.live b o e),.inr e⟩,fun b o e=>?_,?_,fun i d e=>?_,fun i x od e1 e2=>?_,fun i j x y od od' a e1 e2 e3 e4 e5 e6=>?_⟩
 ·cases q:H1 b with
  | none=>exact k1.lent b hb q
  | some u=>rw [oldH b u q] at z; cases z
 ·rcases hX b o e with ⟨rfl,rfl⟩ | ⟨hb,⟨⟨i0,x0,od0,f1,f2,f3,f4⟩,e⟩ | e⟩
  ·refine ⟨Zam,hGa,fun i x od e1 e2 e3=>?_⟩
   rcases Zb4 e1 with z | ⟨j,i',ei,ej,z⟩
   ·subst z; cases e2
   ·subst ei
    obtain ⟨a,o,w1,w2,_⟩:=k1.own i' x od z e2
    rw [cs ej e3] at w1; cases w1
    rw [hacc] at w2; cases w2
  ·obtain ⟨a,oo,w1,w2,w3,w4,w5⟩:=k1.own i0 x0 od0 f1 f2
   rw [f4] at w1; cases w1
   refine ⟨oldH b o e,w4,fun i x od e1 e2 e3=>?_⟩
   rcases Zb4 e1 with z | ⟨j,i',ei,ej,z⟩
   ·subst z; cases e2
   ·subst ei
    have:=k1.dis i0 i' x0 x od0 od b f1 f2 z e2 f4 (cs ej e3)
    subst this
    exact f3 (List.mem_of_getElem? ej)
  ·obtain ⟨w1,w2,w3⟩:=k1.ext b o e
   refine ⟨oldH b o w1,w2,fun i x od e1 e2 e3=>?_⟩
   rcases Zb4 e1 with z | ⟨j,i',ei,ej,z⟩
   ·subst z; cases e2
   ·subst ei; exact w3 i' x od z e2 (cs ej e3)
 ·unfold compD compSt
  simp
 ·rcases Zb4 e with z | ⟨j,i',ei,ej,z⟩
  ·cases z
  ·subst ei
   obtain ⟨v,w1,w2⟩:=k1.val i' d z
   exact ⟨v,by rw [Zct ej,w1]; rfl,w2⟩
 ·rcases Zb4 e1 with z | ⟨j,i',ei,ej,z⟩
  ·subst z; cases e2
  ·subst ei
   obtain ⟨a,o,w1,w2,w3,w4,w5⟩:=k1.own i' x od z e2
   exact ⟨a,o,by rw [Zct ej,w1]; rfl,oldH a o w2,w3,w4,w5⟩
 ·rcases Zb4 e1 with z | ⟨j1,i1,ei,ej,z⟩
  ·subst z; cases e2
  ·rcases Zb4 e3 with z' | ⟨j2,i2,ei',ej',z'⟩
   ·subst z'; cases e4
   ·subst ei; subst ei'
    have:=k1.dis i1 i2 x y od od' a z e2 z' e4 (cs ej e5) (cs ej' e6)
    subst this
    rw [hsl ej ej']
theorem Zew {σ σ2:St} {Δ1 Δ2:Evt} {n:Nat} {sel:List Nat} (hσ:∀ j,n<=j -> σ2[j]? = (compSt n sel σ)[j]?) (i:Nat) (y:Slot) (od:OD) (e1:(backD n sel Δ2 0 Δ1)[i]? = some y) (e2:y.od=some od) :
  ∃ x od',Δ1[i]? = some x/\x.od=some od' /\ ((x=y/\i ∉ sel)\/∃ j,sel[j]? = some i /\ Δ2[n + j]? = some y /\ σ2[n + j]? = some ((σ[i]?).getD none)):=by
 rw [Zcg] at e1
 cases q:Δ1[i]? with
 | none=>rw [q] at e1; cases e1
 | some x=>
  rw [q] at e1
  have e1:backAt n sel Δ2 i x=y:=by simpa using e1
  rcases Zir e1 e2 with ⟨z1,z2⟩ | ⟨j,z1,z2,od',z3⟩
  ·refine ⟨x,od,rfl,by rw [z1]; exact e2,.inl ⟨z1,fun hm=>?_⟩⟩
   rw [List.idxOf?_eq_none_iff] at z2
   exact z2 hm
  ·exact ⟨x,od',rfl,z3,.inr ⟨j,z1,z2,by rw [hσ (n + j) (by omega)]; exact Zct z1⟩⟩
theorem Zd6 {g:Gm} {G1 H1 G2 H2 Xv:Hp} {σ σ2:St} {Δ1 Δ2:Evt} {n:Nat} {sel:List Nat} {acc:Addr} (k1:Ok K g G1 H1 σ Δ1) (hacc:H1 acc=none) (k2:Ok K ⟨g.B,G1,g.Hz,Xv⟩ G2 H2 σ2 Δ2) (hσ:∀ j,n<=j -> σ2[j]? = (compSt n sel σ)[j]?)
  (hX:∀ b o,b ≠ acc->(∃ (i:Nat) (x:Slot) (od:OD),Δ1[i]? = some x/\x.od=some od/\i ∉ sel /\ σ[i]? = some (some (.ref b)))->H1 b=some o->Xv b=some o) (hY:∀ b o,b ≠ acc->¬ (∃ (i:Nat) (x:Slot) (od:OD),Δ1[i]? = some x/\x.od=some od/\i ∉ sel /\ σ[i]? = some (some (.ref b)))->g.Xo b=some o->Xv b=some o):Ok K g G2 H2 σ (backD n sel Δ2 0 Δ1):=by
 have s2:Same G1 G2:=k2.sub
 have src:=Zew (Δ1:=Δ1) (Δ2:=Δ2) hσ
 refine ⟨k2.same,k2.lent,k1.sub.trans s2,fun b o e=>?_,fun b o e=>?_,by rw [Zgd,k1.len],fun i d e=>?_,fun i y od e1 e2=>?_,fun i j x y od od' a e1 e2 e3 e4 e5 e6=>?_⟩
 ·obtain ⟨q1,q2⟩:=k2.frz b o e
  refine ⟨q1,?_⟩
  rcases q2 with z | z
  ·exact .inl z
  ·exact (k1.frz b o z).2
 ·obtain ⟨w1,w2,w3⟩:=k1.ext b o e
  have hne:b ≠ acc:=by intro z; subst z; rw [hacc] at w1; cases w1
  obtain ⟨u1,u2,u3⟩:=k2.ext b o (hY b o hne (fun ⟨i,x,od,f1,f2,f3,f4⟩=>w3 i x od f1 f2 f4) e)
  refine ⟨u1,u2,fun i y od e1 e2 e3=>?_⟩
  obtain ⟨x,od',f1,f2,_⟩:=src i y od e1 e2
  exact w3 i x od' f1 f2 e3
 ·rw [Zcg] at e
  cases q:Δ1[i]? with
  | none=>rw [q] at e; cases e
  | some x=>
   rw [q] at e
   have e:backAt n sel Δ2 (0 + i) x=.val d:=by simpa using e
   have ex:x=.val d:=by
    unfold backAt at e
    cases x with
    | any=>cases e
    | val d'=>exact e
    | own o=>dsimp only at e; split at e <;> first | cases e | (split at e <;> cases e)
    | bor o=>dsimp only at e; split at e <;> first | cases e | (split at e <;> cases e)
    | ownA a o=>dsimp only at e; split at e <;> first | cases e | (split at e <;> cases e)
   subst ex
   obtain ⟨v,w1,w2⟩:=k1.val i d q
   exact ⟨v,w1,w2.mono s2⟩
 ·obtain ⟨x,od',f1,f2,f3⟩:=src i y od e1 e2
  rcases f3 with ⟨f3,f4⟩ | ⟨j,f3,f4,f5⟩
  ·subst f3
   obtain ⟨a,o,w1,w2,w3,w4,w5⟩:=k1.own i x od f1 e2
   have hne:a ≠ acc:=by intro z; subst z; rw [hacc] at w2; cases w2
   obtain ⟨u1,u2,u3⟩:=k2.ext a o (hX a o hne ⟨i,x,od,f1,e2,f4,w1⟩ w2)
   exact ⟨a,o,w1,u1,w3.mono s2,u2,w5⟩
  ·obtain ⟨a,o,w1,w2,w3,w4,w5⟩:=k2.own (n + j) y od f4 e2
   obtain ⟨a0,o0,v1,_⟩:=k1.own i x od' f1 f2
   rw [f5,v1] at w1
   have ea:a0=a:=by cases w1; rfl
   subst ea
   exact ⟨a0,o,v1,w2,w3,w4,w5⟩
 ·obtain ⟨x',od1,f1,f2,_⟩:=src i x od e1 e2
  obtain ⟨y',od2,f3,f4,_⟩:=src j y od' e3 e4
  exact k1.dis i j x' y' od1 od2 a f1 f2 f3 f4 e5 e6
theorem Ok.base {g:Gm} {G1 F X G5 H5:Hp} {σ5:St} {Δ5:Evt} (sF:Same G1 F) (hF:∀ b o,F b=some o->(g.Hz b=none\/G1 b=some o)) (k5:Ok K ⟨g.B,F,g.Hz,X⟩ G5 H5 σ5 Δ5):Ok K ⟨g.B,G1,g.Hz,X⟩ G5 H5 σ5 Δ5:=
 ⟨k5.same,k5.lent,sF.trans k5.sub,fun b o q=>by
  obtain ⟨q1,q2⟩:=k5.frz b o q
  refine ⟨q1,?_⟩
  rcases q2 with z | z
  ·exact .inl z
  ·exact hF b o z,k5.ext,k5.len,k5.val,k5.own,k5.dis⟩
theorem Zka {n:Nat} {sel:List Nat} {wi:TI} {t:TG} {tc:TT} {te:TE} {P:OD->Evt->Prop} (hsel:sel.Nodup)
  (h:JI K wi Δ fun ds Δ1=>ds.length < sizeLine/\∃ I:Nat->List D->Evt->Prop,I 0 [] (compD n sel Δ1) ∧
   (∀ i d ys Δ2,ds[i]? = some d->I i ys Δ2->JGn K n t d Δ2 fun Δ3=>JT K tc Δ3 fun b Δ4=>if b=true then JE K te Δ4 fun e Δ5=>I (i + 1) (ys ++ [e]) Δ5 else I (i + 1) ys Δ4) ∧
   ∀ ys Δ2,I ds.length ys Δ2->P (.lst ys) (backD n sel Δ2 0 Δ1)):JO K (tComp n sel wi t tc te) Δ P:=fun g G H σ Q k c=>
 h g G H σ _ k fun J ds G1 H1 Δ1 k1 s1 it ⟨hz,I,h0,ht,he⟩ acc hacc=>by
  have nacc:∀ (i:Nat) x od,Δ1[i]? = some x->x.od=some od -> σ[i]? ≠ some (some (.ref acc)):=fun i x od e1 e2 e3=>by
   obtain ⟨a,o,w1,w2,_⟩:=k1.own i x od e1 e2
   rw [e3] at w1; cases w1
   rw [hacc] at w2; cases w2
  -- the word at each turn
  let Wd:Nat->St->Hp->Prop:=fun i σ' H'=>i<=ds.length/\(∀ j,n<=j -> σ'[j]? = (compSt n sel σ)[j]?)/\∃ G ys vs Δi,ys.length<=i/\Reps K G vs ys/\Ok K ⟨g.B,G1,g.Hz,aside g sel σ Δ1 H1 acc vs⟩ G H' σ' Δi/\I i ys Δi
  refine ⟨fun i m σ' H'=>m=ds.length - i/\Wd i σ' H',⟨ds.length,by simp,Nat.zero_le _,fun _ _=>rfl,G1,[],[],compD n sel Δ1,Nat.le_refl _,.nil,?_,h0⟩,?_⟩
  ·refine Zep hsel k1 hacc fun b o e=>?_
   have e:aside g sel σ Δ1 H1 acc [] b=some o:=e
   unfold aside at e
   by_cases hb:b=acc
   ·rw [if_pos hb] at e; cases e; exact .inl ⟨hb,rfl⟩
   ·rw [if_neg hb] at e
    split at e
    case isTrue hx=>exact .inr ⟨hb,.inl ⟨hx,e⟩⟩
    case isFalse hx=>exact .inr ⟨hb,.inr e⟩
  ·rintro i m σ2 H2 ⟨rfl,hi,hσ,G2,ys,vs,Δ2,hy,ry,k2,h2⟩
   have s2:Same G1 G2:=k2.sub
   obtain ⟨stop,go⟩:=it G2 H2 s2 k2.live
   have hacc2:∀ {G' H':Hp} {σ':St} {Δ':Evt} {vs:List V} {F:Hp},Ok K ⟨g.B,F,g.Hz,aside g sel σ Δ1 H1 acc vs⟩ G' H' σ' Δ' -> H' acc=some (.lst vs)/\G' acc=none/\∀ (i:Nat) x od,Δ'[i]? = some x->x.od=some od -> σ'[i]? ≠ some (some (.ref acc)):=fun {G' H' σ' Δ' vs F} kk=>
    kk.ext acc (.lst vs) (by show aside g sel σ Δ1 H1 acc vs acc=_; unfold aside; rw [if_pos rfl])
   by_cases hlt:i < ds.length
   ·obtain ⟨g1,g2⟩:=go i _ (List.getElem?_eq_getElem hlt)
    refine .inr ⟨g1,fun σ' H'=>Wd (i + 1) σ' H',fun σ' H' p'=>⟨ds.length - (i + 1),by omega,rfl,p'⟩,fun x H3 y=>?_⟩
    obtain ⟨G3,a1,a2,a3,a4⟩:=g2 x H3 y
    have k3:=k2.grow a1 a2 a3
    have hG3:∀ b o,G3 b=some o->(g.Hz b=none\/G1 b=some o):=fun b o q=>(k3.frz b o q).2
    have k3':Ok K ⟨g.B,G3,g.Hz,aside g sel σ Δ1 H1 acc vs⟩ G3 H3 σ2 Δ2:=⟨k3.same,k3.lent,Same.refl _,fun b o q=>⟨(k3.frz b o q).1,.inr q⟩,k3.ext,k3.len,k3.val,k3.own,k3.dis⟩
    have ry3:Reps K G3 vs ys:=ry.mono a1
    have s13:Same G1 G3:=s2.trans a1
    refine ht i _ ys Δ2 (List.getElem?_eq_getElem hlt) h2 ⟨g.B,G3,g.Hz,aside g sel σ Δ1 H1 acc vs⟩ G3 H3 σ2 x _ k3' a4 fun σ4 G4 H4 Δ4 k4 s4 e4 p4=>?_
    have hσ4:∀ j,n<=j -> σ4[j]? = (compSt n sel σ)[j]?:=fun j hj=>(e4 j hj).trans (hσ j hj)
    refine p4 _ G4 H4 σ4 _ k4 fun b G5 H5 Δ5 k5 s5 p5=>?_
    cases b with
    | false=>exact ⟨hlt,hσ4,G5,ys,vs,Δ5,by omega,ry3.mono (s4.trans s5),k5.base s13 hG3,p5⟩
    | true=>
     refine (show JE K te Δ5 _ from p5) _ G5 H5 σ4 _ k5 fun v d G6 H6 Δ6 k6 s6 r6 p6=>?_
     have ry6:Reps K G6 vs ys:=ry3.mono (s4.trans (s5.trans s6))
     obtain ⟨b1,b2,b3⟩:=hacc2 k6
     refine ⟨vs,b1,by rw [ry6.length]; omega,hlt,hσ4,G6,ys ++ [d],vs ++ [v],Δ6,by rw [List.length_append,List.length_singleton]; omega,ry6.append (.cons r6 .nil),?_,p6⟩
     have k7:=k6.base s13 hG3
     have oldH:∀ b o,b ≠ acc->H6 b=some o->(upd H6 acc (.lst (vs ++ [v]))) b=some o:=fun b o hb e=>by rw [Zaj hb]; exact e
     have aNe:∀ b o,b ≠ acc->aside g sel σ Δ1 H1 acc (vs ++ [v]) b=some o->aside g sel σ Δ1 H1 acc vs b=some o:=fun b o hb e=>by
      unfold aside at e ⊢
      rw [if_neg hb] at e ⊢; exact e
     refine ⟨fun b o hb e=>?_,fun b hb=>?_,k7.sub,fun b o e=>?_,fun b o e=>?_,k7.len,k7.val,fun i x od e1 e2=>?_,k7.dis⟩
     ·have hne:b ≠ acc:=by
       intro z; subst z
       have e:g.Hz b=some o:=e
       rw [k1.there hacc] at e; cases e
      exact oldH b o hne (k7.same b o hb e)
     ·by_cases hne:b=acc
      ·subst hne; rw [Zam]; intro z; cases z
      ·rw [Zaj hne]; exact k7.lent b hb
     ·have hne:b ≠ acc:=by intro z; subst z; rw [b2] at e; cases e
      exact ⟨oldH b o hne (k7.frz b o e).1,(k7.frz b o e).2⟩
     ·by_cases hne:b=acc
      ·subst hne
       have e:aside g sel σ Δ1 H1 b (vs ++ [v]) b=some o:=e
       unfold aside at e
       rw [if_pos rfl] at e
       cases e
       exact ⟨Zam,b2,b3⟩
      ·obtain ⟨w1,w2,w3⟩:=k7.ext b o (aNe b o hne e)
       exact ⟨oldH b o hne w1,w2,w3⟩
     ·obtain ⟨a,o,w1,w2,w3,w4,w5⟩:=k7.own i x od e1 e2
      have hne:a ≠ acc:=by intro z; subst z; exact b3 i x od e1 e2 w1
      exact ⟨a,o,w1,oldH a o hne w2,w3,w4,w5⟩
   ·have e:i=ds.length:=by omega
    subst e
    refine .inl ⟨stop,?_⟩
    obtain ⟨b1,b2,b3⟩:=hacc2 k2
    have src:=Zew (Δ1:=Δ1) (Δ2:=Δ2) hσ
    have k9:Ok K g G2 H2 σ (backD n sel Δ2 0 Δ1):=Zd6 k1 hacc k2 hσ (fun b o hb hx e=>by show aside g sel σ Δ1 H1 acc vs b=_; unfold aside; rw [if_neg hb,if_pos hx]; exact e) (fun b o hb hx e=>by show aside g sel σ Δ1 H1 acc vs b=_; unfold aside; rw [if_neg hb,if_neg hx]; exact e)
    refine c acc _ G2 H2 _ k9 (s1.trans s2) ⟨.lst vs,b1,(show OwnRep K G2 (.lst vs) (.lst ys) from ry),b2,k1.there hacc,?_,fun i y od e1 e2 e3=>?_⟩ (he ys Δ2 h2)
    ·cases q:g.Xo acc with
     | none=>rfl
     | some u=>have z:=(k1.ext acc u q).1; rw [hacc] at z; cases z
    ·obtain ⟨x',od1,f1,f2,_⟩:=src i y od e1 e2
     exact nacc i x' od1 f1 f2 e3
theorem Znp {n:Nat} {sel:List Nat} {wi:TI} {t:TG} {tc:TT} {te:TE} {P:D->Evt->Prop} (hsel:sel.Nodup)
  (h:JI K wi Δ fun ds Δ1=>ds.length < sizeLine/\∃ I:Nat->List D->Evt->Prop,I 0 [] (compD n sel Δ1) ∧
   (∀ i d ys Δ2,ds[i]? = some d->I i ys Δ2->JGn K n t d Δ2 fun Δ3=>JT K tc Δ3 fun b Δ4=>if b=true then JE K te Δ4 fun e Δ5=>I (i + 1) (ys ++ [e]) Δ5 else I (i + 1) ys Δ4) ∧
   ∀ ys Δ2,I ds.length ys Δ2->P (.lst ys) (backD n sel Δ2 0 Δ1)):JE K (tComp n sel wi t tc te) Δ P:=
 Zbo (Zka hsel fun g G H σ R k c=>h g G H σ R k fun J ds G' H' Δ' k' s' it ⟨z,I,h0,ht,he⟩=>c J ds G' H' Δ' k' s' it ⟨z,I,h0,ht,fun ys Δ2 q=>⟨ys,rfl,he ys Δ2 q⟩⟩)
theorem Zho {n:Nat} {sel:List Nat} {wi:TI} {t:TG} {tc:TT} {te:TE} {P:D->Evt->Prop} (hsel:sel.Nodup)
  (h:JI K wi Δ fun ds Δ1=>ds.length < sizeLine/\∃ (fix:Evt) (p:D->Bool) (f:D->D),compD n sel Δ1=List.replicate n .any ++ fix ∧
   (∀ (i:Nat) d (ts:Evt),ds[i]? = some d->ts.length=n->JGn K n t d (ts ++ fix) fun Δ3=>JT K tc Δ3 fun b Δ4=>b=p d/\if b=true then JE K te Δ4 fun e Δ5=>e=f d/\∃ ts',ts'.length=n /\ Δ5=ts' ++ fix else ∃ ts',ts'.length=n /\ Δ4=ts' ++ fix) ∧
   P (.lst ((ds.filter p).map f)) (backD n sel (List.replicate n .any ++ fix) 0 Δ1)):JE K (tComp n sel wi t tc te) Δ P:=by
 refine Znp hsel fun g G H σ R k c=>h g G H σ R k fun J ds G' H' Δ' k' s' it ⟨z,fix,p,f,e0,ht,he⟩=>c J ds G' H' Δ' k' s' it ⟨z,fun i ys Δ=>ys=((ds.take i).filter p).map f/\∃ ts:Evt,ts.length=n /\ Δ = ts ++ fix,?_,?_,?_⟩
 ·exact ⟨by simp,_,by simp,e0⟩
 ·rintro i d ys Δ2 hd ⟨rfl,ts,hts,rfl⟩
  have tk:ds.take (i + 1)=ds.take i ++ [d]:=by
   rw [List.take_add_one,hd]; rfl
  intro g G H σ v R k r c
  refine ht i d ts hd hts g G H σ v R k r fun σ' G' H' Δ' k' s' e' q=>c σ' G' H' Δ' k' s' e' fun g G H σ Q k c=>q g G H σ Q k fun b G' H' Δ' k' s' ⟨eb,q⟩=>c b G' H' Δ' k' s' ?_
  cases b with
  | true=>
   rw [if_pos rfl] at q ⊢
   refine q.mono fun e Δ5 ⟨e1,ts',h1,h2⟩=>⟨?_,ts',h1,h2⟩
   rw [tk,List.filter_append,List.map_append,List.filter_cons,<- eb,e1]
   rfl
  | false=>
   rw [if_neg Bool.false_ne_true] at q ⊢
   obtain ⟨ts',h1,h2⟩:=q
   refine ⟨?_,ts',h1,h2⟩
   rw [tk,List.filter_append,List.map_append,List.filter_cons,<- eb]
   simp
 ·rintro ys Δ2 ⟨rfl,ts,hts,rfl⟩
  rw [List.take_length]
  have e:backD n sel (ts ++ fix) 0 Δ' = backD n sel (List.replicate n .any ++ fix) 0 Δ':=by
   apply List.ext_getElem?
   intro i
   rw [Zcg,Zcg]
   congr 1
   funext x
   unfold backAt
   have e2:∀ j,(ts ++ fix)[n + j]? = (List.replicate n Slot.any ++ fix)[n + j]?:=fun j=>by
    rw [List.getElem?_append_right (by omega),List.getElem?_append_right (by simp),hts,List.length_replicate]
   simp only [e2]
  rw [e]
  exact he
end
end L2
set_option Elab.async false
set_option linter.all false
set_option maxRecDepth 100000
namespace HT
open PySem PyProof.Rows
section
variable {prog:Program} {w:World} {A:Around} {E:Value->Shared->Prop} {s:Shared}
theorem getItem_tuple_whole {t sl:Addr} {items:Array Value} {vl vu:Value} {lo hi:Option Int} {Q:Value->Shared->Prop} (ht:IsTup s.heap t items) (hs:s.heap.IsSliceOf sl vl vu .none) (pl:IsPart vl lo) (pu:IsPart vu hi)
  (hw:sIx items.size 0 lo=0/\sIx items.size items.size hi=items.size) (h:Q (.ref t) s):wpAny (model prog w) A (getItem (.ref t) (.ref sl)) Q E s:=by
 obtain ⟨os,hos,hcs,hds⟩:=id hs
 have hTs:s.TypeIs (.ref sl) "slice":=⟨os,hos,hcs⟩
 unfold getItem
 try with_reducible refine wpAny_holding ?_
 first | refine wpAny_bind (wpAny_pure ?_) | skip
 refine wpAny_bind (wpAny_sequenceKey ht.typeIs (by decide) ?_)
 refine wpAny_bind (wpAny_callSpecial?_slot (name:=Str.ofString "__getitem__") ht.typeIs PyProof.Rows.slot_tuple_getitem
  (wpAny_call_entry PyProof.Rows.slot_tuple_getitem ht.typeIs entry_tuple_getitem ?_ (args_tuple_getitem _ _)))
 show wpAny _ _ (Builtin.Tuple.tupleItemsOf (.ref t) >>= _) _ _ s
 refine wpAny_bind (tupleItemsOf_ ht ?_)
 refine wpAny_bind (wpAny_typeOf hTs ?_)
 rw [if_pos (by decide)]
 refine wpAny_bind (Zcj hs pl pu ?_)
 have hyes:(((sIx items.size 0 lo:Nat):Int) == 0 && (1:Int) == 1 && (sIx items.size items.size hi - sIx items.size 0 lo) == items.size)=true:=by
  rw [hw.1,hw.2]; simp
 show wpAny _ _ (if (((sIx items.size 0 lo:Nat):Int) == 0 && (1:Int) == 1 && (sIx items.size items.size hi - sIx items.size 0 lo) == items.size)=true then _ else _) _ _ s
 rw [if_pos hyes]
 first
  | exact wpAny_pure ⟨_,rfl,wpAny_pure h⟩
  | exact wpAny_pure ⟨_,rfl,h⟩
  | exact wpAny_bind (wpAny_pure (wpAny_pure ⟨_,rfl,wpAny_pure h⟩))
  | (refine wpAny_bind (wpAny_bind (wpAny_typeOf ht.typeIs (wpAny_pure ?_)))
     rw [if_pos (by decide)]
     exact wpAny_bind (wpAny_rule (wpAny_pure ⟨_,rfl,wpAny_pure h⟩)))
theorem pick_rev (xs:Array Value):((List.range xs.size).filterMap fun (m:Nat)=>xs[(((xs.size:Int) - 1) + (m:Int) * -1).toNat]?).toArray=xs.toList.reverse.toArray:=by
 congr 1
 apply List.ext_getElem?
 intro i
 have key:∀ (l:List Nat),(∀ m ∈ l,m < xs.size)->(l.filterMap fun (m:Nat)=>xs[(((xs.size:Int) - 1) + (m:Int) * -1).toNat]?)=l.map fun m=>xs.toList.reverse.getD m .none:=by
  intro l
  induction l with
  | nil=>intro _; rfl
  | cons a r ih=>
   intro h
   have ha:=h a List.mem_cons_self
   have e:(((xs.size:Int) - 1) + (a:Int) * -1).toNat=xs.size - 1 - a:=by omega
   have e2:xs[(((xs.size:Int) - 1) + (a:Int) * -1).toNat]? = some (xs.toList.reverse.getD a .none):=by
    rw [e,List.getD_eq_getElem?_getD,List.getElem?_reverse (by simpa using ha)]
    simp only [Array.length_toList,Array.getElem?_toList]
    rw [Array.getElem?_eq_getElem (by omega)]
    rfl
   rw [List.filterMap_cons,e2,List.map_cons,ih fun m hm=>h m (List.mem_cons_of_mem _ hm)]
 rw [key _ (fun m hm=>List.mem_range.mp hm),List.getElem?_map]
 by_cases hi:i < xs.size
 ·rw [List.getElem?_range hi,List.getElem?_eq_getElem (by simpa using hi)]
  simp [List.getD_eq_getElem?_getD,hi]
 ·rw [List.getElem?_eq_none (by simpa using hi),List.getElem?_eq_none (by simpa using hi)]
  rfl
end
end HT
namespace L2
open PySem PySem.Spec PyProof.Rows
section
variable {X:Cx}
def rSlT' (K:PySem.W.Frag):V->Option Int->Option Int->Hp->VK->Prop:=fun x lo hi H Q=>∃ a xs,x=.ref a/\SqT K H a xs ∧
 ((HT.sIx xs.length 0 lo=0/\HT.sIx xs.length xs.length hi=xs.length)->Q (.ref a) H) ∧
 (¬ (HT.sIx xs.length 0 lo=0/\HT.sIx xs.length xs.length hi=xs.length)->∀ p,H p=none->Q (.ref p) (upd H p (.tup (cutV xs lo hi))))
theorem Zmm:SlR X (rSlT' X.K):=by
 intro pins s σ H x v vl vu lo hi sl Q I rx hs pl pu h
 obtain ⟨a,xs,rfl,hx,q1,q2⟩:=h
 by_cases hw:HT.sIx xs.length 0 lo=0/\HT.sIx xs.length xs.length hi=xs.length
 ·cases rx
  obtain ⟨its,r,ht,hz⟩:=I.tuple hx
  have hlen:its.toArray.size=xs.length:=by rw [List.size_toArray]; exact r.length.symm
  exact ⟨"tuple",_,PyProof.Rows.slot_tuple_getitem.lookup,ht.typeIs,HT.getItem_tuple_whole ht hs pl pu (by rw [hlen]; exact hw) ⟨.ref a,H,I,rfl,q1 hw⟩⟩
 ·exact Zpe pins s σ H (.ref a) v vl vu lo hi sl Q I rx hs pl pu ⟨a,xs,rfl,hx,hw,q2 hw⟩
def rSlU (K:PySem.W.Frag):V->Option Int->Option Int->Hp->VK->Prop:=fun x lo hi H Q=>rSlL K x lo hi H Q\/rSlT' K x lo hi H Q
theorem slU:SlR X (rSlU X.K):=Zme.or Zmm
def tSlR (K:PySem.W.Frag) (te:TE):TE:=fun σ H Q=>te σ H fun x H1=>∃ a xs,x=.ref a/\SqT K H1 a xs/\∀ p,H1 p=none->Q (.ref p) (upd H1 p (.tup xs.reverse))
def rCatT' (K:PySem.W.Frag):R2:=fun x y H Q=>∃ a b xs ys,x=.ref a/\y=.ref b/\SqT K H a xs/\SqT K H b ys/\xs.length + ys.length<=sizeLine ∧
 (xs=[]->Q (.ref b) H)/\(xs ≠ []->ys=[]->Q (.ref a) H)/\(xs ≠ []->ys ≠ []->∀ p,H p=none->Q (.ref p) (upd H p (.tup (xs ++ ys))))
theorem Zls:OpR X (binaryOp .Add) (rCatT' X.K):=by
 intro pins s σ H x y v u Q I rx ry h
 obtain ⟨a,b,xs,ys,rfl,rfl,ha,hb,hz,q0,q1,q2⟩:=h
 by_cases hx:xs=[]
 ·cases rx
  cases ry
  obtain ⟨its,r1,p1,_⟩:=I.tuple ha
  obtain ⟨its2,r2,p2,_⟩:=I.tuple hb
  obtain ⟨⟨cls,dd,data,sl⟩,ho,hc,n,hd⟩:=id p1
  obtain ⟨⟨cls2,dd2,data2,sl2⟩,ho2,hc2,n2,hd2⟩:=id p2
  simp only at hc hd hc2 hd2
  subst hc hd hc2 hd2
  exact concat_meets ⟨_,ho,rfl⟩ ⟨_,ho2,rfl⟩ noFill_tuple_add seq_tuple_add PySem.F.slot_tuple_add PySem.F.entry_tuple_add (PySem.F.args_tuple_add_2 _ _)
   (tuple_addW0 a b its.toArray its2.toArray n n2 dd dd2 sl sl2 (by simp [r1.nil_iff.mpr hx])) ⟨ho,ho2,⟨.ref b,H,I,rfl,q0 hx⟩⟩
 ·exact Zn4 pins s σ H (.ref a) (.ref b) v u Q I rx ry ⟨a,b,xs,ys,rfl,rfl,ha,hb,hx,hz,q1 hx,q2 hx⟩
def rAddU (K:PySem.W.Frag):R2:=fun x y H Q=>rI0 (fun i j=>.int (i + j)) x y H Q\/(rCatT' K x y H Q\/rCat x y H Q)
theorem Zm1:OpR X (binaryOp .Add) (rAddU X.K):=Zpb.or (Zls.or Zo8)
theorem Zcp:OpR X (compareOp .Eq) rEq:=Zp0
theorem Zcv:OpR X (compareOp .NotEq) rNe:=Zpw
def rIxD:R2:=fun x y H Q=>∃ a v,x=.ref a/\DGet H a y (some v)/\Q v H
theorem Zml (hu:X.A.units + 1 < cLine):IxR X rIxD:=by
 intro value slice pins s σ H x y v u Q I rx ry h hs
 obtain ⟨a,w',rfl,g,q⟩:=h
 cases rx
 exact tail_any (Zg7 I g) PySem.F.slot_dict_getitem.lookup (Zkh hu I g ry fun w2 s3 I3 rw'=>⟨w',H,I3,rw',q⟩) hs
def rIxU (K:PySem.W.Frag):R2:=fun x y H Q=>rIx K x y H Q\/rIxD x y H Q
theorem ixU (hu:X.A.units + 1 < cLine):IxR X (rIxU X.K):=Zpf.or (Zml hu)
def rSetD:V->V->V->Hp->(Hp->Prop)->Prop:=fun o i v H Q=>∃ a H',o=.ref a/\DPut H a i v H' /\ Q H'
theorem Zkp (hu:X.A.units + 1 < cLine):PSet X rSetD:=by
 intro pins s σ H o i v ov iv u Q I ro ri rv h
 obtain ⟨a,H',rfl,g,q⟩:=h
 cases ro
 exact Zj9 hu I g ri rv fun s' I'=>⟨H',I',q⟩
theorem PSet.or {t t':TSet} (h:PSet X t) (h':PSet X t'):PSet X (fun o i v H Q=>t o i v H Q\/t' o i v H Q):=by
 intro pins s σ H o i v ov iv u Q I ro ri rv q
 rcases q with q | q
 ·exact h pins s σ H o i v ov iv u Q I ro ri rv q
 ·exact h' pins s σ H o i v ov iv u Q I ro ri rv q
def rSetU:V->V->V->Hp->(Hp->Prop)->Prop:=fun o i v H Q=>rSetL o i v H Q\/rSetD o i v H Q
theorem setU (hu:X.A.units + 1 < cLine):PSet X rSetU:=Zkx.or (Zkp hu)
def rLenU (K:PySem.W.Frag):List V->Hp->VK->Prop:=fun xs H Q=>(∃ p ys,xs=[.ref p]/\(SqL K H p ys\/SqT K H p ys)/\Q (.int ys.length) H)\/∃ a kvs,xs=[V.ref a]/\H a=some (.dK kvs)/\Q (.int kvs.length) H
theorem Zjv:CallR X (.builtin "len") (rLenU X.K):=Zfn.or Zkm
def rIsi (K:PySem.W.Frag):List V->Hp->VK->Prop:=fun xs H Q=>∃ x n t b,xs=[x,.ty n]/\TyOf K H x t/\PySem.W.kitOne K t (.type n)=some b/\Q (.bl b) H
theorem Zgz:CallR X (.builtin "isinstance") (rIsi X.K):=by
 intro pins s σ H xs us Q I r h
 obtain ⟨x,n,t,b,rfl,ty,e,q⟩:=h
 obtain ⟨u,u',rfl,rx,rn⟩:=vals2 r
 cases (show u' = Value.type n from rn)
 exact Zji I rx ty e fun tk=>⟨.bl b,H,I.tok _,rfl,q⟩
def insI (n:Nat) (i:Int):Nat:=if i < 0 then (i + (n:Int)).toNat else min i.toNat n
def rInsert:V->List V->Hp->VK->Prop:=fun x vs H Q=>∃ l xs i y,x=.ref l/\vs=[.int i,y]/\H l=some (.lst xs)/\xs.length < sizeLine /\ -(2 ^ 62)<=i/\i < 2 ^ 62/\Q .non (upd H l (.lst (xs.take (insI xs.length i) ++ y :: xs.drop (insI xs.length i))))
theorem Zj6:MtM X "list.insert" rInsert:=by
 intro pins s σ H x vs v us Q I rx rv h
 obtain ⟨l,xs,i,y,rfl,rfl,hH,hz,h1,h2,q⟩:=h
 cases rx
 obtain ⟨ui,uy,rfl,⟨t,rfl⟩,ry⟩:=rv.two
 obtain ⟨z,its,n,r,hl,e⟩:=I.lstM hH
 refine call_meets F.slot_list_insert ⟨_,e,rfl⟩ F.entry_list_insert (F.args_list_insert_3 _ _ _) (PySem.AutoSeq1.list_insert_list_int_val_1 l its.toArray n i t uy (by
  have hf:Builtin.List.listFitsIndex i=true:=by
   unfold Builtin.List.listFitsIndex
   rw [decide_eq_true (by omega),decide_eq_true (by omega)]
   rfl
  rw [hf]; decide) (by rw [List.size_toArray]; omega)) ⟨e,?_⟩
 refine ⟨.non,_,I.lset (its':=its.take (insI xs.length i) ++ uy :: its.drop (insI xs.length i)) hH e ?_ ((r.take _).append (.cons ry (r.drop _))) ?_,rfl,q⟩
 ·have e1:(if i < 0 then (i + (its.toArray.size:Int)).toNat else min i.toNat its.toArray.size)=insI xs.length i:=by
   unfold insI; rw [List.size_toArray,hl]
  dsimp only
  rw [e1]
  apply Array.ext'
  simp
  rw [List.take_of_length_le (by rw [List.length_drop]; exact Nat.le_refl _)]
 ·rw [List.length_append,List.length_cons,List.length_take,List.length_drop]
  omega
def rIndexT (K:PySem.W.Frag):V->List V->Hp->VK->Prop:=fun x vs H Q=>∃ a xs y j,x=.ref a/\vs=[y]/\SqT K H a xs/\flatV y=true/\xs.all flatV=true/\j < xs.length ∧
 (∃ z,xs[j]? = some z/\eqV z y=true)/\(∀ m z,m < j->xs[m]? = some z->eqV z y=false)/\Q (.int j) H
end
end L2
namespace L2
open PySem PySem.Spec PyProof.Rows
section
variable {X:Cx}
theorem PI.or {tg iter:Expr} {w w':TI} (h:PI X tg iter w) (h':PI X tg iter w'):PI X tg iter (fun σ H R=>w σ H R\/w' σ H R):=by
 intro pins s σ H R I q
 rcases q with q | q
 ·exact h pins s σ H R I q
 ·exact h' pins s σ H R I q
def iSeq (K:PySem.W.Frag) (tl:TE):TI:=fun σ H R=>iList K tl σ H R\/iTup K tl σ H R
theorem Zop {tg l:Expr} {tl:TE} (hl:PE X l tl):PI X tg l (iSeq X.K tl):=(Zn2 hl).or (Zpn hl)
def tTru (K:PySem.W.Frag) (ta:TE):TT:=fun σ H Q=>ta σ H fun x H'=>∃ k,TruV K x H' k/\Q k H'
theorem Zox {a:Expr} {ta:TE} (ha:PE X a ta) (he:∀ whole,isTrue a X.env whole=(do let v ← whole; standAt a.pos; holding [v] (truthy v))):PT X a (tTru X.K ta):=Zkv ha he
end
section
variable {K:PySem.W.Frag} {Δ:Evt} {P:D->Evt->Prop}
theorem Zck {i j:Int} (p:P (.int (i + j)) Δ):JR2 K (rAddU K) (.int i) (.int j) Δ P:=fun g G H σ Q x y k rx ry c=>by
 cases rx.inv; cases ry.inv
 exact .inl ⟨i,j,rfl,rfl,c _ _ G H Δ k (Same.refl _) (.int _) p⟩
theorem Zez {ds es:List D} (hz:ds.length + es.length<=sizeLine) (p:P (.tup (ds ++ es)) Δ):JR2 K (rAddU K) (.tup ds) (.tup es) Δ P:=fun g G H σ Q x y k rx ry c=>by
 cases rx with
 | tup ha ra=>
  cases ry with
  | tup hb rb=>
   refine .inr (.inl ⟨_,_,_,_,rfl,rfl,SqT.of (k.live _ _ ha),SqT.of (k.live _ _ hb),by rw [ra.length,rb.length]; exact hz,fun e=>?_,fun _ e=>?_,fun _ _ q hq=>?_⟩)
   ·subst e; cases ra; exact c _ _ G H Δ k (Same.refl _) (.tup hb rb) p
   ·subst e; cases rb; rw [List.append_nil] at p; exact c _ _ G H Δ k (Same.refl _) (.tup ha ra) p
   ·obtain ⟨k2,sg⟩:=k.laid hq (.tup _)
    exact c _ _ _ _ Δ k2 sg (.tup Zam ((ra.append rb).mono sg)) p
theorem Zbj {ds:List D} {i:Int} {d:D} (h:atI ds i=some d) (p:P d Δ):JR2 K (rIxU K) (.tup ds) (.int i) Δ P:=fun g G H σ Q x y k rx ry c=>
 .inl (.inr (.inl (Zoo h p g G H σ Q x y k rx ry c)))
theorem Zc0 {ds:List D} {i:Int} {d:D} (h:atI ds i=some d) (p:P d Δ):JR2 K (rIxU K) (.lst ds) (.int i) Δ P:=fun g G H σ Q x y k rx ry c=>
 .inl (.inl (Zok h p g G H σ Q x y k rx ry c))
theorem Zmd {n:Nat} {tb:TE} {x:Slot} {ds:List D} (hx:Δ[n]? = some x) (ho:x.od=some (.lst ds)) (h:JE K tb Δ fun e Δ1=>∃ y es i d,Δ1[n]? = some y/\y.od=some (.lst es)/\e=.int i/\atI es i=some d/\P d Δ1):JE K (tOp (rIxU K) (tVar n) tb) Δ P:=fun g G H σ Q k c=>by
 obtain ⟨a,o,h1,h2,h3,h4,h5⟩:=k.own n x _ hx ho
 refine ⟨.ref a,h1,h g G H σ _ k fun v e G1 H1 Δ1 k1 s1 r1 ⟨y,es,i,d,q1,q2,q3,q4,p⟩=>?_⟩
 subst q3
 cases r1.inv
 obtain ⟨a',o',w1,w2,w3,w4,w5⟩:=k1.own n y _ q1 q2
 rw [h1] at w1; cases w1
 cases o' with
 | lst vs=>
  obtain ⟨u,z1,z2⟩:=Zfk (show Reps K G1 vs es from w3) q4
  exact .inl (.inl ⟨a,vs,i,u,rfl,rfl,SqL.of w2,z1,c u d G1 H1 Δ1 k1 s1 z2 p⟩)
 | _=>exact absurd w3 (fun z=>z)
theorem Zki {n:Nat} {ti te:TE} {Pp:Pst} (h:JE K te Δ fun d Δ1=>(∃ x od,Δ1[n]? = some x/\x.od=some od)/\JE K ti Δ1 fun e Δ2=>∃ x ds i j,Δ2[n]? = some x/\x.od=some (.lst ds)/\e=.int i/\ixN ds.length i=some j/\Pp.nx (Δ2.set n (x.put (.lst (ds.set j d))))) :
  JS K (tAsg te (gSub (tVar n) ti rSetU)) Δ Pp:=fun g G H σ E k c=>
 h g G H σ _ k fun v d G1 H1 Δ1 k1 s1 r1 hq_=>by
  obtain ⟨⟨x,od,hx,ho⟩,p1⟩:=hq_
  obtain ⟨a,o,h1,h2,h3,h4,h5⟩:=k1.own n x _ hx ho
  refine ⟨.ref a,h1,p1 g G1 H1 σ _ k1 fun u e G2 H2 Δ2 k2 s2 r2 ⟨y,ds,i,j,q1,q2,q3,q4,p⟩=>?_⟩
  subst q3
  cases r2.inv
  obtain ⟨a',o',w1,w2,w3,w4,w5⟩:=k2.own n y _ q1 q2
  rw [h1] at w1; cases w1
  cases o' with
  | lst vs=>
   have w3:Reps K G2 vs ds:=w3
   exact .inl ⟨a,vs,i,j,rfl,rfl,w2,by rw [w3.length]; exact q4,c.nx σ G2 _ _ (k2.write q1 q2 h1 (show OwnRep K G2 (.lst (vs.set j v)) (.lst (ds.set j d)) from w3.set j (r1.mono s2))) p⟩
  | _=>exact absurd w3 (fun z=>z)
theorem Zbb {ds es:List D} (he:ds=[.lst es]\/ds=[.tup es]) (p:P (.int es.length) Δ):JC K (rLenU K) ds Δ P:=fun g G H σ Q vs k rs c=>.inl (Zo6 he p g G H σ Q vs k rs c)
theorem Ze1 {n:Nat} {x:Slot} {ds:List D} (hx:Δ[n]? = some x) (ho:x.od=some (.lst ds)) (p:P (.int ds.length) Δ):JE K (tCB (rLenU K) (tCons (tVar n) tNil)) Δ P:=fun g G H σ Q k c=>by
 obtain ⟨v,h1,h2⟩:=Zmq hx ho p g G H σ Q k c
 exact ⟨v,h1,.inl h2⟩
def cutD (ds:List D) (lo hi:Option Int):List D:=(ds.drop (HT.sIx ds.length 0 lo)).take (HT.sIx ds.length ds.length hi - HT.sIx ds.length 0 lo)
theorem Zj1 {α:Type} (xs:List α) (lo hi:Option Int) (h:HT.sIx xs.length 0 lo=0/\HT.sIx xs.length xs.length hi=xs.length):(xs.drop (HT.sIx xs.length 0 lo)).take (HT.sIx xs.length xs.length hi - HT.sIx xs.length 0 lo)=xs:=by
 rw [h.1,h.2]; simp
def JO2 (t:TO) (Δ:Evt) (K:PySem.W.Frag) (P:Option Int->Evt->Prop):Prop:=
 ∀ g G H σ (Q:Option Int->Hp->Prop),Ok K g G H σ Δ -> (∀ o G' H' Δ',Ok K g G' H' σ Δ' -> Same G G' -> P o Δ' -> Q o H')->t σ H Q
theorem Zbu {P:Option Int->Evt->Prop} (p:P none Δ):JO2 tNoPart Δ K P:=fun g G H σ Q k c=>c none G H Δ k (Same.refl _) p
theorem Zbr {te:TE} {P:Option Int->Evt->Prop} (h:JE K te Δ fun d Δ1=>∃ i,d=.int i/\P (some i) Δ1):JO2 (tPart te) Δ K P:=fun g G H σ Q k c=>
 h g G H σ _ k fun v d G1 H1 Δ1 k1 s1 r1 hq_=>by obtain ⟨i,e,p⟩:=hq_; subst e; cases r1.inv; exact ⟨i,rfl,c (some i) G1 H1 Δ1 k1 s1 p⟩
def slD (d:D) (lo hi:Option Int):Option D:=match d with
 | .lst ds=>some (.lst (cutD ds lo hi))
 | .scr ds=>some (.lst (cutD ds lo hi))
 | .tup ds=>some (.tup (cutD ds lo hi))
 | _=>none
theorem Zeu {te:TE} {tl th:TO} (h:JE K te Δ fun d Δ1=>JO2 tl Δ1 K fun lo Δ2=>JO2 th Δ2 K fun hi Δ3=>∃ e,slD d lo hi=some e/\P e Δ3):JE K (tSl (rSlU K) te tl th) Δ P:=fun g G H σ Q k c=>
 h g G H σ _ k fun v d G1 H1 Δ1 k1 s1 r1 p1=>p1 g G1 H1 σ _ k1 fun lo G2 H2 Δ2 k2 s2 p2=>p2 g G2 H2 σ _ k2 fun hi G3 H3 Δ3 k3 s3 hq_=>by
  obtain ⟨e,he,p⟩:=hq_
  have r3:=r1.mono (s2.trans s3)
  have cc:=c.up (s1.trans (s2.trans s3))
  cases r3 with
  | lst ha rs=>
   cases he
   refine .inl ⟨_,_,rfl,SqL.of (k3.live _ _ ha),fun q hq=>?_⟩
   obtain ⟨k4,sg⟩:=k3.laid hq (.lst _)
   refine cc _ _ _ _ Δ3 k4 sg (.lst Zam (Reps.mono sg ?_)) p
   unfold cutV cutD
   rw [rs.length]; exact (rs.drop _).take _
  | scr ha rs=>
   cases he
   refine .inl ⟨_,_,rfl,k3.live.seq ha,fun q hq=>?_⟩
   obtain ⟨k4,sg⟩:=k3.laid hq (.lst _)
   refine cc _ _ _ _ Δ3 k4 sg (.lst Zam (Reps.mono sg ?_)) p
   unfold cutV cutD
   rw [rs.length]; exact (rs.drop _).take _
  | tup ha rs=>
   cases he
   refine .inr ⟨_,_,rfl,SqT.of (k3.live _ _ ha),fun hw=>?_,fun hw q hq=>?_⟩
   ·rw [rs.length] at hw
    refine cc _ _ _ _ Δ3 k3 (Same.refl _) (.tup ha ?_) p
    unfold cutD
    rw [Zj1 _ _ _ hw]; exact rs
   ·obtain ⟨k4,sg⟩:=k3.laid hq (.tup _)
    refine cc _ _ _ _ Δ3 k4 sg (.tup Zam (Reps.mono sg ?_)) p
    unfold cutV cutD
    rw [rs.length]; exact (rs.drop _).take _
  | _=>cases he
theorem Zoe {te:TE} (h:JE K te Δ fun d Δ1=>∃ ds,d=.tup ds/\P (.tup ds.reverse) Δ1):JE K (tSlR K te) Δ P:=fun g G H σ Q k c=>
 h g G H σ _ k fun v d G1 H1 Δ1 k1 s1 r1 hq_=>by
  obtain ⟨ds,e,p⟩:=hq_
  subst e
  obtain ⟨_,_,rfl,ha,rs⟩:=r1.inv
  next=>
   refine ⟨_,_,rfl,SqT.of (k1.live _ _ ha),fun q hq=>?_⟩
   obtain ⟨k4,sg⟩:=k1.laid hq (.tup _)
   exact c _ _ _ _ Δ1 k4 (s1.trans sg) (.tup Zam (rs.reverse.mono sg)) p
theorem Zkf {tl:TE} {P:List D->Evt->Prop} (h:JE K tl Δ fun d Δ1=>∃ ds,(d=.lst ds\/d=.scr ds)/\P ds Δ1):JI K (iSeq K tl) Δ P:=fun g G H σ R k c=>.inl (Zmo h g G H σ R k c)
theorem Zdn {tl:TE} {P:List D->Evt->Prop} (h:JE K tl Δ fun d Δ1=>∃ ds,d=.tup ds/\P ds Δ1):JI K (iSeq K tl) Δ P:=fun g G H σ R k c=>.inr (Zpr h g G H σ R k c)
def truD:D->Option Bool
 | .non=>some false
 | .bl b=>some b
 | .int i=>some (i != 0)
 | .lst ds=>some !ds.isEmpty
 | .tup ds=>some !ds.isEmpty
 | _=>none
theorem Reps.isEmpty {G:Hp} {vs:List V} {ds:List D} (r:Reps K G vs ds):vs.isEmpty=ds.isEmpty:=by cases r <;> rfl
theorem Zbi {t:TE} {Pb:Bool->Evt->Prop} (h:JE K t Δ fun d Δ1=>∃ b,truD d=some b/\Pb b Δ1):JT K (tTru K t) Δ Pb:=fun g G H σ Q k c=>
 h g G H σ _ k fun v d G1 H1 Δ1 k1 s1 r1 hq_=>by
  obtain ⟨b,e,p1⟩:=hq_
  refine ⟨b,?_,c b G1 H1 Δ1 k1 s1 p1⟩
  cases r1 with
  | non=>cases e; rfl
  | bl b=>cases e; rfl
  | int i=>cases e; rfl
  | str x=>cases e
  | ty n=>cases e
  | scr ha rs=>cases e
  | adr a=>cases e
  | dct ha hl rs=>cases e
  | exc ha=>cases e
  | lst ha rs=>cases e; exact .inl ⟨_,SqL.of (k1.live _ _ ha),by rw [rs.isEmpty]⟩
  | tup ha rs=>cases e; exact .inr (.inl ⟨_,SqT.of (k1.live _ _ ha),by rw [rs.isEmpty]⟩)
def tyD:D->Option String
 | .non=>some "NoneType"
 | .bl _=>some "bool"
 | .int _=>some "int"
 | .str _=>some "str"
 | .lst _=>some "list"
 | .tup _=>some "tuple"
 | .dct _ _=>some "dict"
 | _=>none
theorem Zpj {d:D} {n T:String} {b:Bool} (ht:tyD d=some T) (e:∀ K,PySem.W.kitOne K (.type T) (.type n)=some b) (p:P (.bl b) Δ):JC K (rIsi K) [d,.ty n] Δ P:=fun g G H σ Q vs k rs c=>by
 obtain ⟨_,_,rfl,r,t⟩:=rs.inv
 next=>
  obtain ⟨_,_,rfl,r',t⟩:=t.inv
  next=>
   cases t.inv; cases r'.inv
   refine ⟨_,n,.type T,b,rfl,?_,e K,c _ _ G H Δ k (Same.refl _) (.bl b) p⟩
   cases r with
   | non=>cases ht; exact .non
   | bl b=>cases ht; exact .bl b
   | int i=>cases ht; exact .int i
   | str x=>cases ht; exact .str x
   | ty n=>cases ht
   | scr ha rs=>cases ht
   | adr a=>cases ht
   | dct ha hl rs=>cases ht; exact .dK (k.live _ _ ha)
   | exc ha=>cases ht
   | lst ha rs=>cases ht; exact .lst (k.live _ _ ha)
   | tup ha rs=>cases ht; exact .tup (k.live _ _ ha)
theorem Zfa {ta tb:TE} (h:JE K ta Δ fun d Δ1=>∃ b,d=.bl b/\if b=true then JE K tb Δ1 P else P (.bl false) Δ1):JE K (tAndV ta tb) Δ P:=fun g G H σ Q k c=>
 h g G H σ _ k fun v d G1 H1 Δ1 k1 s1 r1 hq_=>by
  obtain ⟨b,e,p1⟩:=hq_
  subst e; cases r1.inv
  refine ⟨b,rfl,?_⟩
  cases b with
  | true=>exact (show JE K tb Δ1 P from p1) g G1 H1 σ Q k1 (c.up s1)
  | false=>exact c _ _ G1 H1 Δ1 k1 s1 (.bl false) p1
theorem Zon {ta tb:TE} (h:JE K ta Δ fun d Δ1=>∃ b,d=.bl b/\if b=true then P (.bl true) Δ1 else JE K tb Δ1 P):JE K (tOrV ta tb) Δ P:=fun g G H σ Q k c=>
 h g G H σ _ k fun v d G1 H1 Δ1 k1 s1 r1 hq_=>by
  obtain ⟨b,e,p1⟩:=hq_
  subst e; cases r1.inv
  refine ⟨b,rfl,?_⟩
  cases b with
  | false=>exact (show JE K tb Δ1 P from p1) g G1 H1 σ Q k1 (c.up s1)
  | true=>exact c _ _ G1 H1 Δ1 k1 s1 (.bl true) p1
theorem Zg5 {ta:TE} (h:JE K ta Δ fun d Δ1=>∃ b,d=.bl b/\P (.bl !b) Δ1):JE K (tNotV ta) Δ P:=fun g G H σ Q k c=>
 h g G H σ _ k fun v d G1 H1 Δ1 k1 s1 r1 hq_=>by
  obtain ⟨b,e,p1⟩:=hq_
  subst e; cases r1.inv
  exact ⟨b,rfl,c _ _ G1 H1 Δ1 k1 s1 (.bl !b) p1⟩
theorem Zlk {to te:TE} (h:JE K to Δ fun d Δ1=>∃ ns:List Int,d=.tup (ns.map D.int)/\JE K te Δ1 fun e Δ2=>∃ i j,e=.int i/\ns[j]? = some i/\(∀ m,m < j->ns[m]? ≠ some i)/\P (.int (j:Nat)) Δ2) :
  JE K (tBM K "tuple" (rIndexT K) to (tCons te tNil)) Δ P:=fun g G H σ Q k c=>
 h g G H σ _ k fun v d G1 H1 Δ1 k1 s1 r1 hq_=>by
  obtain ⟨ns,e,p1⟩:=hq_
  subst e
  obtain ⟨a,vs,rfl,ha,rs⟩:=r1.inv
  next=>
   refine ⟨.inr (.inl ⟨rfl,.inr ⟨_,k1.live _ _ ha⟩⟩),p1 g G1 H1 σ _ k1 fun u e G2 H2 Δ2 k2 s2 r2 ⟨i,j,q1,q2,q3,p⟩=>?_⟩
   subst q1
   cases r2.inv
   have ev:vs=ns.map V.int:=rs.ints
   subst ev
   have hj:j < ns.length:=(List.getElem?_eq_some_iff.mp q2).1
   refine ⟨a,_,.int i,j,rfl,rfl,SqT.of (k2.live _ _ (s2 _ _ ha)),rfl,?_,by simpa using hj,⟨.int i,by rw [List.getElem?_map,q2]; rfl,by simp [eqV]⟩,fun m z hm hz=>?_,c _ _ G2 H2 Δ2 k2 (s1.trans s2) (.int _) p⟩
   ·rw [List.all_map]; exact List.all_eq_true.mpr fun _ _=>rfl
   ·rw [List.getElem?_map] at hz
    cases e:ns[m]? with
    | none=>rw [e] at hz; cases hz
    | some w=>
     rw [e] at hz
     have hz:V.int w=z:=by simpa using hz
     subst hz
     have hne:w ≠ i:=fun q=>q3 m hm (by rw [e,q])
     show (w == i)=false
     exact beq_eq_false_iff_ne.mpr hne
end
section
variable {K:PySem.W.Frag} {g:Gm} {G H:Hp} {σ:St} {Δ:Evt}
theorem Ok.setVal' (k:Ok K g G H σ Δ) {v:V} {d:D} (i:Nat) (r:Rep K G v d):Ok K g G H (σ.set i (some v)) (Δ.set i (.val d)):=by
 by_cases hi:i < Δ.length
 ·exact k.setVal hi r
 ·have hl:=k.len
  rw [List.set_eq_of_length_le (l:=σ) (by omega),List.set_eq_of_length_le (l:=Δ) (by omega)]; exact k
theorem Ok.setOwn' (k:Ok K g G H σ Δ) {a:Addr} {od:OD} (i:Nat) (p:Pend K g G H σ Δ a od):Ok K g G H (σ.set i (some (.ref a))) (Δ.set i (.own od)):=by
 by_cases hi:i < Δ.length
 ·exact k.setOwn hi p
 ·have hl:=k.len
  rw [List.set_eq_of_length_le (l:=σ) (by omega),List.set_eq_of_length_le (l:=Δ) (by omega)]; exact k
theorem Zn7 {te:TE} {i:Nat} {P:Pst} (h:JE K te Δ fun d Δ1=>P.nx (Δ1.set i (.val d))):JS K (tAsg te (gName i)) Δ P:=fun g G H σ E k c=>
 h g G H σ _ k fun v d G1 H1 Δ1 k1 s1 r1 p1=>c.nx _ G1 H1 _ (k1.setVal' i r1) p1
theorem Zn3 {te:TE} {i:Nat} {P:Pst} (h:JO K te Δ fun od Δ1=>P.nx (Δ1.set i (.own od))):JS K (tAsg te (gName i)) Δ P:=fun g G H σ E k c=>
 h g G H σ _ k fun a od G1 H1 Δ1 k1 s1 pd p1=>c.nx _ G1 H1 _ (k1.setOwn' i pd) p1
theorem Zmx {i j:Nat} {ta:TA} {P:Pst} (h:JA K ta Δ fun ds Δ1=>∃ d e,ds=[d,e]/\P.nx ((Δ1.set i (.val d)).set j (.val e))):JS K (tPar i j ta) Δ P:=fun g G H σ E k c=>
 h g G H σ _ k fun vs ds G1 H1 Δ1 k1 s1 r1 hq_=>by
  obtain ⟨d,e,hd,p1⟩:=hq_
  subst hd
  obtain ⟨_,_,rfl,ra,rr⟩:=r1.inv
  next=>
   obtain ⟨_,_,rfl,rb,rr⟩:=rr.inv
   next=>
    cases rr.inv
    exact ⟨_,_,rfl,c.nx _ G1 H1 _ ((k1.setVal' i ra).setVal' j rb) p1⟩
theorem Zbf {i:Nat} {d:D} {P:Evt->Prop} (p:P (Δ.set i (.val d))):JG K (gName i) d Δ P:=fun g G H σ v R k r c=>c _ G H _ (k.setVal' i r) (Same.refl _) p
theorem Zd1 {n i:Nat} {d:D} {P:Evt->Prop} (hn:i < n) (p:P (Δ.set i (.val d))):JGn K n (gName i) d Δ P:=fun g G H σ v R k r c=>
 c _ G H _ (k.setVal' i r) (Same.refl _) (fun j hj=>List.getElem?_set_ne (by omega)) p
theorem Zpu {n:Nat} {te:TE} {Pp:Pst} {x:Slot} {ds0:List D} (hx:Δ[n]? = some x) (ho:x.od=some (.lst ds0))
  (h:JE K te Δ fun d Δ1=>∃ y ds,Δ1[n]? = some y/\y.od=some (.lst ds)/\ds.length < sizeLine/\Pp.nx (Δ1.set n (y.put (.lst (ds ++ [d]))))) :
  JS K (tDrop (tBM K "list" rAppend (tVar n) (tCons te tNil))) Δ Pp:=Zjr hx ho ⟨_,rfl⟩ h
end
section
variable {K:PySem.W.Frag} {Δ:Evt} {nx bk ct:Evt->Prop} {rt:D->Evt->Prop} {ro:OD->Evt->Prop}
theorem Zax (p:nx Δ):JS K tNext Δ ⟨nx,rt,bk,ct,ro⟩:=Znj p
theorem Zal {t u:TS} (h:JS K t Δ ⟨fun Δ1=>JS K u Δ1 ⟨nx,rt,bk,ct,ro⟩,rt,bk,ct,ro⟩):JS K (tSeq t u) Δ ⟨nx,rt,bk,ct,ro⟩:=Zl6 h
theorem Za9 {t u:TS} (I:Evt->Prop) (h1:JS K t Δ ⟨I,rt,bk,ct,ro⟩) (h2:∀ Δ1,I Δ1->JS K u Δ1 ⟨nx,rt,bk,ct,ro⟩):JS K (tSeq t u) Δ ⟨nx,rt,bk,ct,ro⟩:=
 Zl6 (h1.mono h2 (fun _ _ z=>z) (fun _ z=>z) (fun _ z=>z) fun _ _ z=>z)
theorem Za6 {te:TE} (h:JE K te Δ rt):JS K (tRet te) Δ ⟨nx,rt,bk,ct,ro⟩:=Zps h
theorem Zg6 {te:TE} (h:JO K te Δ ro):JS K (tRet te) Δ ⟨nx,rt,bk,ct,ro⟩:=Zny h
theorem Znm {te:TE} (h:JE K te Δ fun _ Δ1=>nx Δ1):JS K (tDrop te) Δ ⟨nx,rt,bk,ct,ro⟩:=Zmz h
theorem Zbh {c:TT} {t u:TS} (h:JT K c Δ fun b Δ1=>if b=true then JS K t Δ1 ⟨nx,rt,bk,ct,ro⟩ else JS K u Δ1 ⟨nx,rt,bk,ct,ro⟩):JS K (tIfS c t u) Δ ⟨nx,rt,bk,ct,ro⟩:=Zpy h
theorem Za0 {te:TE} {i:Nat} (h:JE K te Δ fun d Δ1=>nx (Δ1.set i (.val d))):JS K (tAsg te (gName i)) Δ ⟨nx,rt,bk,ct,ro⟩:=Zn7 h
theorem Zdm {te:TE} {i:Nat} (h:JO K te Δ fun od Δ1=>nx (Δ1.set i (.own od))):JS K (tAsg te (gName i)) Δ ⟨nx,rt,bk,ct,ro⟩:=Zn3 h
theorem Zg8 {i j:Nat} {ta:TA} (h:JA K ta Δ fun ds Δ1=>∃ d e,ds=[d,e]/\nx ((Δ1.set i (.val d)).set j (.val e))):JS K (tPar i j ta) Δ ⟨nx,rt,bk,ct,ro⟩:=Zmx h
theorem Zl4 {te:TE} {t:TG} (h:JE K te Δ fun d Δ1=>JG K t d Δ1 nx):JS K (tAsg te t) Δ ⟨nx,rt,bk,ct,ro⟩:=Zoy h
theorem Zjg {n:Nat} {te:TE} {x:Slot} {ds0:List D} (hx:Δ[n]? = some x) (ho:x.od=some (.lst ds0))
  (h:JE K te Δ fun d Δ1=>∃ y ds,Δ1[n]? = some y/\y.od=some (.lst ds)/\ds.length < sizeLine/\nx (Δ1.set n (y.put (.lst (ds ++ [d]))))) :
  JS K (tDrop (tBM K "list" rAppend (tVar n) (tCons te tNil))) Δ ⟨nx,rt,bk,ct,ro⟩:=Zpu hx ho h
theorem Zlp {n:Nat} {ti te:TE} (h:JE K te Δ fun d Δ1=>(∃ x ds,Δ1[n]? = some x/\x.od=some (.lst ds))/\JE K ti Δ1 fun e Δ2=>∃ x ds i j,Δ2[n]? = some x/\x.od=some (.lst ds)/\e=.int i/\ixN ds.length i=some j/\nx (Δ2.set n (x.put (.lst (ds.set j d))))) :
  JS K (tAsg te (gSub (tVar n) ti rSetU)) Δ ⟨nx,rt,bk,ct,ro⟩:=Zki (h.mono fun d Δ1 ⟨⟨x,ds,h1,h2⟩,h3⟩=>⟨⟨x,_,h1,h2⟩,h3⟩)
theorem Zce {wi:TI} {t:TG} {tb:TS} (h:JI K wi Δ fun ds Δ1=>∃ I:Nat->Evt->Prop,I 0 Δ1/\(∀ i d Δ2,ds[i]? = some d->I i Δ2->JG K t d Δ2 fun Δ3=>JS K tb Δ3 ⟨I (i + 1),rt,nx,I (i + 1),ro⟩)/\∀ Δ2,I ds.length Δ2->nx Δ2) :
  JS K (tFor wi t tb) Δ ⟨nx,rt,bk,ct,ro⟩:=Zpt h
theorem Zle {c:TT} {tb:TS} (I:Nat->Evt->Prop) (h0:∃ m,I m Δ) (ht:∀ m Δ1,I m Δ1->JT K c Δ1 fun b Δ2=>if b=true then JS K tb Δ2 ⟨fun Δ3=>∃ m',m' < m/\I m' Δ3,rt,nx,fun Δ3=>∃ m',m' < m/\I m' Δ3,ro⟩ else nx Δ2) :
  JS K (tWhile c tb) Δ ⟨nx,rt,bk,ct,ro⟩:=Zk8 I h0 ht
end
theorem Zjw {α β:Type} {f:α -> β} {xs:List α} {i:Int} (h0:0<=i) (h1:i < (xs.length:Int)):∃ c,xs[i.toNat]? = some c/\atI (xs.map f) i=some (f c):=by
 have hk:i.toNat < xs.length:=by omega
 have e:i=((i.toNat:Nat):Int):=by omega
 have q:xs[i.toNat]? = some xs[i.toNat]:=List.getElem?_eq_getElem hk
 generalize xs[i.toNat]=c at q
 refine ⟨c,q,?_⟩
 have z:atI (xs.map f) ((i.toNat:Nat):Int)=some (f c):=Zdi (by rw [List.getElem?_map,q]; rfl)
 rw [<- e] at z
 exact z
theorem Zkk:bootBuiltins "abs" = some (.builtin "abs"):=by decide +kernel
theorem Zbk:bootBuiltins "len" = some (.builtin "len"):=by decide +kernel
theorem Zhr:bootBuiltins "min" = some (.builtin "min"):=by decide +kernel
theorem Zpm:bootBuiltins "max" = some (.builtin "max"):=by decide +kernel
theorem Zan:bootBuiltins "isinstance" = some (.builtin "isinstance"):=by decide +kernel
theorem Zl5:bootBuiltins "all" = some (.builtin "all"):=by decide +kernel
theorem Zdh:bootBuiltins "sorted" = some (.builtin "sorted"):=by decide +kernel
theorem Zfy:bootBuiltins "divmod" = some (.builtin "divmod"):=by decide +kernel
theorem Za4:bootBuiltins "tuple" = some (.type "tuple"):=by decide +kernel
theorem Zex:bootBuiltins "list" = some (.type "list"):=by decide +kernel
theorem Zhi:bootBuiltins "int" = some (.type "int"):=by decide +kernel
theorem Zfd:bootBuiltins "bool" = some (.type "bool"):=by decide +kernel
theorem Zl1:bootBuiltins "str" = some (.type "str"):=by decide +kernel
theorem Zph:bootBuiltins "zip" = some (.type "zip"):=by decide +kernel
structure Callee (P:Program) (w:World) (K:PySem.W.Frag) (mg:Str->Option Value) (base:Heap) (k:Nat) (x:Str) (ps:List Str) (sp:Sp):Prop where
 ex:∃ (f:Addr) (fd:FuncData),FnOk P w K mg base CX0 k f fd ps sp/\Binds K fd ps []/\PySem.W.keepIn K (.ref f)=true/\mg x=some (.ref f)
section
variable {X:Cx} {k:Nat} {x:Str} {ps:List Str} {sp:Sp} {e:Expr} {es:List Expr} {t:TA} {p pos:Pos}
theorem Zaz (C:Callee X.prog X.w X.K X.mg X.base k x ps sp) (hr:Room k X.A) (ha:PA X (e :: es) t) (hg:Gl X x:=by rfl) (hdb:(x == ("__debug__":Str))=false:=by decide)
  (he:starEach (e :: es) X.env=(false,eval e X.env) :: starEach es X.env:=by rfl) (hpl:(backTo pos (starEach es X.env)).any (·.1)=false:=by rfl):PE X (.Call (.Name x p) (e :: es) [] pos) (tCall sp [] E0 t):=by
 obtain ⟨f,fd,F,b,kp,m⟩:=C.ex
 exact Zmt F hr hg m kp b .nil pass0 ha hdb he hpl
end
end L2
set_option Elab.async false
set_option linter.all false
set_option maxRecDepth 100000
namespace L2
open PySem PySem.Spec PyProof.Rows
def fixD (sel:List Nat) (Δ:Evt):Evt:=sel.map fun i=>(Δ[i]?).getD .any
theorem Zcs {n:Nat} {sel:List Nat} {ts Δ:Evt} (ht:ts.length=n):backD n sel (ts ++ fixD sel Δ) 0 Δ = Δ:=by
 apply List.ext_getElem?
 intro i
 rw [Zcg]
 cases q:Δ[i]? with
 | none=>rfl
 | some x=>
  show some (backAt n sel (ts ++ fixD sel Δ) (0 + i) x)=some x
  congr 1
  rw [Nat.zero_add]
  have key:∀ j,sel.idxOf? i=some j->(ts ++ fixD sel Δ)[n + j]? = some x:=fun j hj=>by
   rw [List.getElem?_append_right (by omega),ht,Nat.add_sub_cancel_left]
   unfold fixD
   rw [List.getElem?_map,Zc5 hj]
   show some ((Δ[i]?).getD .any)=_
   rw [q]; rfl
  unfold backAt
  cases x with
  | any=>rfl
  | val d=>rfl
  | own o=>
   dsimp only
   cases e:sel.idxOf? i with
   | none=>rfl
   | some j=>dsimp only; rw [key j e]
  | bor o=>
   dsimp only
   cases e:sel.idxOf? i with
   | none=>rfl
   | some j=>dsimp only; rw [key j e]
  | ownA a o=>
   dsimp only
   cases e:sel.idxOf? i with
   | none=>rfl
   | some j=>dsimp only; rw [key j e]
section
variable {K:PySem.W.Frag} {Δ:Evt} {P:D->Evt->Prop}
theorem Zci {sel:List Nat} {wi:TI} {tc:TT} {te:TE} (hsel:sel.Nodup)
  (h:JI K wi Δ fun ds Δ1=>ds.length < sizeLine/\∃ (p:D->Bool) (f:D->D),
   (∀ (i:Nat) d,ds[i]? = some d->JT K tc (.val d :: fixD sel Δ1) fun b Δ4=>b=p d/\if b=true then JE K te Δ4 fun e Δ5=>e=f d/\∃ x,Δ5=x :: fixD sel Δ1 else ∃ x,Δ4=x :: fixD sel Δ1) ∧
   P (.lst ((ds.filter p).map f)) Δ1):JE K (tComp 1 sel wi (gName 0) tc te) Δ P:=by
 refine Zho hsel fun g G H σ R k c=>h g G H σ R k fun J ds G' H' Δ' k' s' it ⟨z,p,f,ht,he⟩=>c J ds G' H' Δ' k' s' it ⟨z,fixD sel Δ',p,f,rfl,fun i d ts hd hts=>?_,?_⟩
 ·refine Zd1 (by decide) ?_
  obtain ⟨x,rfl⟩:∃ x,ts=[x]:=by
   match ts,hts with
   | [x],_=>exact ⟨x,rfl⟩
  intro g G H σ Q k c
  refine ht i d hd g G H σ Q k fun b G1 H1 Δ1 k1 s1 ⟨e1,q⟩=>c b G1 H1 Δ1 k1 s1 ⟨e1,?_⟩
  cases b with
  | true=>
   rw [if_pos rfl] at q ⊢
   exact q.mono fun e Δ5 ⟨e2,x,e3⟩=>⟨e2,[x],rfl,e3⟩
  | false=>
   rw [if_neg Bool.false_ne_true] at q ⊢
   obtain ⟨x,e3⟩:=q
   exact ⟨[x],rfl,e3⟩
 ·rw [Zcs (by simp)]; exact he
theorem Zh5 {sel:List Nat} {wi:TI} {tc:TT} {te:TE} {Po:OD->Evt->Prop} (hsel:sel.Nodup)
  (h:JI K wi Δ fun ds Δ1=>ds.length < sizeLine/\∃ (p:D->Bool) (f:D->D),
   (∀ (i:Nat) d,ds[i]? = some d->JT K tc (.val d :: fixD sel Δ1) fun b Δ4=>b=p d/\if b=true then JE K te Δ4 fun e Δ5=>e=f d/\∃ x,Δ5=x :: fixD sel Δ1 else ∃ x,Δ4=x :: fixD sel Δ1) ∧
   Po (.lst ((ds.filter p).map f)) Δ1):JO K (tComp 1 sel wi (gName 0) tc te) Δ Po:=by
 refine Zka hsel fun g G H σ R k c=>h g G H σ R k fun J ds G' H' Δ' k' s' it ⟨z,p,f,ht,he⟩=>c J ds G' H' Δ' k' s' it ⟨z,fun i ys Δ=>ys=((ds.take i).filter p).map f/\∃ x,Δ = x :: fixD sel Δ',⟨by simp,.any,rfl⟩,?_,?_⟩
 ·rintro i d ys Δ2 hd ⟨rfl,x,rfl⟩
  have tk:ds.take (i + 1)=ds.take i ++ [d]:=by
   rw [List.take_add_one,hd]; rfl
  refine Zd1 (by decide) ?_
  intro g G H σ Q k c
  refine ht i d hd g G H σ Q k fun b G1 H1 Δ1 k1 s1 ⟨e1,q⟩=>c b G1 H1 Δ1 k1 s1 ?_
  cases b with
  | true=>
   rw [if_pos rfl] at q ⊢
   refine q.mono fun e Δ5 ⟨e2,x,e3⟩=>⟨?_,x,e3⟩
   rw [tk,List.filter_append,List.map_append,List.filter_cons,<- e1,e2]
   rfl
  | false=>
   rw [if_neg Bool.false_ne_true] at q ⊢
   obtain ⟨x,e3⟩:=q
   refine ⟨?_,x,e3⟩
   rw [tk,List.filter_append,List.map_append,List.filter_cons,<- e1]
   simp
 ·rintro ys Δ2 ⟨rfl,x,rfl⟩
  rw [List.take_length,show (x :: fixD sel Δ')=[x] ++ fixD sel Δ' from rfl,Zcs (by simp)]
  exact he
theorem Zh6 {sel:List Nat} {wi:TI} {tc:TT} {te:TE} (hsel:sel.Nodup)
  (h:JI K wi Δ fun ds Δ1=>ds.length < sizeLine/\∃ (p:D->Bool) (f:D->D),
   (∀ (i:Nat) d,ds[i]? = some d->∃ a b,d=.tup [a,b]/\JT K tc (.val a :: .val b :: fixD sel Δ1) fun t Δ4=>t=p d/\if t=true then JE K te Δ4 fun e Δ5=>e=f d/\∃ x y,Δ5=x :: y :: fixD sel Δ1 else ∃ x y,Δ4=x :: y :: fixD sel Δ1) ∧
   P (.lst ((ds.filter p).map f)) Δ1):JE K (tComp 2 sel wi (gTup K 2 (gCons (gName 0) (gCons (gName 1) gNil))) tc te) Δ P:=by
 refine Zho hsel fun g G H σ R k c=>h g G H σ R k fun J ds G' H' Δ' k' s' it ⟨z,p,f,ht,he⟩=>c J ds G' H' Δ' k' s' it ⟨z,fixD sel Δ',p,f,rfl,fun i d ts hd hts=>?_,?_⟩
 ·obtain ⟨a,b,rfl,hj⟩:=ht i d hd
  refine Zmg rfl (Zgc (Zd1 (by decide) (Zgc (Zd1 (by decide) (Zlo ?_)))))
  obtain ⟨x,y,rfl⟩:∃ x y,ts=[x,y]:=by
   match ts,hts with
   | [x,y],_=>exact ⟨x,y,rfl⟩
  intro g G H σ Q k c
  refine hj g G H σ Q k fun b G1 H1 Δ1 k1 s1 ⟨e1,q⟩=>c b G1 H1 Δ1 k1 s1 ⟨e1,?_⟩
  cases b with
  | true=>
   rw [if_pos rfl] at q ⊢
   exact q.mono fun e Δ5 ⟨e2,x,y,e3⟩=>⟨e2,[x,y],rfl,e3⟩
  | false=>
   rw [if_neg Bool.false_ne_true] at q ⊢
   obtain ⟨x,y,e3⟩:=q
   exact ⟨[x,y],rfl,e3⟩
 ·rw [Zcs (by simp)]; exact he
end
end L2
set_option Elab.async false
set_option linter.all false
set_option maxRecDepth 100000
namespace L2
open PySem PySem.Spec PyProof.Rows
def tGhost (base:Nat) (t:TS):TS:=fun E σ H=>t { E with nx:=fun σ' H'=>∃ σ2:St,σ2.length = σ'.length/\(∀ i,i < base -> σ2[i]? = σ'[i]?)/\E.nx σ2 H' } σ H
theorem Zk0 {X:Cx} {st:Stmt} {t:TS} (base:Nat) (hv:∀ x ∈ X.N.drop base,X.env.scope.names.lookup x=none) (h:PS X st t):PS X st (tGhost base t):=by
 intro pins s σ H E I hw
 refine thn (h pins s σ H _ I hw) fun f s1 q=>?_
 cases f with
 | next=>
  obtain ⟨σ',H',I',σ2,hl,hs,q⟩:=q
  refine ⟨σ2,H',⟨I'.ok,I'.os,I'.bare,I'.base,?_,I'.cell,I'.free,I'.freeC,I'.pin,I'.hok,hl.trans I'.len⟩,q⟩
  obtain ⟨m,hn,hl'⟩:=I'.loc
  refine ⟨m,hn,fun i x v e1 e2 e3=>?_⟩
  by_cases hi:i < base
  ·rw [hs i hi] at e2; exact hl' i x v e1 e2 e3
  ·have hm:x ∈ X.N.drop base:=by
    refine List.mem_of_getElem? (i:=i - base) ?_
    rw [List.getElem?_drop,show base + (i - base)=i by omega]; exact e1
   have z:=hv x hm
   rcases e3 with w | w | w <;> (rw [z] at w; cases w)
 | ret v=>exact q
 | brk=>exact q
 | cont=>exact q
def Nest (K:PySem.W.Frag) (g:Gm) (G H:Hp) (σ:St) (Δ:Evt) (cs:List (Addr × HO)) (ods:List OD):Prop:=
 (cs.map (·.1)).Nodup/\Paired (fun (c:Addr × HO) (od:OD)=>OwnRep K G c.2 od) cs ods/\∀ c ∈ cs,H c.1=some c.2/\G c.1=none/\g.Hz c.1=none/\g.Xo c.1=none/\∀ (i:Nat) x od',Δ[i]? = some x->x.od=some od' -> σ[i]? ≠ some (some (.ref c.1))
def JN (K:PySem.W.Frag) (t:TE) (Δ:Evt) (P:List OD->Evt->Prop):Prop:=
 ∀ g G H σ Q,Ok K g G H σ Δ -> (∀ acc cs ods G' H' Δ',Ok K g G' H' σ Δ' -> Same G G' -> Rep K G' (.ref acc) (.lst (cs.map fun (c:Addr × HO)=>D.adr c.1))->g.Hz acc=none->Nest K g G' H' σ Δ' cs ods->P ods Δ' -> Q (.ref acc) H')->t σ H Q
section
variable {K:PySem.W.Frag} {Δ:Evt}
def cellAt (cs:List (Addr × HO)) (b:Addr):Option HO:=(cs.find? fun c=>decide (c.1=b)).map (·.2)
theorem Zc1 {cs:List (Addr × HO)} {b:Addr}:cellAt cs b=none ↔ ∀ c ∈ cs,c.1 ≠ b:=by
 unfold cellAt
 rw [Option.map_eq_none_iff,List.find?_eq_none]
 constructor
 ·intro h c hc e; exact h c hc (decide_eq_true e)
 ·intro h c hc e; exact h c hc (of_decide_eq_true e)
theorem Zer {cs:List (Addr × HO)} (nd:(cs.map (·.1)).Nodup) {c:Addr × HO} (hc:c ∈ cs):cellAt cs c.1=some c.2:=by
 induction cs with
 | nil=>cases hc
 | cons d r ih=>
  rw [List.map_cons,List.nodup_cons] at nd
  unfold cellAt
  rcases List.mem_cons.mp hc with e | hc
  ·subst e; simp
  ·have hne:d.1 ≠ c.1:=fun e=>nd.1 (by rw [e]; exact List.mem_map.mpr ⟨c,hc,rfl⟩)
   rw [List.find?_cons_of_neg (by simpa using hne)]
   exact ih nd.2 hc
open Classical in
noncomputable def asideN (g:Gm) (sel:List Nat) (σ:St) (Δ:Evt) (H:Hp) (acc:Addr) (cs:List (Addr × HO)):Hp:=fun b=>
 if b=acc then some (.lst (cs.map fun c=>V.ref c.1)) else match cellAt cs b with
  | some o=>some o
  | none=>if ∃ (i:Nat) (x:Slot) (od:OD),Δ[i]? = some x/\x.od=some od/\i ∉ sel /\ σ[i]? = some (some (.ref b)) then H b else g.Xo b
theorem Zcb {g:Gm} {sel:List Nat} {σ:St} {Δ:Evt} {H:Hp} {acc:Addr} {cs:List (Addr × HO)}:asideN g sel σ Δ H acc cs acc=some (.lst (cs.map fun c=>V.ref c.1)):=by unfold asideN; rw [if_pos rfl]
theorem Zbz {g:Gm} {sel:List Nat} {σ:St} {Δ:Evt} {H:Hp} {acc b:Addr} {o:HO} {cs:List (Addr × HO)} (hb:b ≠ acc) (e:cellAt cs b=some o):asideN g sel σ Δ H acc cs b=some o:=by unfold asideN; rw [if_neg hb,e]
theorem Zcd {g:Gm} {sel:List Nat} {σ:St} {Δ:Evt} {H:Hp} {acc b:Addr} {cs:List (Addr × HO)} (hb:b ≠ acc) (e:cellAt cs b=none) (hx:∃ (i:Nat) (x:Slot) (od:OD),Δ[i]? = some x/\x.od=some od/\i ∉ sel /\ σ[i]? = some (some (.ref b))):asideN g sel σ Δ H acc cs b=H b:=by
 unfold asideN; rw [if_neg hb,e]; exact if_pos hx
theorem Zb1 {g:Gm} {sel:List Nat} {σ:St} {Δ:Evt} {H:Hp} {acc b:Addr} {cs:List (Addr × HO)} (hb:b ≠ acc) (e:cellAt cs b=none) (hx:¬ ∃ (i:Nat) (x:Slot) (od:OD),Δ[i]? = some x/\x.od=some od/\i ∉ sel /\ σ[i]? = some (some (.ref b))):asideN g sel σ Δ H acc cs b=g.Xo b:=by
 unfold asideN; rw [if_neg hb,e]; exact if_neg hx
theorem Znz {n:Nat} {sel:List Nat} {wi:TI} {t:TG} {tc:TT} {te:TE} {P:List OD->Evt->Prop} (hsel:sel.Nodup)
  (h:JI K wi Δ fun ds Δ1=>ds.length < sizeLine/\∃ I:Nat->List OD->Evt->Prop,I 0 [] (compD n sel Δ1) ∧
   (∀ i d ys Δ2,ds[i]? = some d->I i ys Δ2->JGn K n t d Δ2 fun Δ3=>JT K tc Δ3 fun b Δ4=>if b=true then JO K te Δ4 fun e Δ5=>I (i + 1) (ys ++ [e]) Δ5 else I (i + 1) ys Δ4) ∧
   ∀ ys Δ2,I ds.length ys Δ2->P ys (backD n sel Δ2 0 Δ1)):JN K (tComp n sel wi t tc te) Δ P:=fun g G H σ Q k c=>
 h g G H σ _ k fun J ds G1 H1 Δ1 k1 s1 it ⟨hz,I,h0,ht,he⟩ acc hacc=>by
  have nacc:∀ (i:Nat) x od,Δ1[i]? = some x->x.od=some od -> σ[i]? ≠ some (some (.ref acc)):=fun i x od e1 e2 e3=>by
   obtain ⟨a,o,w1,w2,_⟩:=k1.own i x od e1 e2
   rw [e3] at w1; cases w1
   rw [hacc] at w2; cases w2
  let Wd:Nat->St->Hp->Prop:=fun i σ' H'=>i<=ds.length/\(∀ j,n<=j -> σ'[j]? = (compSt n sel σ)[j]?)/\∃ G ys cs Δi,cs.length<=i/\(cs.map (·.1)).Nodup/\(∀ c ∈ cs,c.1 ≠ acc/\g.Hz c.1=none/\g.Xo c.1=none/\∀ (i:Nat) x od,Δ1[i]? = some x->x.od=some od->i ∉ sel -> σ[i]? ≠ some (some (.ref c.1)))/\Paired (fun (c:Addr × HO) (od:OD)=>OwnRep K G c.2 od) cs ys ∧
   Ok K ⟨g.B,G1,g.Hz,asideN g sel σ Δ1 H1 acc cs⟩ G H' σ' Δi/\I i ys Δi
  refine ⟨fun i m σ' H'=>m=ds.length - i/\Wd i σ' H',⟨ds.length,by simp,Nat.zero_le _,fun _ _=>rfl,G1,[],[],compD n sel Δ1,Nat.le_refl _,List.nodup_nil,fun c hc=>(nomatch hc),.nil,?_,h0⟩,?_⟩
  ·refine Zep hsel k1 hacc fun b o e=>?_
   have e:asideN g sel σ Δ1 H1 acc [] b=some o:=e
   by_cases hb:b=acc
   ·subst hb; rw [Zcb] at e; cases e; exact .inl ⟨rfl,rfl⟩
   ·by_cases hx:∃ (i:Nat) (x:Slot) (od:OD),Δ1[i]? = some x/\x.od=some od/\i ∉ sel /\ σ[i]? = some (some (.ref b))
    ·rw [Zcd hb rfl hx] at e; exact .inr ⟨hb,.inl ⟨hx,e⟩⟩
    ·rw [Zb1 hb rfl hx] at e; exact .inr ⟨hb,.inr e⟩
  ·rintro i m σ2 H2 ⟨rfl,hi,hσ,G2,ys,cs,Δ2,hy,nd,hcs,ry,k2,h2⟩
   have s2:Same G1 G2:=k2.sub
   obtain ⟨stop,go⟩:=it G2 H2 s2 k2.live
   by_cases hlt:i < ds.length
   ·obtain ⟨g1,g2⟩:=go i _ (List.getElem?_eq_getElem hlt)
    refine .inr ⟨g1,fun σ' H'=>Wd (i + 1) σ' H',fun σ' H' p'=>⟨ds.length - (i + 1),by omega,rfl,p'⟩,fun x H3 y=>?_⟩
    obtain ⟨G3,a1,a2,a3,a4⟩:=g2 x H3 y
    have k3:=k2.grow a1 a2 a3
    have hG3:∀ b o,G3 b=some o->(g.Hz b=none\/G1 b=some o):=fun b o q=>(k3.frz b o q).2
    have k3':Ok K ⟨g.B,G3,g.Hz,asideN g sel σ Δ1 H1 acc cs⟩ G3 H3 σ2 Δ2:=⟨k3.same,k3.lent,Same.refl _,fun b o q=>⟨(k3.frz b o q).1,.inr q⟩,k3.ext,k3.len,k3.val,k3.own,k3.dis⟩
    have ry3:Paired (fun (c:Addr × HO) (od:OD)=>OwnRep K G3 c.2 od) cs ys:=Paired.mapP ry fun _ _ z=>z.mono a1
    have s13:Same G1 G3:=s2.trans a1
    refine ht i _ ys Δ2 (List.getElem?_eq_getElem hlt) h2 ⟨g.B,G3,g.Hz,asideN g sel σ Δ1 H1 acc cs⟩ G3 H3 σ2 x _ k3' a4 fun σ4 G4 H4 Δ4 k4 s4 e4 p4=>?_
    have hσ4:∀ j,n<=j -> σ4[j]? = (compSt n sel σ)[j]?:=fun j hj=>(e4 j hj).trans (hσ j hj)
    refine p4 _ G4 H4 σ4 _ k4 fun b G5 H5 Δ5 k5 s5 p5=>?_
    cases b with
    | false=>exact ⟨hlt,hσ4,G5,ys,cs,Δ5,by omega,nd,hcs,Paired.mapP ry3 fun _ _ z=>z.mono (s4.trans s5),k5.base s13 hG3,p5⟩
    | true=>
     refine (show JO K te Δ5 _ from p5) _ G5 H5 σ4 _ k5 fun a od G6 H6 Δ6 k6 s6 pd p6=>?_
     have ry6:Paired (fun (c:Addr × HO) (od:OD)=>OwnRep K G6 c.2 od) cs ys:=Paired.mapP ry3 fun _ _ z=>z.mono (s4.trans (s5.trans s6))
     obtain ⟨b1,b2,b3⟩:=k6.ext acc _ Zcb
     obtain ⟨oa,d1,d2,d3,d4,d5,d6⟩:=pd
     have d5:asideN g sel σ Δ1 H1 acc cs a=none:=d5
     have hane:a ≠ acc:=by intro z; subst z; rw [Zcb] at d5; cases d5
     have hac:cellAt cs a=none:=by
      cases q:cellAt cs a with
      | none=>rfl
      | some o=>rw [Zbz hane q] at d5; cases d5
     have hax:∀ (i:Nat) x od,Δ1[i]? = some x->x.od=some od->i ∉ sel -> σ[i]? ≠ some (some (.ref a)):=fun i x od e1 e2 e3 e4=>by
      rw [Zcd hane hac ⟨i,x,od,e1,e2,e3,e4⟩] at d5
      obtain ⟨a',o',w1,w2,_⟩:=k1.own i x od e1 e2
      rw [e4] at w1; cases w1
      rw [d5] at w2; cases w2
     have hagx:g.Xo a=none:=by
      rw [Zb1 hane hac (fun ⟨i,x,od,e1,e2,e3,e4⟩=>hax i x od e1 e2 e3 e4)] at d5; exact d5
     have hnm:=Zc1.mp hac
     refine ⟨cs.map fun c=>V.ref c.1,b1,by rw [List.length_map]; omega,hlt,hσ4,G6,ys ++ [od],cs ++ [(a,oa)],Δ6,by rw [List.length_append,List.length_singleton]; omega,?_,fun c hc=>?_,Paired.snoc ry6 d2,?_,p6⟩
     ·rw [List.map_append]
      refine List.nodup_append.mpr ⟨nd,by simp,fun x hx y hy=>?_⟩
      rw [List.map_singleton,List.mem_singleton] at hy
      subst hy
      obtain ⟨c,hc,rfl⟩:=List.mem_map.mp hx
      exact hnm c hc
     ·rcases List.mem_append.mp hc with hc | hc
      ·exact hcs c hc
      ·rw [List.mem_singleton.mp hc]; exact ⟨hane,d4,hagx,hax⟩
     ·have k7:=k6.base s13 hG3
      have nd':((cs ++ [(a,oa)]).map (·.1)).Nodup:=by
       rw [List.map_append]
       refine List.nodup_append.mpr ⟨nd,by simp,fun x hx y hy=>?_⟩
       rw [List.map_singleton,List.mem_singleton] at hy
       subst hy
       obtain ⟨c,hc,rfl⟩:=List.mem_map.mp hx
       exact hnm c hc
      have er:(cs ++ [(a,oa)]).map (fun c=>V.ref c.1)=(cs.map fun c=>V.ref c.1) ++ [V.ref a]:=by simp
      have oldH:∀ b o,b ≠ acc->H6 b=some o->(upd H6 acc (.lst ((cs.map fun c=>V.ref c.1) ++ [V.ref a]))) b=some o:=fun b o hb e=>by rw [Zaj hb]; exact e
      refine ⟨fun b o hb e=>?_,fun b hb=>?_,k7.sub,fun b o e=>?_,fun b o e=>?_,k7.len,k7.val,fun i x od e1 e2=>?_,k7.dis⟩
      ·have hne:b ≠ acc:=by
        intro z; subst z
        have e:g.Hz b=some o:=e
        rw [k1.there hacc] at e; cases e
       exact oldH b o hne (k7.same b o hb e)
      ·by_cases hne:b=acc
       ·subst hne; rw [Zam]; intro z; cases z
       ·rw [Zaj hne]; exact k7.lent b hb
      ·have hne:b ≠ acc:=by intro z; subst z; rw [b2] at e; cases e
       exact ⟨oldH b o hne (k7.frz b o e).1,(k7.frz b o e).2⟩
      ·have e:asideN g sel σ Δ1 H1 acc (cs ++ [(a,oa)]) b=some o:=e
       by_cases hne:b=acc
       ·subst hne
        rw [Zcb,er] at e
        cases e
        exact ⟨Zam,b2,b3⟩
       ·by_cases hba:b=a
        ·subst hba
         rw [Zbz hne (Zer nd' (c:=(b,oa)) (List.mem_append_right _ (List.mem_singleton.mpr rfl)))] at e
         cases e
         exact ⟨oldH b _ hne d1,d3,d6⟩
        ·have ec:cellAt (cs ++ [(a,oa)]) b=cellAt cs b:=by
          unfold cellAt
          rw [List.find?_append]
          cases (cs.find? fun c=>decide (c.1=b)) with
          | some c=>rfl
          | none=>
           rw [List.find?_cons_of_neg (by simpa using Ne.symm hba)]
           rfl
         have e':asideN g sel σ Δ1 H1 acc cs b=some o:=by
          cases q:cellAt cs b with
          | some o'=>rw [Zbz hne (ec.trans q)] at e; rw [Zbz hne q]; exact e
          | none=>
           by_cases hx:∃ (i:Nat) (x:Slot) (od:OD),Δ1[i]? = some x/\x.od=some od/\i ∉ sel /\ σ[i]? = some (some (.ref b))
           ·rw [Zcd hne (ec.trans q) hx] at e; rw [Zcd hne q hx]; exact e
           ·rw [Zb1 hne (ec.trans q) hx] at e; rw [Zb1 hne q hx]; exact e
         obtain ⟨w1,w2,w3⟩:=k7.ext b o e'
         exact ⟨oldH b o hne w1,w2,w3⟩
      ·obtain ⟨a',o,w1,w2,w3,w4,w5⟩:=k7.own i x od e1 e2
       have hne:a' ≠ acc:=by intro z; subst z; exact b3 i x od e1 e2 w1
       exact ⟨a',o,w1,oldH a' o hne w2,w3,w4,w5⟩
   ·have e:i=ds.length:=by omega
    subst e
    refine .inl ⟨stop,?_⟩
    obtain ⟨b1,b2,b3⟩:=k2.ext acc _ Zcb
    have src:=Zew (Δ1:=Δ1) (Δ2:=Δ2) hσ
    have k9:Ok K g G2 H2 σ (backD n sel Δ2 0 Δ1):=Zd6 k1 hacc k2 hσ (fun b o hb hx e=>by
      show asideN g sel σ Δ1 H1 acc cs b=_
      rw [Zcd hb (Zc1.mpr fun c hc z=>?_) hx]
      ·exact e
      ·obtain ⟨i0,x0,od0,f1,f2,f3,f4⟩:=hx
       exact (hcs c hc).2.2.2 i0 x0 od0 f1 f2 f3 (by rw [z]; exact f4)) (fun b o hb hx e=>by
      show asideN g sel σ Δ1 H1 acc cs b=_
      rw [Zb1 hb (Zc1.mpr fun c hc z=>?_) hx]
      ·exact e
      ·have:=(hcs c hc).2.2.1; rw [z,e] at this; cases this)
    -- the outer list is frozen
    have nslot:∀ (i:Nat) y od,(backD n sel Δ2 0 Δ1)[i]? = some y->y.od=some od -> σ[i]? ≠ some (some (.ref acc)):=fun i y od e1 e2=>by
     obtain ⟨x',od1,f1,f2,_⟩:=src i y od e1 e2
     exact nacc i x' od1 f1 f2
    have refs:∀ {G:Hp} (l:List (Addr × HO)),Reps K G (l.map fun c=>V.ref c.1) (l.map fun c=>D.adr c.1):=fun {G} l=>by
     induction l with
     | nil=>exact .nil
     | cons c r ih=>exact .cons (.adr _) ih
    have gX:g.Xo acc=none:=by
     cases q:g.Xo acc with
     | none=>rfl
     | some u=>have z:=(k1.ext acc u q).1; rw [hacc] at z; cases z
    obtain ⟨kf,sf,rf⟩:=k9.freeze (a:=acc) (ds:=cs.map fun (c:Addr × HO)=>D.adr c.1) (vs:=cs.map fun (c:Addr × HO)=>V.ref c.1) ⟨_,b1,(show Reps K G2 (cs.map fun (c:Addr × HO)=>V.ref c.1) (cs.map fun (c:Addr × HO)=>D.adr c.1) from refs cs),b2,k1.there hacc,gX,nslot⟩ b1
    refine c acc cs ys _ H2 _ kf (s1.trans (s2.trans sf)) rf (k1.there hacc) ⟨nd,Paired.mapP ry fun _ _ z=>z.mono sf,fun cc hc=>?_⟩ (he ys Δ2 h2)
    obtain ⟨f1,f2,f3,f4⟩:=hcs cc hc
    obtain ⟨u1,u2,u3⟩:=k2.ext cc.1 cc.2 (Zbz f1 (Zer nd hc))
    refine ⟨u1,by rw [Zaj f1]; exact u2,f2,f3,fun i y od e1 e2 e3=>?_⟩
    obtain ⟨x,od',w1,w2,w3⟩:=src i y od e1 e2
    rcases w3 with ⟨w3,w4⟩ | ⟨j,w3,w4,w5⟩
    ·exact f4 i x od' w1 w2 w4 e3
    ·exact u3 (n + j) y od w4 e2 (by rw [w5,e3]; rfl)
def putN:Nat->List (Addr × OD)->Evt->Evt
 | _,[],Δ=>Δ
 | b,c :: r,Δ=>putN (b + 1) r (Δ.set b (.ownA c.1 c.2))
def putS:Nat->List Addr->St->St
 | _,[],σ=>σ
 | b,a :: r,σ=>putS (b + 1) r (σ.set b (some (.ref a)))
theorem Zhc:∀ (as:List Addr) (b:Nat) (σ:St),(putS b as σ).length = σ.length
 | [],_,_=>rfl
 | a :: r,b,σ=>by rw [putS,Zhc r (b + 1),List.length_set]
theorem Zek:∀ (as:List Addr) (b:Nat) (σ:St) (i:Nat),i < b->(putS b as σ)[i]? = σ[i]?
 | [],_,_,_,_=>rfl
 | a :: r,b,σ,i,h=>by rw [putS,Zek r (b + 1) _ i (by omega),List.getElem?_set_ne (by omega)]
theorem Ok.setOwnA {g:Gm} {G H:Hp} {σ:St} (k:Ok K g G H σ Δ) {a:Addr} {od:OD} {i:Nat} (hi:i < Δ.length) (p:Pend K g G H σ Δ a od):Ok K g G H (σ.set i (some (.ref a))) (Δ.set i (.ownA a od)):=by
 have k1:=k.setOwn hi p
 obtain ⟨o,p1,p2,p3,p4,p5,p6⟩:=p
 have hs:i < σ.length:=by rw [<- k.len]; exact hi
 have old:∀ (j:Nat) x,j ≠ i->(Δ.set i (.ownA a od))[j]? = some x->(Δ.set i (.own od))[j]? = some x:=fun j x hj e=>by
  rw [List.getElem?_set_ne (Ne.symm hj)] at e ⊢; exact e
 have cv:∀ (j:Nat) x od',(Δ.set i (.ownA a od))[j]? = some x->x.od=some od' -> ∃ y,(Δ.set i (.own od))[j]? = some y/\y.od=some od':=fun j x od' e1 e2=>by
  by_cases hj:j=i
  ·subst hj
   rw [List.getElem?_set_self hi] at e1
   cases e1; cases e2
   exact ⟨.own od,List.getElem?_set_self hi,rfl⟩
  ·exact ⟨x,old j x hj e1,e2⟩
 refine ⟨k1.same,k1.lent,k1.sub,k1.frz,fun b u e=>?_,by simp [k.len],fun j d e=>?_,fun j x od' e1 e2=>?_,fun j l x y od1 od2 c e1 e2 e3 e4 e5 e6=>?_⟩
 ·obtain ⟨h1,h2,h3⟩:=k1.ext b u e
  refine ⟨h1,h2,fun j x od' e1 e2=>?_⟩
  obtain ⟨y,f1,f2⟩:=cv j x od' e1 e2
  exact h3 j y od' f1 f2
 ·by_cases hj:j=i
  ·subst hj
   rw [List.getElem?_set_self hi] at e
   cases e
  ·exact k1.val j d (old j _ hj e)
 ·by_cases hj:j=i
  ·subst hj
   rw [List.getElem?_set_self hi] at e1
   cases e1; cases e2
   exact ⟨a,o,List.getElem?_set_self hs,p1,p2,p3,rfl,p4⟩
  ·exact k1.own j x od' (old j x hj e1) e2
 ·obtain ⟨x',f1,f2⟩:=cv j x od1 e1 e2
  obtain ⟨y',f3,f4⟩:=cv l y od2 e3 e4
  exact k1.dis j l x' y' od1 od2 c f1 f2 f3 f4 e5 e6
theorem Ok.putN {g:Gm} {G H:Hp}:∀ (cs:List (Addr × HO)) (ods:List OD) (b:Nat) (σ:St) (Δ:Evt),Ok K g G H σ Δ -> b + ods.length <= Δ.length->Nest K g G H σ Δ cs ods →
  Ok K g G H (putS b (cs.map (·.1)) σ) (L2.putN b ((cs.map (·.1)).zip ods) Δ)
 | [],[],_,_,_,k,_,_=>k
 | [],_ :: _,_,_,_,_,_,n=>by cases n.2.1
 | _ :: _,[],_,_,_,_,_,n=>by cases n.2.1
 | c :: cs,od :: ods,b,σ,Δ,k,hl,⟨nd,pr,al⟩=>by
  cases pr with
  | cons r t=>
   obtain ⟨h1,h2,h3,h4,h5⟩:=al c List.mem_cons_self
   rw [List.map_cons,List.nodup_cons] at nd
   have hb:b < Δ.length:=by rw [List.length_cons] at hl; omega
   have k1:=k.setOwnA hb ⟨c.2,h1,r,h2,h3,h4,h5⟩
   refine Ok.putN cs ods (b + 1) _ _ k1 (by rw [List.length_set]; rw [List.length_cons] at hl; omega) ⟨nd.2,t,fun d hd=>?_⟩
   obtain ⟨f1,f2,f3,f4,f5⟩:=al d (List.mem_cons_of_mem _ hd)
   have hne:d.1 ≠ c.1:=fun e=>nd.1 (by rw [<- e]; exact List.mem_map.mpr ⟨d,hd,rfl⟩)
   refine ⟨f1,f2,f3,f4,fun j x od' e1 e2=>?_⟩
   by_cases hj:j=b
   ·subst hj
    rw [List.getElem?_set_self (by rw [<- k.len]; exact hb)]
    intro z
    have:c.1=d.1:=by
     have z1:=Option.some.inj (Option.some.inj z)
     injection z1
    exact hne this.symm
   ·rw [List.getElem?_set_ne (Ne.symm hj)] at e1 ⊢
    exact f5 j x od' e1 e2
theorem Ziw:∀ (l:List (Addr × OD)) (R T:Evt) (m:Nat),l.length<=m->L2.putN R.length l (R ++ List.replicate m Slot.any ++ T)=R ++ l.map (fun c=>Slot.ownA c.1 c.2) ++ List.replicate (m - l.length) Slot.any ++ T
 | [],R,T,m,_=>by simp [L2.putN]
 | c :: r,R,T,m,h=>by
  obtain ⟨m',rfl⟩:∃ m',m=m' + 1:=⟨m - 1,by rw [List.length_cons] at h; omega⟩
  have e:(R ++ List.replicate (m' + 1) Slot.any ++ T).set R.length (.ownA c.1 c.2)=(R ++ [.ownA c.1 c.2]) ++ List.replicate m' Slot.any ++ T:=by
   rw [List.replicate_succ]
   simp [List.set_append_right]
  rw [L2.putN,e]
  have:=Ziw r (R ++ [.ownA c.1 c.2]) T m' (by rw [List.length_cons] at h; omega)
  rw [List.length_append,List.length_singleton] at this
  rw [this]
  simp
theorem Zn0 {te:TE} {i base:Nat} {nx bk ct:Evt->Prop} {rt:D->Evt->Prop} {ro:OD->Evt->Prop}
  (h:JN K te Δ fun ods Δ1=>i < base/\base + ods.length <= Δ1.length/\∀ as:List Addr,as.length=ods.length->as.Nodup->nx (L2.putN base (as.zip ods) (Δ1.set i (.val (.lst (as.map D.adr)))))) :
  JS K (tGhost base (tAsg te (gName i))) Δ ⟨nx,rt,bk,ct,ro⟩:=fun g G H σ E k c=>
 h g G H σ _ k fun acc cs ods G1 H1 Δ1 k1 s1 rr _ nn hq_=>by
  obtain ⟨hi,hb,p⟩:=hq_
  have hl:cs.length=ods.length:=Paired.length nn.2.1
  have e0:(cs.map fun c=>D.adr c.1)=(cs.map (·.1)).map D.adr:=by rw [List.map_map]; rfl
  have k2:=k1.setVal' i rr
  have n2:Nest K g G1 H1 (σ.set i (some (.ref acc))) (Δ1.set i (.val (.lst (cs.map fun c=>D.adr c.1)))) cs ods:=by
   obtain ⟨nd,pr,al⟩:=nn
   refine ⟨nd,pr,fun d hd=>?_⟩
   obtain ⟨f1,f2,f3,f4,f5⟩:=al d hd
   refine ⟨f1,f2,f3,f4,fun j x od' e1 e2=>?_⟩
   by_cases hj:j=i
   ·subst hj
    by_cases hlt:j < Δ1.length
    ·rw [List.getElem?_set_self hlt] at e1; cases e1; cases e2
    ·rw [List.getElem?_eq_none (by rw [List.length_set]; omega)] at e1; cases e1
   ·rw [List.getElem?_set_ne (Ne.symm hj)] at e1 ⊢
    exact f5 j x od' e1 e2
  have k3:=Ok.putN cs ods base _ _ k2 (by rw [List.length_set]; exact hb) n2
  refine ⟨putS base (cs.map (·.1)) (σ.set i (some (.ref acc))),Zhc _ _ _,fun j hj=>Zek _ _ _ j hj,?_⟩
  rw [e0] at k3
  exact c.nx _ G1 H1 _ k3 (p (cs.map (·.1)) (by rw [List.length_map,hl]) nn.1)
theorem Ziv {n j:Nat} {a:Addr} {ds:List D} {P:D->Evt->Prop} (hx:Δ[n]? = some (.val (.adr a))) (hj:Δ[j]? = some (.ownA a (.lst ds))) (p:P (.int ds.length) Δ):JE K (tCB (rLenU K) (tCons (tVar n) tNil)) Δ P:=fun g G H σ Q k c=>by
 obtain ⟨v,h1,h2⟩:=k.val n _ hx
 cases h2
 obtain ⟨a',o,w1,w2,w3,w4,w5⟩:=k.own j _ _ hj rfl
 obtain ⟨rfl,_⟩:=w5
 cases o with
 | lst vs=>
  have w3:Reps K G vs ds:=w3
  refine ⟨_,h1,.inl ⟨_,vs,rfl,.inl (SqL.of w2),?_⟩⟩
  rw [w3.length]; exact c _ _ G H Δ k (Same.refl _) (.int _) p
 | _=>exact absurd w3 (fun z=>z)
theorem Zms {n:Nat} {t1 t2:TE} {a:Addr} {j0:Nat} {ds0:List D} {nx bk ct:Evt->Prop} {rt:D->Evt->Prop} {ro:OD->Evt->Prop} (hx:Δ[n]? = some (.val (.adr a))) (hj0:Δ[j0]? = some (.ownA a (.lst ds0)))
  (h:JE K t1 Δ fun e1 Δ1=>JE K t2 Δ1 fun e2 Δ2=>∃ j i ds,e1=.int i /\ Δ2[j]? = some (.ownA a (.lst ds))/\ds.length < sizeLine /\ -(2 ^ 62)<=i/\i < 2 ^ 62/\nx (Δ2.set j (.ownA a (.lst (ds.take (insI ds.length i) ++ e2 :: ds.drop (insI ds.length i)))))) :
  JS K (tDrop (tBM K "list" rInsert (tVar n) (tCons t1 (tCons t2 tNil)))) Δ ⟨nx,rt,bk,ct,ro⟩:=fun g G H σ E k c=>by
 obtain ⟨v,h1,h2⟩:=k.val n _ hx
 cases h2
 obtain ⟨a',o,w1,w2,w3,w4,w5⟩:=k.own j0 _ _ hj0 rfl
 obtain ⟨rfl,_⟩:=w5
 cases o with
 | lst vs0=>
  refine ⟨_,h1,.inl ⟨rfl,_,SqL.of w2⟩,h g G H σ _ k fun v1 e1 G1 H1 Δ1 k1 s1 r1 p1=>p1 g G1 H1 σ _ k1 fun v2 e2 G2 H2 Δ2 k2 s2 r2 ⟨j,i,ds,q1,q2,q3,q4,q5,p⟩=>?_⟩
  subst q1
  cases r1.inv
  obtain ⟨a2,o2,u1,u2,u3,u4,u5⟩:=k2.own j _ _ q2 rfl
  obtain ⟨rfl,_⟩:=u5
  cases o2 with
  | lst vs=>
   have u3:Reps K G2 vs ds:=u3
   refine ⟨_,vs,i,v2,rfl,rfl,u2,by rw [u3.length]; exact q3,q4,q5,?_⟩
   have k3:=k2.write q2 rfl u1 (show OwnRep K G2 (.lst (vs.take (insI vs.length i) ++ v2 :: vs.drop (insI vs.length i))) (.lst (ds.take (insI ds.length i) ++ e2 :: ds.drop (insI ds.length i))) from by
    rw [u3.length]; exact (u3.take _).append (.cons r2 (u3.drop _)))
   exact c.nx σ G2 _ _ k3 p
  | _=>exact absurd u3 (fun z=>z)
 | _=>exact absurd w3 (fun z=>z)
theorem JS.conv {t:TS} {Δ':Evt} {P:Pst} (hc:∀ g G H σ,Ok K g G H σ Δ -> ∃ G',Same G G' /\ Ok K g G' H σ Δ') (h:JS K t Δ' P):JS K t Δ P:=fun g G H σ E k c=>by
 obtain ⟨G',s,k'⟩:=hc g G H σ k
 exact h g G' H σ E k' c
theorem Ok.freezeA {g:Gm} {G H:Hp} {σ:St} (k:Ok K g G H σ Δ) {i:Nat} {a:Addr} {ds:List D} (h:Δ[i]? = some (.ownA a (.lst ds))):∃ G',Same G G' /\ Ok K g G' H σ (Δ.set i .any)/\Rep K G' (.ref a) (.lst ds):=by
 obtain ⟨a',o,w1,w2,w3,w4,w5⟩:=k.own i _ _ h rfl
 obtain ⟨rfl,w6⟩:=w5
 cases o with
 | lst vs=>
  have pd:Pend K g G H σ (Δ.set i .any) a (.lst ds):=by
   refine ⟨.lst vs,w2,w3,w4,w6,?_,fun j x od' e1 e2 e3=>?_⟩
   ·cases q:g.Xo a with
    | none=>rfl
    | some u=>exact absurd w1 ((k.ext a u q).2.2 i _ _ h rfl)
   ·by_cases hj:j=i
    ·subst hj
     rw [List.getElem?_set] at e1
     simp at e1
     obtain ⟨_,e1⟩:=e1
     subst e1
     cases e2
    ·rw [List.getElem?_set_ne (Ne.symm hj)] at e1
     exact hj (k.dis j i x _ od' _ a e1 e2 h rfl e3 w1)
  obtain ⟨k2,sg,r⟩:=(k.drop i).freeze pd w2
  exact ⟨_,sg,k2,r⟩
 | _=>exact absurd w3 (fun z=>z)
theorem Ok.freezeN {g:Gm} {H:Hp} {σ:St}:∀ (cs:List (Addr × List D)) (R T:Evt) (G:Hp),Ok K g G H σ (R ++ cs.map (fun c=>Slot.ownA c.1 (.lst c.2)) ++ T) →
  ∃ G',Same G G' /\ Ok K g G' H σ (R ++ List.replicate cs.length .any ++ T)/\∀ c ∈ cs,Rep K G' (.ref c.1) (.lst c.2)
 | [],R,T,G,k=>⟨G,Same.refl _,by simpa using k,fun c hc=>nomatch hc⟩
 | c :: r,R,T,G,k=>by
  have hi:(R ++ (c :: r).map (fun c=>Slot.ownA c.1 (.lst c.2)) ++ T)[R.length]? = some (.ownA c.1 (.lst c.2)):=by simp
  obtain ⟨G1,s1,k1,r1⟩:=k.freezeA hi
  have e:(R ++ (c :: r).map (fun c=>Slot.ownA c.1 (.lst c.2)) ++ T).set R.length .any=(R ++ [.any]) ++ r.map (fun c=>Slot.ownA c.1 (.lst c.2)) ++ T:=by
   simp [List.set_append_right]
  rw [e] at k1
  obtain ⟨G2,s2,k2,r2⟩:=Ok.freezeN r (R ++ [.any]) T G1 k1
  refine ⟨G2,s1.trans s2,?_,fun d hd=>?_⟩
  ·have e2:(R ++ [Slot.any]) ++ List.replicate r.length Slot.any ++ T=R ++ List.replicate (c :: r).length Slot.any ++ T:=by
    rw [List.length_cons,List.replicate_succ]; simp
   rw [e2] at k2; exact k2
  ·rcases List.mem_cons.mp hd with e | hd
   ·subst e; exact r1.mono s2
   ·exact r2 d hd
theorem Ok.thaw {g:Gm} {G H:Hp} {σ:St} {cs:List (Addr × List D)} {R T:Evt} {i:Nat} (k:Ok K g G H σ (R ++ cs.map (fun c=>Slot.ownA c.1 (.lst c.2)) ++ T)) (hi:R[i]? = some (.val (.lst (cs.map fun c=>D.adr c.1)))) :
  ∃ G',Same G G' /\ Ok K g G' H σ (R.set i (.val (.lst (cs.map fun c=>D.lst c.2))) ++ List.replicate cs.length .any ++ T):=by
 have hlt:i < R.length:=(List.getElem?_eq_some_iff.mp hi).1
 obtain ⟨v,h1,h2⟩:=k.val i _ (by rw [List.append_assoc,List.getElem?_append_left hlt]; exact hi)
 obtain ⟨G1,s1,k1,r1⟩:=Ok.freezeN cs R T G k
 refine ⟨G1,s1,?_⟩
 have rr:Rep K G1 v (.lst (cs.map fun c=>D.lst c.2)):=by
  cases h2 with
  | lst ha rs=>
   refine .lst (s1 _ _ ha) ?_
   have key:∀ (l:List (Addr × List D)) (vs:List V),(∀ c ∈ l,Rep K G1 (.ref c.1) (.lst c.2))->Reps K G vs (l.map fun c=>D.adr c.1)->Reps K G1 vs (l.map fun c=>D.lst c.2):=by
    intro l
    induction l with
    | nil=>intro vs _ h; cases h; exact .nil
    | cons c r ih=>
     intro vs hc h
     cases h with
     | cons h1 h2=>
      cases h1
      exact .cons (hc c List.mem_cons_self) (ih _ (fun d hd=>hc d (List.mem_cons_of_mem _ hd)) h2)
   exact key cs _ r1 rs
 have k2:=k1.setVal' i rr
 have e1:σ.set i (some v) = σ:=by
  apply List.ext_getElem?
  intro j
  by_cases hj:j=i
  ·subst hj; rw [List.getElem?_set_self (by obtain ⟨z,_⟩:=List.getElem?_eq_some_iff.mp h1; exact z),h1]
  ·rw [List.getElem?_set_ne (Ne.symm hj)]
 rw [e1] at k2
 have e2:(R ++ List.replicate cs.length Slot.any ++ T).set i (.val (.lst (cs.map fun c=>D.lst c.2)))=R.set i (.val (.lst (cs.map fun c=>D.lst c.2))) ++ List.replicate cs.length Slot.any ++ T:=by
  rw [List.append_assoc,List.append_assoc,List.set_append_left _ _ hlt]
 rw [e2] at k2
 exact k2
end
end L2
set_option Elab.async false
set_option linter.all false
set_option maxRecDepth 100000
namespace L2
open PySem PySem.Spec PyProof.Rows
section
variable {X:Cx} (K:PySem.W.Frag)
theorem ixK (hu:X.A.units + 1 < cLine) (hK:X.K=K:=by rfl):IxR X (rIxU K):=hK ▸ ixU hu
theorem slK (hK:X.K=K:=by rfl):SlR X (rSlU K):=hK ▸ slU
theorem addK (hK:X.K=K:=by rfl):OpR X (binaryOp .Add) (rAddU K):=hK ▸ Zm1
theorem lenK (hK:X.K=K:=by rfl):CallR X (.builtin "len") (rLenU K):=hK ▸ Zjv
def rTup (K:PySem.W.Frag):List V->Hp->VK->Prop:=fun xs H Q=>∃ p ys,xs=[.ref p]/\((SqL K H p ys/\∀ l,H l=none->Q (.ref l) (upd H l (.tup ys)))\/(SqT K H p ys/\Q (.ref p) H))
theorem tupK (hK:X.K=K:=by rfl):CallR X (.type "tuple") (rTup K):=hK ▸ Zet
def rLst (K:PySem.W.Frag):List V->Hp->VK->Prop:=fun xs H Q=>∃ p ys,xs=[.ref p]/\(SqL K H p ys\/SqT K H p ys)/\∀ l,H l=none->Q (.ref l) (upd H l (.lst ys))
theorem seqK {tg l:Expr} {tl:TE} (hl:PE X l tl) (hK:X.K=K:=by rfl):PI X tg l (iSeq K tl):=hK ▸ Zop hl
theorem truK {a:Expr} {ta:TE} (ha:PE X a ta) (he:∀ whole,isTrue a X.env whole=(do let v ← whole; standAt a.pos; holding [v] (truthy v))) (hK:X.K=K:=by rfl):PT X a (tTru K ta):=hK ▸ Zox ha he
theorem gtupK {es:List Expr} {k:Nat} {t:TGs} {n:Nat} {pos:Pos} (hc:X.calm=true) (h:PGs X es t)
  (hn:(assignEach es X.env).length=n:=by rfl) (hst:(assignEach es X.env).findIdx? (·.1)=none:=by rfl) (hK:X.K=K:=by rfl):PG X (.Tuple es k pos) (gTup K n t):=hK ▸ Zoq hc h hn hst
variable {o e:Expr} {es:List Expr} {to:TE} {t:TA} {name:Str} {apos cpos:Pos} {T id:String} {r:V->List V->Hp->VK->Prop}
theorem bmK (pa:PlainAttrs T) (slot:PySem.Slot T name id) (hty:typeOf (.builtin id)=pure (.type "method_descriptor")) (hm:MtR X id r) (ho:PE X o to) (ha:PA X (e :: es) t)
  (hbase:attributeBase o name X.env (eval o X.env)=eval o X.env:=by rfl)
  (hfew:((backTo cpos (starEach (e :: es) X.env)).all (fun x=>!x.1) && (backToKw cpos (keywordEach [] X.env)).all (fun x=>x.1.isSome)
   && decide ((e :: es).length + ([]:List Keyword).length + (if ([]:List Keyword).isEmpty then 0 else 1) < 30))=true:=by rfl)
  (hline:(apos.endLine == cpos.line)=true:=by rfl) (hs:starEach (e :: es) X.env=(false,eval e X.env) :: starEach es X.env:=by rfl) (hplain:(backTo cpos (starEach es X.env)).any (·.1)=false:=by rfl) (hK:X.K=K:=by rfl) :
  PE X (.Call (.Attribute o name apos) (e :: es) [] cpos) (tBM K T r to t):=hK ▸ Zp2 pa slot hty hm ho ha hbase hfew hline hs hplain
end
section
variable {K:PySem.W.Frag} {Δ:Evt} {P:D->Evt->Prop}
theorem Zca {ds es:List D} (he:ds=[.lst es]\/ds=[.tup es]) (p:P (.tup es) Δ):JC K (rTup K) ds Δ P:=Zlu he p
theorem Zl0 {ds es:List D} (he:ds=[.lst es]\/ds=[.tup es]) (p:P (.lst es) Δ):JC K (rLst K) ds Δ P:=fun g G H σ Q vs k rs c=>by
 rcases he with he | he <;> subst he
 ·obtain ⟨_,_,rfl,r,t⟩:=rs.inv
  next=>
   cases t.inv
   obtain ⟨_,_,rfl,ha,rs⟩:=r.inv
   next=>
    refine ⟨_,_,rfl,.inl (SqL.of (k.live _ _ ha)),fun l hl=>?_⟩
    obtain ⟨k2,sg⟩:=k.laid hl (.lst _)
    exact c _ _ _ _ Δ k2 sg (.lst Zam (rs.mono sg)) p
 ·obtain ⟨_,_,rfl,r,t⟩:=rs.inv
  next=>
   cases t.inv
   obtain ⟨_,_,rfl,ha,rs⟩:=r.inv
   next=>
    refine ⟨_,_,rfl,.inr (SqT.of (k.live _ _ ha)),fun l hl=>?_⟩
    obtain ⟨k2,sg⟩:=k.laid hl (.lst _)
    exact c _ _ _ _ Δ k2 sg (.lst Zam (rs.mono sg)) p
theorem Zk2 {sel:List Nat} {wi:TI} {tc:TT} {te:TE} {Po:List OD->Evt->Prop} (hsel:sel.Nodup)
  (h:JI K wi Δ fun ds Δ1=>ds.length < sizeLine/\∃ (p:D->Bool) (f:D->OD),
   (∀ (i:Nat) d,ds[i]? = some d->JT K tc (.val d :: fixD sel Δ1) fun b Δ4=>b=p d/\if b=true then JO K te Δ4 fun e Δ5=>e=f d/\∃ x,Δ5=x :: fixD sel Δ1 else ∃ x,Δ4=x :: fixD sel Δ1) ∧
   Po ((ds.filter p).map f) Δ1):JN K (tComp 1 sel wi (gName 0) tc te) Δ Po:=by
 refine Znz hsel fun g G H σ R k c=>h g G H σ R k fun J ds G' H' Δ' k' s' it ⟨z,p,f,ht,he⟩=>c J ds G' H' Δ' k' s' it ⟨z,fun i ys Δ=>ys=((ds.take i).filter p).map f/\∃ x,Δ = x :: fixD sel Δ',⟨by simp,.any,rfl⟩,?_,?_⟩
 ·rintro i d ys Δ2 hd ⟨rfl,x,rfl⟩
  have tk:ds.take (i + 1)=ds.take i ++ [d]:=by
   rw [List.take_add_one,hd]; rfl
  refine Zd1 (by decide) ?_
  intro g G H σ Q k c
  refine ht i d hd g G H σ Q k fun b G1 H1 Δ1 k1 s1 ⟨e1,q⟩=>c b G1 H1 Δ1 k1 s1 ?_
  cases b with
  | true=>
   rw [if_pos rfl] at q ⊢
   intro g G H σ Q k c
   refine q g G H σ Q k fun a od G2 H2 Δ2 k2 s2 pd ⟨e2,x,e3⟩=>c a od G2 H2 Δ2 k2 s2 pd ⟨?_,x,e3⟩
   rw [tk,List.filter_append,List.map_append,List.filter_cons,<- e1,e2]
   rfl
  | false=>
   rw [if_neg Bool.false_ne_true] at q ⊢
   obtain ⟨x,e3⟩:=q
   refine ⟨?_,x,e3⟩
   rw [tk,List.filter_append,List.map_append,List.filter_cons,<- e1]
   simp
 ·rintro ys Δ2 ⟨rfl,x,rfl⟩
  rw [List.take_length,show (x :: fixD sel Δ')=[x] ++ fixD sel Δ' from rfl,Zcs (by simp)]
  exact he
end
end L2
set_option Elab.async false
set_option linter.all false
set_option maxRecDepth 100000
namespace L2
open PySem PySem.Spec PyProof.Rows
def fLaw:DSp:=fun ds Post=>∃ ns:List Int,ds=[.scr (ns.map .int)]/\ns.length<=63/\Post (.bl true)
def spLaw (K:PySem.W.Frag):Sp:=fun vs H Q _=>∃ (a:Addr) (ns:List Int),vs=[.ref a]/\SqL K H a (ns.map V.int)/\ns.length<=63/\∀ H',Q (.bl true) H'
theorem Zlr {K:PySem.W.Frag} {vs:List V} {H:Hp} {Q:VK} {E:XK} (h:spLaw K vs H Q E):spD K fLaw vs H Q E:=by
 obtain ⟨a,ns,rfl,hs,hl,q⟩:=h
 refine ⟨H,[.scr (ns.map .int)],fun d=>d=.bl true,Same.refl _,.cons (.scr hs (Reps.ofInts ns)) .nil,⟨ns,rfl,hl,rfl⟩,fun r H' d sh rr e=>?_⟩
 subst e
 cases rr.inv
 exact q H'
theorem walk_law {l:PySem.W.OpenLaw} {q:Program} {loose:List Str} {XP:(Str->Option Value)->Heap->Prop} {YP:World->Heap->Prop} {d:DefRec} {K:Params->PySem.W.Frag} {k:Nat} {x:Str} (hk:Room k callerA) (hn:l.most=some 63) (hdf:d.params.defaults=[])
  (hY:∀ (w:World) (h:Heap),YP w h->(K w.params).In h)
  (F:∀ (w:World) (mg:Str->Option Value) (fa:Addr) (h:Heap),(K w.params).In h->h.Ns mainGlobals mg->mg d.name=some (.ref fa) →
   ∃ fd:FuncData,(∀ (s:Shared) (u:Value),BindsTo s fd ⟨[u],[]⟩ [(x,u)])/\∀ base:Heap,(K w.params).In base->base.Ns mainGlobals mg->FnOk l.prog w (K w.params) mg base CX0 k fa fd [x] (spD (K w.params) fLaw)) :
  PySem.W.WalkO q loose XP YP l.row.toRowW d [] (fun f vs=>PySem.call f vs):=
 L2.walk_of (n:=63) (k:=k) (x:=x) (CX:=fun _=>CX0) (sp:=fun w=>spLaw (K w.params)) hn (by decide) hdf hk hY
  (fun w mg fa h h1 h2 h3=>by
   obtain ⟨fd,b,f⟩:=F w mg fa h h1 h2 h3
   exact ⟨fd,b,fun base kb nb=>(f base kb nb).imp fun vs H Q E z=>Zlr z⟩)
  (fun _ _ a ns hl _ hS=>⟨a,ns,rfl,hS,hl,fun _=>rfl⟩) fun _ _ _ _ _ z=>z
end L2
set_option Elab.async false
set_option linter.all false
set_option maxRecDepth 100000
namespace L2
open PySem PySem.Spec PyProof.Rows
def SqB (b:Bool) (K:PySem.W.Frag) (H:Hp) (a:Addr) (xs:List V):Prop:=match b with | true=>SqT K H a xs | false=>SqL K H a xs
def ItB (b:Bool) (h:Heap) (j a:Addr) (i:Nat):Prop:=match b with | true=>h.IsTupleIter j a i | false=>h.IsListIter j a i
def HsB (b:Bool) (h:Heap) (a:Addr) (ws:Array Value):Prop:=match b with | true=>h.IsTuple a ws | false=>h.IsList a ws
theorem ItB.at {b:Bool} {h h':Heap} {j a:Addr} {i:Nat} (x:ItB b h j a i) (e:∀ o,h.get? j=some o->h'.get? j=some o):ItB b h' j a i:=by
 cases b
 ·exact Heap.IsListIter.at (show h.IsListIter j a i from x) e
 ·exact Heap.IsTupleIter.at (show h.IsTupleIter j a i from x) e
theorem ItB.off {b:Bool} {h h':Heap} {j a c:Addr} {i:Nat} (x:ItB b h j a i) (e:Heap.ExtBut c h h') (n:j ≠ c):ItB b h' j a i:=x.at fun o q=>e j o n q
theorem ItB.obj {b:Bool} {h:Heap} {j a:Addr} {i:Nat} (x:ItB b h j a i):∃ o,h.get? j=some o/\o.data=.fields #[.ref a,.int i 0]:=by
 cases b <;> (obtain ⟨o,e,_,d⟩:=x; exact ⟨o,e,d⟩)
theorem HsB.off {b:Bool} {h h':Heap} {a c:Addr} {ws:Array Value} (x:HsB b h a ws) (e:Heap.ExtBut c h h') (n:a ≠ c):HsB b h' a ws:=by
 cases b <;> (obtain ⟨o,q,r⟩:=x; exact ⟨o,e a o n q,r⟩)
theorem HsB.lt {b:Bool} {h:Heap} {a:Addr} {ws:Array Value} (x:HsB b h a ws):a < h.objs.size:=by
 cases b <;> (obtain ⟨o,q,r⟩:=x; exact Heap.lt_size q)
theorem Inv.seqB {X:Cx} {pins:List (Addr × Obj)} {σ:St} {H:Hp} {s:Shared} {b:Bool} {a:Addr} {xs:List V} (I:Inv X pins σ H s) (h:SqB b X.K H a xs):∃ its:List Value,Vals xs its/\HsB b s.heap a its.toArray:=by
 cases b
 ·obtain ⟨its,r,p,_⟩:=I.list h
  exact ⟨its,r,p.isList⟩
 ·obtain ⟨its,r,p,_⟩:=I.tuple h
  exact ⟨its,r,p⟩
theorem Inv.seqB_inj {X:Cx} {pins:List (Addr × Obj)} {σ:St} {H:Hp} {s:Shared} {b:Bool} {a:Addr} {xs ys:List V} (I:Inv X pins σ H s) (h:SqB b X.K H a xs) (h':SqB b X.K H a ys):xs=ys:=by
 cases b
 ·exact I.list_inj h h'
 ·exact I.tuple_inj h h'
section
variable {prog:Program} {w:World} {A:Around} {E:Value->Shared->Prop} {s:Shared}
theorem Zfg {b:Bool} {j a:Addr} {i:Nat} {ws:Array Value} {x:Value} {Q:Value->Shared->Prop} (g:ItB b s.heap j a i) (l:HsB b s.heap a ws) (e:ws[i]? = some x)
  (q:∀ h',ItB b h' j a (i + 1)->Heap.SameBut j s.heap h' -> Q x { s with heap:=h' }):wpAny (model prog w) A (Builtin.SmallTypes.nextOf (.ref j)) Q E s:=by
 cases b
 ·exact wpAny_nextOf_list_item g l e q
 ·obtain ⟨o,g1,g2,g3⟩:=id g
  obtain ⟨u,l1,_,n,l2⟩:=l
  have ty:s.TypeIs (.ref j) "tuple_iterator":=⟨o,g1,g2⟩
  unfold Builtin.SmallTypes.nextOf
  refine wpAny_bind (wpAny_callSpecial?_slot (name:=Str.ofString "__next__") ty F.slot_tuple_iterator_next (wpAny_call_entry F.slot_tuple_iterator_next ty F.entry_tuple_iterator_next ?_ (F.args_tuple_iterator_next_1 _)))
  refine (show wpAny _ _ (field (.ref j) 0 >>= _) _ _ s from wpAny_bind (wpAny_field g1 g3 (x:=.ref a) rfl ?_))
  refine (show wpAny _ _ (if (Value.ref a == Value.none)=true then _ else _) _ _ s from ?_)
  rw [if_neg (by exact Bool.false_ne_true)]
  refine (show wpAny _ _ (field (.ref j) 1 >>= _) _ _ s from wpAny_bind (wpAny_field g1 g3 (x:=.int i 0) rfl ?_))
  refine (show wpAny _ _ (seqItems? (.ref a) >>= _) _ _ s from wpAny_bind (wpAny_seqItems l1 l2 ?_))
  simp only [Int.toNat_natCast,e]
  refine wpAny_bind (wpAny_setField g1 g3 (by simp) (wpAny_pure ⟨x,rfl,wpAny_pure (q _ ⟨_,Heap.get?_update_self _ g1 (Obj.isFreed_of_fields (Obj.data_mapFields g3 _)),(Obj.cls_mapFields ..).trans g2,?_⟩ (Heap.SameBut.update ..))⟩))
  rw [Obj.data_mapFields g3]; simp [rawInt]
theorem Zi8 {b:Bool} {j a:Addr} {i:Nat} {ws:Array Value} {Q:Value->Shared->Prop} (hh:A.handled=none) (g:ItB b s.heap j a i) (l:HsB b s.heap a ws) (e:ws[i]? = none)
  (q:∀ h' x,Heap.ExtBut j s.heap h' -> (∃ o,h'.get? x=some o/\o.cls=.type "StopIteration")->E (.ref x) { s with heap:=h' }):wpAny (model prog w) A (Builtin.SmallTypes.nextOf (.ref j)) Q E s:=by
 cases b
 ·exact wpAny_nextOf_list_end hh g l e q
 ·obtain ⟨o,g1,g2,g3⟩:=id g
  obtain ⟨u,l1,_,n,l2⟩:=l
  have ty:s.TypeIs (.ref j) "tuple_iterator":=⟨o,g1,g2⟩
  unfold Builtin.SmallTypes.nextOf
  refine wpAny_bind (wpAny_callSpecial?_slot (name:=Str.ofString "__next__") ty F.slot_tuple_iterator_next (wpAny_call_entry F.slot_tuple_iterator_next ty F.entry_tuple_iterator_next ?_ (F.args_tuple_iterator_next_1 _)))
  refine (show wpAny _ _ (field (.ref j) 0 >>= _) _ _ s from wpAny_bind (wpAny_field g1 g3 (x:=.ref a) rfl ?_))
  refine (show wpAny _ _ (if (Value.ref a == Value.none)=true then _ else _) _ _ s from ?_)
  rw [if_neg (by exact Bool.false_ne_true)]
  refine (show wpAny _ _ (field (.ref j) 1 >>= _) _ _ s from wpAny_bind (wpAny_field g1 g3 (x:=.int i 0) rfl ?_))
  refine (show wpAny _ _ (seqItems? (.ref a) >>= _) _ _ s from wpAny_bind (wpAny_seqItems l1 l2 ?_))
  simp only [Int.toNat_natCast,e]
  refine wpAny_bind (wpAny_rule (wpAny_bind (wpAny_setField g1 g3 (by simp) (show wpAny _ _ (newExc (.type "StopIteration") [] >>= _) _ _ _ from wpAny_bind ?_))))
  simp only [newExc,newTuple]
  refine wpAny_bind (wpAny_newObj_type (wpAny_bind (m:=firstArgMember _ _) (wpAny_of_eq (a:=Value.none) (by first | rfl | (simp only [firstArgMember]; rfl)) (wpAny_newObj_type ?_ (by size_fits)))) (by size_fits))
  simp only [raiseNew]
  refine wpAny_bind (wpAny_handled ?_)
  first | rw [show A.in1.handled=none from hh] | rw [hh]
  exact wpAny_bind (wpAny_pure (wpAny_throw (q _ _ (((Heap.SameBut.update ..).extBut.push _).push _) ⟨_,Heap.get?_push_size _ rfl,rfl⟩)))
theorem Zmw {b c:Bool} {z U O j1 j2 a1 a2:Addr} {k1 k2:Nat} {vs us:Array Value} {x y p r:Value} {Q:Option Value->Shared->Prop} (D:ZipApart z U O j1 j2 a1 a2)
  (gz:IsZip s.heap z U O .none) (gU:IsPair s.heap U (.ref j1) (.ref j2)) (gO:IsPair s.heap O p r) (g1:ItB b s.heap j1 a1 k1) (g2:ItB c s.heap j2 a2 k2) (l1:HsB b s.heap a1 vs) (l2:HsB c s.heap a2 us) (ex:vs[k1]? = some x) (ey:us[k2]? = some y)
  (q:∀ h',IsZip h' z U O (rawInt s.heap.objs.size)->IsPair h' O x y->ItB b h' j1 a1 (k1 + 1)->ItB c h' j2 a2 (k2 + 1)->IsPair h' s.heap.objs.size x y->h'.objs.size=s.heap.objs.size + 1 →
   (∀ d o,d ≠ z->d ≠ O->d ≠ j1->d ≠ j2->s.heap.get? d=some o->h'.get? d=some o)->Q (some (.ref s.heap.objs.size)) { s with heap:=h' }):wpAny (model prog w) A (pyNext (.ref z)) Q E s:=by
 have ty:s.TypeIs (.ref z) "zip":=⟨_,gz,rfl⟩
 unfold pyNext
 refine wpAny_bind (wpAny_attempt (wpAny_callSpecial?_slot (name:=Str.ofString "__next__") ty F.slot_zip_next (wpAny_call_entry F.slot_zip_next ty F.entry_zip_next ?_ (F.args_zip_next_1 _))))
 refine (show wpAny _ _ (field (.ref z) 2 >>= _) _ _ _ from wpAny_bind (wpAny_field gz rfl (x:=.bool false) rfl ?_))
 refine (show wpAny _ _ (field (.ref z) 3 >>= _) _ _ _ from wpAny_bind (wpAny_field gz rfl (x:=.ref U) rfl (wpAny_bind (wpAny_seqItems gU rfl ?_))))
 refine (show wpAny _ _ (Builtin.SmallTypes.ownedTupleIsFree (.ref z) >>= _) _ _ _ from wpAny_bind ?_)
 unfold Builtin.SmallTypes.ownedTupleIsFree
 refine wpAny_bind (wpAny_field gz rfl (x:=.none) rfl (wpAny_pure ?_))
 simp only [if_true]
 refine wpAny_bind (wpAny_rule (wpAny_bind (wpAny_field gz rfl (x:=.ref O) rfl (wpAny_bind (wpAny_setField_rec gz (by simp) fun h₁ z₁ s₁=>wpAny_bind ?_)))))
 replace z₁:IsZip h₁ z U O .ellipsis:=z₁
 simp only [List.zipIdx_cons,List.zipIdx_nil,List.forIn_cons,List.forIn_nil]
 refine wpAny_bind (wpAny_bind (wpAny_onRaise (show wpAny _ _ (Builtin.SmallTypes.nextOf (.ref j1) >>= _) _ _ _ from wpAny_bind (Zfg (g1.off s₁.extBut D.i1z) (l1.off s₁.extBut D.l1z) ex fun h₂ g₂ s₂=>wpAny_pure ?_))))
 have o₂:IsPair h₂ O p r:=s₂.extBut _ _ D.TOi1 (s₁.extBut _ _ D.TOz gO)
 refine wpAny_bind (wpAny_seqItems o₂ rfl (wpAny_bind (wpAny_updateSeq_pair o₂ fun h₃ o₃ s₃=>wpAny_bind (wpAny_letGo (wpAny_pure ?_)))))
 replace o₃:IsPair h₃ O x r:=o₃
 refine wpAny_bind (wpAny_bind (wpAny_onRaise (show wpAny _ _ (Builtin.SmallTypes.nextOf (.ref j2) >>= _) _ _ _ from wpAny_bind (Zfg (((g2.off s₁.extBut D.i2z).off s₂.extBut D.i12.symm).off s₃.extBut D.TOi2.symm) (((l2.off s₁.extBut D.l2z).off s₂.extBut D.l2i1).off s₃.extBut D.l2TO) ey fun h₄ g₄ s₄=>wpAny_pure ?_))))
 have o₄:IsPair h₄ O x r:=s₄.extBut _ _ D.TOi2 o₃
 refine wpAny_bind (wpAny_seqItems o₄ rfl (wpAny_bind (wpAny_updateSeq_pair o₄ fun h₅ o₅ s₅=>wpAny_bind (wpAny_letGo (wpAny_pure (wpAny_pure ?_))))))
 replace o₅:IsPair h₅ O x y:=o₅
 refine wpAny_bind (wpAny_seqItems o₅ rfl (wpAny_bind (wpAny_newTuple ?_)))
 have n5:h₅.objs.size=s.heap.objs.size:=by rw [s₅.1,s₄.1,s₃.1,s₂.1,s₁.1]
 have z₅:IsZip h₅ z U O .ellipsis:=s₅.extBut _ _ D.TOz.symm (s₄.extBut _ _ D.i2z.symm (s₃.extBut _ _ D.TOz.symm (s₂.extBut _ _ D.i1z.symm z₁)))
 have old:∀ d o,d ≠ z->d ≠ O->d ≠ j1->d ≠ j2->s.heap.get? d=some o->h₅.get? d=some o:=fun d o c1 c2 c3 c4 e=>s₅.extBut _ _ c2 (s₄.extBut _ _ c4 (s₃.extBut _ _ c2 (s₂.extBut _ _ c3 (s₁.extBut _ _ c1 e))))
 have t1:ItB b h₅ j1 a1 (k1 + 1):=((g₂.off s₃.extBut D.TOi1.symm).off s₄.extBut D.i12).off s₅.extBut D.TOi1.symm
 have t2:ItB c h₅ j2 a2 (k2 + 1):=g₄.off s₅.extBut D.TOi2.symm
 have zl:z < h₅.objs.size:=Heap.lt_size z₅
 refine (show wpAny _ _ (Builtin.SmallTypes.ownedTupleHandOut (.ref z) (.ref h₅.objs.size) >>= _) _ _ _ from wpAny_bind ?_)
 unfold Builtin.SmallTypes.ownedTupleHandOut
 have z₆:IsZip (h₅.push { cls:=.type "tuple",data:=.seq #[x,y] }) z U O .ellipsis:=Heap.get?_push_of_some _ z₅
 refine wpAny_bind (wpAny_setField_rec z₆ (by simp) fun h₇ z₇ s₇=>?_)
 replace z₇:IsZip h₇ z U O (rawInt h₅.objs.size):=z₇
 refine wpAny_setField_rec z₇ (by simp) fun h₈ z₈ s₈=>?_
 replace z₈:IsZip h₈ z U O (rawInt h₅.objs.size):=z₈
 have up:∀ d o,d ≠ z->h₅.get? d=some o->h₈.get? d=some o:=fun d o c1 e=>s₈.extBut _ _ c1 (s₇.extBut _ _ c1 (Heap.get?_push_of_some _ e))
 have new8:IsPair h₈ h₅.objs.size x y:=s₈.extBut _ _ (Nat.ne_of_gt zl) (s₇.extBut _ _ (Nat.ne_of_gt zl) (Heap.get?_push_size _ rfl))
 have n8:h₈.objs.size=h₅.objs.size + 1:=by rw [s₈.1,s₇.1,Heap.size_push]
 rw [n5] at z₈ new8 n8
 refine wpAny_pure ⟨_,rfl,wpAny_pure ?_⟩
 refine (show Q (some (.ref h₅.objs.size)) _ from ?_)
 rw [n5]
 exact q h₈ z₈ (up _ _ D.TOz o₅) (t1.at fun o e=>up _ o D.i1z e) (t2.at fun o e=>up _ o D.i2z e) new8 n8 fun d o c1 c2 c3 c4 e=>up d o c1 (old d o c1 c2 c3 c4 e)
theorem Zpo {b c:Bool} {z U O j1 j2 a1 a2:Addr} {k1 k2:Nat} {vs us:Array Value} {p r:Value} {Q:Option Value->Shared->Prop} (hh:A.handled=none) (D:ZipApart z U O j1 j2 a1 a2)
  (gz:IsZip s.heap z U O .none) (gU:IsPair s.heap U (.ref j1) (.ref j2)) (gO:IsPair s.heap O p r) (g1:ItB b s.heap j1 a1 k1) (g2:ItB c s.heap j2 a2 k2) (l1:HsB b s.heap a1 vs) (l2:HsB c s.heap a2 us) (e:vs[k1]? = none\/us[k2]? = none)
  (q:∀ h',(∀ d o,d ≠ z->d ≠ O->d ≠ j1->d ≠ j2->s.heap.get? d=some o->h'.get? d=some o)->Q none { s with heap:=h' }):wpAny (model prog w) A (pyNext (.ref z)) Q E s:=by
 have ty:s.TypeIs (.ref z) "zip":=⟨_,gz,rfl⟩
 have fin:∀ {h':Heap} {x:Addr},(∀ d o,d ≠ z->d ≠ O->d ≠ j1->d ≠ j2->s.heap.get? d=some o->h'.get? d=some o)->(∃ o,h'.get? x=some o/\o.cls=.type "StopIteration")->wpAny (model prog w) A (do if (← isInstance (.ref x) (.type "StopIteration")) then pure none else throw (.ref x)) Q E { s with heap:=h' }:=fun {h' x} hk ⟨o,ho,hc⟩=>by
  refine wpAny_bind (wpAny_isInstance (T:="StopIteration") (b:=true) ⟨o,ho,hc⟩ isSubtype_stop ?_)
  exact wpAny_pure (q _ hk)
 unfold pyNext
 refine wpAny_bind (wpAny_attempt (wpAny_callSpecial?_slot (name:=Str.ofString "__next__") ty F.slot_zip_next (wpAny_call_entry F.slot_zip_next ty F.entry_zip_next ?_ (F.args_zip_next_1 _))))
 refine (show wpAny _ _ (field (.ref z) 2 >>= _) _ _ _ from wpAny_bind (wpAny_field gz rfl (x:=.bool false) rfl ?_))
 refine (show wpAny _ _ (field (.ref z) 3 >>= _) _ _ _ from wpAny_bind (wpAny_field gz rfl (x:=.ref U) rfl (wpAny_bind (wpAny_seqItems gU rfl ?_))))
 refine (show wpAny _ _ (Builtin.SmallTypes.ownedTupleIsFree (.ref z) >>= _) _ _ _ from wpAny_bind ?_)
 unfold Builtin.SmallTypes.ownedTupleIsFree
 refine wpAny_bind (wpAny_field gz rfl (x:=.none) rfl (wpAny_pure ?_))
 simp only [if_true]
 refine wpAny_bind (wpAny_rule (wpAny_bind (wpAny_field gz rfl (x:=.ref O) rfl (wpAny_bind (wpAny_setField_rec gz (by simp) fun h₁ z₁ s₁=>wpAny_bind ?_)))))
 replace z₁:IsZip h₁ z U O .ellipsis:=z₁
 simp only [List.zipIdx_cons,List.zipIdx_nil,List.forIn_cons,List.forIn_nil]
 refine wpAny_bind (wpAny_bind (wpAny_onRaise (show wpAny _ _ (Builtin.SmallTypes.nextOf (.ref j1) >>= _) _ _ _ from ?_)))
 cases ex:vs[k1]? with
 | none=>
  refine wpAny_bind (Zi8 hh (g1.off s₁.extBut D.i1z) (l1.off s₁.extBut D.l1z) ex fun h₂ y s₂ ⟨u,u1,u2⟩=>?_)
  have z₂:IsZip h₂ z U O .ellipsis:=s₂ _ _ D.i1z.symm z₁
  have yz:y ≠ z:=fun x=>by subst x; rw [z₂] at u1; cases u1; simp at u2
  exact wpAny_setField_rec z₂ (by simp) fun h₃ _ s₃=>fin (fun d o c1 _ c3 _ x=>s₃.extBut _ _ c1 (s₂ _ _ c3 (s₁.extBut _ _ c1 x))) ⟨u,s₃.extBut _ _ yz u1,u2⟩
 | some x=>
  have ey:us[k2]? = none:=by rcases e with h | h; rw [ex] at h; cases h; exact h
  refine wpAny_bind (Zfg (g1.off s₁.extBut D.i1z) (l1.off s₁.extBut D.l1z) ex fun h₂ g₂ s₂=>wpAny_pure ?_)
  have o₂:IsPair h₂ O p r:=s₂.extBut _ _ D.TOi1 (s₁.extBut _ _ D.TOz gO)
  refine wpAny_bind (wpAny_seqItems o₂ rfl (wpAny_bind (wpAny_updateSeq_pair o₂ fun h₃ o₃ s₃=>wpAny_bind (wpAny_letGo (wpAny_pure ?_)))))
  refine wpAny_bind (wpAny_bind (wpAny_onRaise (show wpAny _ _ (Builtin.SmallTypes.nextOf (.ref j2) >>= _) _ _ _ from ?_)))
  refine wpAny_bind (Zi8 hh (((g2.off s₁.extBut D.i2z).off s₂.extBut D.i12.symm).off s₃.extBut D.TOi2.symm) (((l2.off s₁.extBut D.l2z).off s₂.extBut D.l2i1).off s₃.extBut D.l2TO) ey fun h₄ y s₄ ⟨u,u1,u2⟩=>?_)
  have z₄:IsZip h₄ z U O .ellipsis:=s₄ _ _ D.i2z.symm (s₃.extBut _ _ D.TOz.symm (s₂.extBut _ _ D.i1z.symm z₁))
  have yz:y ≠ z:=fun x=>by subst x; rw [z₄] at u1; cases u1; simp at u2
  exact wpAny_setField_rec z₄ (by simp) fun h₅ _ s₅=>fin (fun d o c1 c2 c3 c4 x=>s₅.extBut _ _ c1 (s₄ _ _ c4 (s₃.extBut _ _ c2 (s₂.extBut _ _ c3 (s₁.extBut _ _ c1 x))))) ⟨u,s₅.extBut _ _ yz u1,u2⟩
end
section
abbrev zt1 (h:Heap) (a:Addr):Heap:=h.push ⟨.type "tuple_iterator",none,.fields #[.ref a,.int 0 0],#[]⟩
abbrev zt2 (h:Heap) (a c:Addr):Heap:=(zt1 h a).push ⟨.type "tuple_iterator",none,.fields #[.ref c,.int 0 0],#[]⟩
abbrev zt3 (h:Heap) (a c:Addr):Heap:=(zt2 h a c).push ⟨.type "tuple",none,.seq #[.ref h.objs.size,.ref (zt1 h a).objs.size],#[]⟩
abbrev zt4 (h:Heap) (a c:Addr):Heap:=(zt3 h a c).push ⟨.type "tuple",none,.seq #[.none,.none],#[]⟩
abbrev zt5 (h:Heap) (a c:Addr):Heap:=(zt4 h a c).push ⟨.type "zip",none,.fields #[.none,.bool false,.bool false,.ref (zt2 h a c).objs.size,.ref (zt3 h a c).objs.size],#[]⟩
theorem Zkz (a c:Addr) (vs us:Array Value) :
  Meets (Builtin.«zip.__new__» ⟨[.type "zip",.ref a,.ref c],[]⟩) (fun _ R s=>s.heap.IsTuple a vs/\s.heap.IsTuple c us/\R (.ok (.ret (.ref (zt4 s.heap a c).objs.size))) { s with heap:=zt5 s.heap a c }):=.of_wp fun prog w A R s h=>by
 obtain ⟨hp,g,d,tk,os⟩:=s; obtain ⟨u1,u2,h⟩:=h
 have sub0:=sub_zip
 have v1:Heap.IsTuple (Shared.heap ⟨hp,g,d,tk,os⟩) a vs:=u1
 have v2:Heap.IsTuple (Shared.heap ⟨hp.push { cls:=.type "tuple_iterator",data:=.fields #[.ref a,.int 0 0] },g,d,tk,os⟩) c us:=Heap.IsTuple.push u2 _
 wp_walk using wpAny_pyIter_tuple v1,wpAny_pyIter_tuple v2
 exact ⟨_,rfl,h⟩
variable {prog:Program} {w:World} {A:Around} {E:Value->Shared->Prop} {s:Shared}
theorem Zm4 {b:Bool} {a c:Addr} {vs us:Array Value} {Q:Value->Shared->Prop} (l1:HsB b s.heap a vs) (l2:HsB b s.heap c us)
  (q:∀ h',IsZip h' (s.heap.objs.size + 4) (s.heap.objs.size + 2) (s.heap.objs.size + 3) .none->IsPair h' (s.heap.objs.size + 2) (.ref s.heap.objs.size) (.ref (s.heap.objs.size + 1))->IsPair h' (s.heap.objs.size + 3) .none .none →
   ItB b h' s.heap.objs.size a 0->ItB b h' (s.heap.objs.size + 1) c 0->(∀ d o,s.heap.get? d=some o->h'.get? d=some o)->Q (.ref (s.heap.objs.size + 4)) { s with heap:=h' }):wpAny (model prog w) A (call (.type "zip") [.ref a,.ref c]) Q E s:=by
 cases b
 ·exact call_zip_2 l1 l2 fun h' b1 b2 b3 b4 b5 b6 hk=>q h' b1 b2 b3 b4 b5 hk
 ·refine callType_new F.called_zip (by decide) (F.typeCall_zip_2 _ _) (F.newCall_zip_2 _ _) (fun obj=>F.args_object_init_3 obj _ _) F.entry_zip_new (Zkz a c vs us) ⟨l1,l2,?_⟩
  have z1:(zt1 s.heap a).objs.size=s.heap.objs.size + 1:=Heap.size_push ..
  have z2:(zt2 s.heap a c).objs.size=s.heap.objs.size + 2:=by rw [Heap.size_push,z1]
  have z3:(zt3 s.heap a c).objs.size=s.heap.objs.size + 3:=by rw [Heap.size_push,z2]
  have z4:(zt4 s.heap a c).objs.size=s.heap.objs.size + 4:=by rw [Heap.size_push,z3]
  have p5:(zt5 s.heap a c).get? (zt4 s.heap a c).objs.size=some _:=Heap.get?_push_size _ rfl
  have p4:(zt5 s.heap a c).get? (zt3 s.heap a c).objs.size=some _:=Heap.get?_push_of_some _ (Heap.get?_push_size _ rfl)
  have p3:(zt5 s.heap a c).get? (zt2 s.heap a c).objs.size=some _:=Heap.get?_push_of_some _ (Heap.get?_push_of_some _ (Heap.get?_push_size _ rfl))
  have p2:(zt5 s.heap a c).get? (zt1 s.heap a).objs.size=some _:=Heap.get?_push_of_some _ (Heap.get?_push_of_some _ (Heap.get?_push_of_some _ (Heap.get?_push_size _ rfl)))
  have p1:(zt5 s.heap a c).get? s.heap.objs.size=some _:=Heap.get?_push_of_some _ (Heap.get?_push_of_some _ (Heap.get?_push_of_some _ (Heap.get?_push_of_some _ (Heap.get?_push_size _ rfl))))
  show _/\_
  rw [z2,z3,z4] at p5
  rw [z1,z2] at p3
  rw [z3] at p4
  rw [z1] at p2
  rw [z4]
  exact ⟨⟨_,p5,rfl⟩,q _ p5 p3 p4 ⟨_,p1,rfl,rfl⟩ ⟨_,p2,rfl,rfl⟩ fun d o e=>Heap.get?_push_of_some _ (Heap.get?_push_of_some _ (Heap.get?_push_of_some _ (Heap.get?_push_of_some _ (Heap.get?_push_of_some _ e))))⟩
end
def Izb (b:Bool) (K:PySem.W.Frag) (l1 l2:Addr):It:=
 ⟨fun i H=>∃ xs ys x y,SqB b K H l1 xs/\SqB b K H l2 ys/\xs[i]? = some x/\ys[i]? = some y,
  fun i H v H'=>∃ p x y,H p=none/\v=.ref p/\H' = upd H p (.tup [x,y])/\∀ xs ys,SqB b K H l1 xs->SqB b K H l2 ys->xs[i]? = some x/\ys[i]? = some y,
  fun i H=>∃ xs ys,SqB b K H l1 xs/\SqB b K H l2 ys/\(xs.length<=i\/ys.length<=i)⟩
theorem Zng {b:Bool} {P:Program} {w:World} {K:PySem.W.Frag} {es:List Expr} {kk:Nat} {tp:Pos} (l1 l2 z TI TO i1 i2:Addr) (D:ZipApart z TI TO i1 i2 l1 l2):Turn P w K (.Tuple es kk tp) (Izb b K l1 l2) [z,TI,TO,i1,i2] z
  (fun i h=>IsZip h z TI TO .none/\IsPair h TI (.ref i1) (.ref i2)/\(∃ a b,IsPair h TO a b)/\ItB b h i1 l1 i/\ItB b h i2 l2 i) where
 mem:=by simp
 obj:=fun i h st b2 hb=>by
  obtain ⟨hz,hTI,⟨a,b',hTO⟩,h1,h2⟩:=st
  obtain ⟨o1,e1,d1⟩:=h1.obj
  obtain ⟨o2,e2,d2⟩:=h2.obj
  simp only [List.mem_cons,List.not_mem_nil,or_false] at hb
  rcases hb with rfl | rfl | rfl | rfl | rfl
  ·exact ⟨_,hz,fun v q=>by cases q⟩
  ·exact ⟨_,hTI,fun v q=>by cases q⟩
  ·exact ⟨_,hTO,fun v q=>by cases q⟩
  ·exact ⟨o1,e1,fun v q=>by rw [d1] at q; cases q⟩
  ·exact ⟨o2,e2,fun v q=>by rw [d2] at q; cases q⟩
 keep:=fun i h h' st k=>by
  obtain ⟨hz,hTI,⟨a,b',hTO⟩,h1,h2⟩:=st
  exact ⟨k z (by simp) _ hz,k TI (by simp) _ hTI,⟨a,b',k TO (by simp) _ hTO⟩,h1.at fun o e=>k i1 (by simp) o e,h2.at fun o e=>k i2 (by simp) o e⟩
 item:=by
  intro X hP hw hK hc i pins s σ H E I hf st hg
  subst hP hw hK
  obtain ⟨hz,hTI,⟨a,b',hTO⟩,h1,h2⟩:=st
  obtain ⟨xs,ys,x,y,hq1,hq2,hx,hy⟩:=hg
  obtain ⟨its1,r1,p1⟩:=I.seqB hq1
  obtain ⟨its2,r2,p2⟩:=I.seqB hq2
  obtain ⟨u1,hu1,ru1⟩:=r1.get hx
  obtain ⟨u2,hu2,ru2⟩:=r2.get hy
  refine Zmw D hz hTI hTO h1 h2 p1 p2 (x:=u1) (y:=u2) (by simpa using hu1) (by simpa using hu2) fun h' b1 b2 b3 b4 b5 b6 hk=>?_
  refine ⟨_,rfl,wpAny_letOwnedTupleGo_zip (s:={ s with heap:=h' }) b1 fun h'' hz'' hs''=>?_⟩
  have lt:∀ {c o},s.heap.get? c=some o->c ≠ s.heap.objs.size:=fun e=>Nat.ne_of_lt (Heap.lt_size e)
  have hTz:s.heap.objs.size ≠ z:=Ne.symm (lt hz)
  have hTfree:H s.heap.objs.size=none:=I.hok.fresh (Nat.le_refl _)
  have kept:∀ c o,c ∉ [z,TI,TO,i1,i2]->s.heap.get? c=some o->h''.get? c=some o:=fun c o hc e=>by
   simp only [List.mem_cons,List.not_mem_nil,or_false,not_or] at hc
   exact hs''.extBut _ _ hc.1 (hk c o hc.1 hc.2.2.1 hc.2.2.2.1 hc.2.2.2.2 e)
  have hT:h''.get? s.heap.objs.size=some { cls:=.type "tuple",data:=.seq #[u1,u2] }:=hs''.extBut _ _ hTz b5
  have ntr:∀ c o,H c=some o->c ∉ [z,TI,TO,i1,i2]:=fun c o e hc=>by rw [(hf c hc).1] at e; cases e
  have hok:HOk X.prog X.w (upd H s.heap.objs.size (.tup [x,y])) h'':=fun c o e=>by
   by_cases hcT:c=s.heap.objs.size
   ·subst hcT
    rw [Zam] at e
    cases e
    exact ⟨by show 2<=sizeLine; decide,[u1,u2],.cons ru1 (.cons ru2 .nil),_,hT,⟨rfl,_,rfl⟩,rfl⟩
   ·rw [Zaj hcT] at e
    refine (I.hok c o e).stay (fun d v hd q=>kept d v ?_ q) (fun d q=>by rw [Zaj (Zak q hTfree)]; exact q) fun d zs q=>by rw [Zaj (Zak q hTfree)]; exact q
    rcases hd with hd | hd
    ·rw [hd]; exact ntr c o e
    ·exact ntr d _ hd
  have I2:Inv X pins σ (upd H s.heap.objs.size (.tup [x,y])) { s with heap:=h'' }:=by
   refine I.call (g':=s.gens) (t':=s.toks) (d':=s.drawn) (ch:=[z,TI,TO,i1,i2]) ⟨fun c o e n hc hx=>kept c o hx e,fun c o e n hc hx=>⟨o.slots,kept c o hx e⟩,fun c o e n hx=>by rw [Zaj (lt e)]; exact n,fun c o e hx=>⟨o,kept c o hx e⟩,
    fun c zs q=>by rw [Zaj (Zak q hTfree)]; exact q,fun c o zs q=>by rw [Zaj (Zak q hTfree)]; exact q,fun c zs q=>⟨#[],by rw [Zaj (Zak q hTfree),q]; simp⟩⟩ hok I.bare fun c hcc=>?_
   obtain ⟨f0,f1,f2,f3,f4,f5⟩:=hf c hcc
   exact ⟨f3,f1,f4,f5⟩
  refine ⟨.ref s.heap.objs.size,_,I2,rfl,⟨s.heap.objs.size,x,y,hTfree,rfl,rfl,fun xs' ys' q1 q2=>?_⟩,⟨hz'',hs''.extBut _ _ D.TIz (hk _ _ D.TIz D.TITO D.TIi1 D.TIi2 hTI),⟨_,_,hs''.extBut _ _ D.TOz b2⟩,b3.off hs''.extBut D.i1z,b4.off hs''.extBut D.i2z⟩,fun c hcc=>?_⟩
  ·rw [I.seqB_inj q1 hq1,I.seqB_inj q2 hq2]; exact ⟨hx,hy⟩
  ·have hcl:c ≠ s.heap.objs.size:=by
    simp only [List.mem_cons,List.not_mem_nil,or_false] at hcc
    obtain ⟨_,e1,_⟩:=h1.obj
    obtain ⟨_,e2,_⟩:=h2.obj
    rcases hcc with rfl | rfl | rfl | rfl | rfl
    ·exact lt hz
    ·exact lt hTI
    ·exact lt hTO
    ·exact lt e1
    ·exact lt e2
   rw [Zaj hcl]; exact (hf c hcc).1
 done:=by
  intro X hP hw hK hc i pins s σ H E I hf st hg
  subst hP hw hK
  obtain ⟨hz,hTI,⟨a,b',hTO⟩,h1,h2⟩:=st
  obtain ⟨xs,ys,hq1,hq2,hend⟩:=hg
  obtain ⟨its1,r1,p1⟩:=I.seqB hq1
  obtain ⟨its2,r2,p2⟩:=I.seqB hq2
  have l1':=r1.length
  have l2':=r2.length
  refine Zpo (I.ok.hd hc) D hz hTI hTO h1 h2 p1 p2 ?_ fun h' hk=>⟨rfl,?_⟩
  ·rcases hend with q | q
   ·left; simp; omega
   ·right; simp; omega
  ·have kept:∀ c o,c ∉ [z,TI,TO,i1,i2]->s.heap.get? c=some o->h'.get? c=some o:=fun c o hc e=>by
    simp only [List.mem_cons,List.not_mem_nil,or_false,not_or] at hc
    exact hk c o hc.1 hc.2.2.1 hc.2.2.2.1 hc.2.2.2.2 e
   have ntr:∀ c o,H c=some o->c ∉ [z,TI,TO,i1,i2]:=fun c o e hc=>by rw [(hf c hc).1] at e; cases e
   refine I.call (g':=s.gens) (t':=s.toks) (d':=s.drawn) (ch:=[z,TI,TO,i1,i2]) ⟨fun c o e n hc hx=>kept c o hx e,fun c o e n hc hx=>⟨o.slots,kept c o hx e⟩,fun c o e n hx=>n,fun c o e hx=>⟨o,kept c o hx e⟩,
    fun c zs q=>q,fun c o zs q=>q,fun c zs q=>⟨#[],by rw [q]; simp⟩⟩ (fun c o e=>?_) I.bare fun c hcc=>?_
   ·refine (I.hok c o e).stay (fun d v hd q=>kept d v ?_ q) (fun d q=>q) fun d zs q=>q
    rcases hd with hd | hd
    ·rw [hd]; exact ntr c o e
    ·exact ntr d _ hd
   ·obtain ⟨f0,f1,f2,f3,f4,f5⟩:=hf c hcc
    exact ⟨f3,f1,f4,f5⟩
 self:=fun _ _ _ _ _ st h=>wpAny_pyIter_zip st.1 h
section
variable {X:Cx}
def iZip (K:PySem.W.Frag) (ta:TA):TI:=fun σ H R=>ta σ H fun vs H1=>∃ b l1 l2,vs=[.ref l1,.ref l2]/\(∃ xs,SqB b K H1 l1 xs)/\(∃ ys,SqB b K H1 l2 ys)/\R (Izb b K l1 l2) H1
theorem Zn8 (K:PySem.W.Frag) {es:List Expr} {kk:Nat} {tp:Pos} {a b:Expr} {ta:TA} {p pos:Pos} (hg:Gl X "zip") (hm:X.mg "zip" = none) (ha:PA X [a,b] ta) (hs:starEach [a,b] X.env=[(false,eval a X.env),(false,eval b X.env)]:=by rfl) (hs2:starEach [b] X.env=[(false,eval b X.env)]:=by rfl) (hK:X.K=K:=by rfl) :
  PI X (.Tuple es kk tp) (.Call (.Name "zip" p) [a,b] [] pos) (iZip K ta):=by
 subst hK
 intro pins s σ H R I h
 refine Call_ (Zcy I hg hm (Zph) (PyProof.Rows.callWith_type1 (thn (ha pos pins s σ H _ I h) fun us s1 ⟨vs,H1,I1,r1,q1⟩=>?_) (by rw [hs,hs2]) (by rw [hs2]; rfl)))
 obtain ⟨b,l1,l2,e,⟨xs,hx⟩,⟨ys,hy⟩,q⟩:=q1
 subst e
 obtain ⟨u1,u2,rfl,q1,q2⟩:=r1.two
 cases (show u1=Value.ref l1 from q1)
 cases (show u2=Value.ref l2 from q2)
 obtain ⟨its1,w1,p1⟩:=I1.seqB hx
 obtain ⟨its2,w2,p2⟩:=I1.seqB hy
 have lt1:l1 < s1.heap.objs.size:=p1.lt
 have lt2:l2 < s1.heap.objs.size:=p2.lt
 refine Zm4 p1 p2 fun h' b1 b2 b3 b4 b5 hk=>?_
 refine wpAny_pyIter_zip b1 ?_
 have I2:Inv X pins σ H1 { s1 with heap:=h' }:=I1.kept (t':=s1.toks) hk
 refine ⟨s1.heap.objs.size + 4,[s1.heap.objs.size + 4,s1.heap.objs.size + 2,s1.heap.objs.size + 3,s1.heap.objs.size,s1.heap.objs.size + 1],_,_,H1,rfl,I2,Zng l1 l2 _ _ _ _ _ (zipApart_new lt1 lt2),⟨b1,b2,⟨_,_,b3⟩,b4,b5⟩,fun b hb=>?_,q⟩
 have hge:s1.heap.objs.size<=b:=by
  simp only [List.mem_cons,List.not_mem_nil,or_false] at hb
  rcases hb with rfl | rfl | rfl | rfl | rfl <;> omega
 exact I1.fpOk hge (I1.hok.fresh hge)
end
end L2
set_option Elab.async false
set_option linter.all false
set_option maxRecDepth 100000
namespace L2
open PySem PySem.Spec PyProof.Rows
section
variable {X:Cx}
def rAll (K:PySem.W.Frag):List V->Hp->VK->Prop:=fun xs H Q=>∃ (p:Addr) (bs:List Bool),xs=[.ref p]/\SqL K H p (bs.map V.bl)/\Q (.bl (bs.all id)) H
theorem allK (K:PySem.W.Frag) (hc:X.calm=true) (hK:X.K=K:=by rfl):CallR X (.builtin "all") (rAll K):=by
 subst hK
 intro pins s σ H xs us Q I r h
 obtain ⟨p,bs,rfl,hx,q⟩:=h
 obtain ⟨u,rfl,ru⟩:=vals1 r
 cases (show u=Value.ref p from ru)
 obtain ⟨its,w1,p1,_⟩:=I.list hx
 have hlt:p < s.heap.objs.size:=by obtain ⟨o,e,_⟩:=p1.isList; exact Heap.lt_size e
 have hval:∀ (bs:List Bool) (its:List Value),Vals (bs.map V.bl) its->its=bs.map Value.bool:=by
  intro bs
  induction bs with
  | nil=>intro its h; cases h; rfl
  | cons b r ih=>intro its h; cases h with | cons h1 h2=>cases (show _=Value.bool b from h1); rw [ih _ h2]; rfl
 have e:=hval bs its w1
 subst e
 refine call_all_walk (wpAny_pyIter_list p1.isList ?_)
 refine ⟨s.heap.objs.size,_,_,_,_,_,fun i=>bs.getD i false,rfl,Walks.list (prog:=X.prog) (w:=X.w) (A:=X.A.in1) (show X.A.in1.handled=none from I.ok.hd hc) s.heap.objs.size p (Nat.ne_of_lt hlt) (bs.map Value.bool).toArray,⟨⟨_,Heap.get?_push_size _ rfl,rfl,rfl⟩,p1.isList.push _⟩,?_,fun h' tk hk=>?_⟩
 ·intro i v s0 Q0 E0 hv hq
  have hv:(bs.map Value.bool).toArray[i]? = some v:=hv
  have hv:(bs.map Value.bool)[i]? = some v:=by simpa using hv
  rw [List.getElem?_map] at hv
  cases z:bs[i]? with
  | none=>rw [z] at hv; cases hv
  | some b=>
   rw [z] at hv
   have hv:Value.bool b=v:=by simpa using hv
   subst hv
   have e0:bs.getD i false=b:=by rw [List.getD_eq_getElem?_getD,z]; rfl
   have hq:Q0 (bs.getD i false) s0:=hq
   rw [e0] at hq
   exact wpAny_truthy_bool hq
 ·have e:(List.range (bs.map Value.bool).toArray.size).all (fun i=>bs.getD i false)=bs.all id:=by
   rw [List.size_toArray,List.length_map]
   rw [Bool.eq_iff_iff,List.all_eq_true,List.all_eq_true]
   constructor
   ·intro hh b hb
    obtain ⟨i,hi,rfl⟩:=List.mem_iff_getElem.mp hb
    have:=hh i (List.mem_range.mpr hi)
    rw [List.getD_eq_getElem?_getD,List.getElem?_eq_getElem hi] at this
    exact this
   ·intro hh i hi
    rw [List.mem_range] at hi
    rw [List.getD_eq_getElem?_getD,List.getElem?_eq_getElem hi]
    exact hh _ (List.getElem_mem hi)
  rw [e]
  have I0:Inv X pins σ H { s with heap:=s.heap.push { cls:=.type "list_iterator",data:=.fields #[.ref p,.int 0 0] },toks:=s.toks }:=I.kept fun b o e=>Heap.get?_push_of_some _ e
  refine ⟨.bl (bs.all id),H,I0.turned (it:=s.heap.objs.size) (fun b o hb e=>hk b o (by simpa using hb) e) (I.hok.fresh (Nat.le_refl _)) (Nat.ne_of_gt I.lt) (.inr I.sz) ?_ ?_,rfl,q⟩
  ·have:=I.fpOk (b:=s.heap.objs.size) (H':=H) (Nat.le_refl _) (I.hok.fresh (Nat.le_refl _))
   exact this.2.2.2.2.1
  ·have:=I.fpOk (b:=s.heap.objs.size) (H':=H) (Nat.le_refl _) (I.hok.fresh (Nat.le_refl _))
   exact this.2.2.2.2.2
def rIsiU (K:PySem.W.Frag):List V->Hp->VK->Prop:=fun xs H Q=>rIsi K xs H Q\/∃ (x:V) (p:Addr) (ns:List String) (T:String) (b:Bool),xs=[x,.ref p]/\H p=some (.tup (ns.map V.ty))/\TyOf K H x (.type T)/\PySem.W.kitAny K (.type T) (ns.map Value.type)=some b/\Q (.bl b) H
theorem Zil {pins:List (Addr × Obj)} {σ:St} {H:Hp} {s:Shared} {x:V} {u t:Value} (I:Inv X pins σ H s) (rx:RelV x u) (ty:TyOf X.K H x t) (nt:∃ T,t=.type T):∃ Hh:Heap->Prop,PySem.W.KitX X.K u t Hh/\Hh s.heap/\u ≠ .builtin "__main__.__loader__#opaque":=by
 cases ty with
 | non=>cases (show u=Value.none from rx); exact ⟨_,PySem.W.kitx_none,True.intro,fun z=>nomatch z⟩
 | bl y=>cases (show u=Value.bool y from rx); exact ⟨_,PySem.W.kitx_bool,True.intro,fun z=>nomatch z⟩
 | int i=>obtain ⟨t,q⟩:=(show ∃ t,u=Value.int i t from rx); cases q; exact ⟨_,PySem.W.kitx_int,True.intro,fun z=>nomatch z⟩
 | str y=>obtain ⟨t,q⟩:=(show ∃ t,u=Value.str y t from rx); cases q; exact ⟨_,PySem.W.kitx_str,True.intro,fun z=>nomatch z⟩
 | flt y=>obtain ⟨t,q⟩:=(show ∃ t,u=Value.float y t from rx); cases q; exact ⟨_,PySem.W.kitx_float,True.intro,fun z=>nomatch z⟩
 | @lst a xs ea=>
  cases (show u=Value.ref a from rx)
  obtain ⟨_,_,n,_,h1⟩:=(show ObjOk X.prog X.w H s.heap a (.lst xs) from I.hok a _ ea)
  exact ⟨_,PySem.W.kitx_list,⟨_,h1,rfl⟩,fun z=>nomatch z⟩
 | @frz a ob xs ea=>
  cases (show u=Value.ref a from rx)
  obtain ⟨_,_,_,n,_,h1⟩:=(show ObjOk X.prog X.w H s.heap a (.frz ob (.lst xs)) from I.hok a _ ea)
  exact ⟨_,PySem.W.kitx_list,⟨_,h1,rfl⟩,fun z=>nomatch z⟩
 | @tup a xs ea=>
  cases (show u=Value.ref a from rx)
  obtain ⟨_,_,_,p⟩:=(show ObjOk X.prog X.w H s.heap a (.tup xs) from I.hok a _ ea)
  obtain ⟨o,h1,⟨h2,_⟩,_⟩:=p
  exact ⟨_,PySem.W.kitx_tuple,⟨o,h1,h2⟩,fun z=>nomatch z⟩
 | @dK a kvs ea=>
  cases (show u=Value.ref a from rx)
  obtain ⟨_,_,vs,_,p⟩:=(show ObjOk X.prog X.w H s.heap a (.dK kvs) from I.hok a _ ea)
  obtain ⟨o,es,ep,h1,h2,_⟩:=p
  exact ⟨_,PySem.W.kitx_dict,⟨o,h1,h2.1⟩,fun z=>nomatch z⟩
 | @dT a kvs ea=>
  cases (show u=Value.ref a from rx)
  obtain ⟨_,_,xs,_,o,es,ep,h1,h2,_⟩:=(show ObjOk X.prog X.w H s.heap a (.dT kvs) from I.hok a _ ea)
  exact ⟨_,PySem.W.kitx_dict,⟨o,h1,h2.1⟩,fun z=>nomatch z⟩
 | @ins a C dx fs ea cl ha hn htk hm=>obtain ⟨T,e⟩:=nt; cases e
theorem isiUK (K:PySem.W.Frag) (hK:X.K=K:=by rfl):CallR X (.builtin "isinstance") (rIsiU K):=by
 subst hK
 refine CallR.or Zgz ?_
 intro pins s σ H xs us Q I r h
 obtain ⟨x,p,ns,T,b,rfl,hp,ty,e,q⟩:=h
 obtain ⟨u,u',rfl,rx,rn⟩:=vals2 r
 cases (show u' = Value.ref p from rn)
 obtain ⟨Hh,Z,hz,hne⟩:=Zil I rx ty ⟨T,rfl⟩
 obtain ⟨_,its,rv,o,ho,⟨hc,n,hd⟩,hdd⟩:=I.hok p _ hp
 have hv:∀ (ns:List String) (its:List Value),Vals (ns.map V.ty) its->its=ns.map Value.type:=by
  intro ns
  induction ns with
  | nil=>intro its h; cases h; rfl
  | cons b r ih=>intro its h; cases h with | cons h1 h2=>cases (show _=Value.type b from h1); rw [ih _ h2]; rfl
 have e2:=hv ns its rv
 subst e2
 obtain ⟨cls,dd,data,sl⟩:=o
 simp only at hc hd hdd
 subst hc hd hdd
 exact PySem.W.kia_tup Z I.kIn hz ho e hne fun tk=>⟨.bl b,H,I.tok _,rfl,q⟩
end
section
variable {K:PySem.W.Frag} {Δ:Evt}
theorem Zhv {b:Bool} {G:Hp} {l1 l2:Addr} {xs ys:List V} {ds es:List D} (h1:∀ G1 H1,Same G G1->Same G1 H1->SqB b K H1 l1 xs) (h2:∀ G1 H1,Same G G1->Same G1 H1->SqB b K H1 l2 ys) (r1:Reps K G xs ds) (r2:Reps K G ys es) (hl:ds.length=es.length) :
  ItOk K G (Izb b K l1 l2) ((ds.zip es).map fun p=>D.tup [p.1,p.2]):=fun G1 H1 sg sh=>by
 have hl1:=r1.length
 have hl2:=r2.length
 have e1:=h1 G1 H1 sg sh
 have e2:=h2 G1 H1 sg sh
 refine ⟨⟨xs,ys,e1,e2,.inl (by rw [List.length_map,List.length_zip]; omega)⟩,fun i d hd=>?_⟩
 rw [List.getElem?_map] at hd
 cases q:(ds.zip es)[i]? with
 | none=>rw [q] at hd; cases hd
 | some pr=>
  rw [q] at hd
  have hd:D.tup [pr.1,pr.2]=d:=by simpa using hd
  subst hd
  rw [List.getElem?_zip_eq_some] at q
  obtain ⟨u,hu,ru⟩:=r1.get q.1
  obtain ⟨v,hv,rv⟩:=r2.get q.2
  refine ⟨⟨xs,ys,u,v,e1,e2,hu,hv⟩,fun x H2 ⟨p,a,b',hp,ex,eH,hab⟩=>?_⟩
  obtain ⟨ha,hb⟩:=hab xs ys e1 e2
  rw [hu] at ha; rw [hv] at hb
  cases ha; cases hb
  subst ex; subst eH
  have hG:G1 p=none:=by
   cases z:G1 p with
   | none=>rfl
   | some o=>rw [sh _ _ z] at hp; cases hp
  refine ⟨upd G1 p (.tup [u,v]),fun c o e=>by rw [Zaj (Zak e hG)]; exact e,fun c o e=>by rw [Zaj (Zak e hp)]; exact e,fun c o e=>?_,?_⟩
  ·by_cases hc:c=p
   ·subst hc; rw [Zam] at e ⊢; exact ⟨e,.inr hp⟩
   ·rw [Zaj hc] at e ⊢; exact ⟨sh c o e,.inl e⟩
  ·have sg2:Same G1 (upd G1 p (.tup [u,v])):=fun c o e=>by rw [Zaj (Zak e hG)]; exact e
   exact .tup Zam (.cons ((ru.mono sg).mono sg2) (.cons ((rv.mono sg).mono sg2) .nil))
theorem Zo9 {ta:TA} {P:List D->Evt->Prop} (h:JA K ta Δ fun ds Δ1=>∃ as bs,ds=[.lst as,.lst bs]/\as.length=bs.length/\P ((as.zip bs).map fun p=>D.tup [p.1,p.2]) Δ1):JI K (iZip K ta) Δ P:=fun g G H σ R k c=>
 h g G H σ _ k fun vs ds G1 H1 Δ1 k1 s1 r1 hq_=>by
  obtain ⟨as,bs,e,hl,p1⟩:=hq_
  subst e
  obtain ⟨_,_,rfl,ra,rr⟩:=r1.inv
  next=>
   obtain ⟨_,_,rfl,rb,rr⟩:=rr.inv
   next=>
    cases rr.inv
    obtain ⟨_,_,rfl,ha,rsa⟩:=ra.inv
    next=>
     obtain ⟨_,_,rfl,hb,rsb⟩:=rb.inv
     next=>
      exact ⟨false,_,_,rfl,⟨_,SqL.of (k1.live _ _ ha)⟩,⟨_,SqL.of (k1.live _ _ hb)⟩,c _ _ G1 H1 Δ1 k1 s1 (Zhv (fun _ _ sg sh=>SqL.of (sh _ _ (sg _ _ ha))) (fun _ _ sg sh=>SqL.of (sh _ _ (sg _ _ hb))) rsa rsb hl) p1⟩
theorem Zna {ta:TA} {P:List D->Evt->Prop} (h:JA K ta Δ fun ds Δ1=>∃ as bs,ds=[.tup as,.tup bs]/\as.length=bs.length/\P ((as.zip bs).map fun p=>D.tup [p.1,p.2]) Δ1):JI K (iZip K ta) Δ P:=fun g G H σ R k c=>
 h g G H σ _ k fun vs ds G1 H1 Δ1 k1 s1 r1 hq_=>by
  obtain ⟨as,bs,e,hl,p1⟩:=hq_
  subst e
  obtain ⟨_,_,rfl,ra,rr⟩:=r1.inv
  next=>
   obtain ⟨_,_,rfl,rb,rr⟩:=rr.inv
   next=>
    cases rr.inv
    obtain ⟨_,_,rfl,ha,rsa⟩:=ra.inv
    next=>
     obtain ⟨_,_,rfl,hb,rsb⟩:=rb.inv
     next=>
      exact ⟨true,_,_,rfl,⟨_,SqT.of (k1.live _ _ ha)⟩,⟨_,SqT.of (k1.live _ _ hb)⟩,c _ _ G1 H1 Δ1 k1 s1 (Zhv (fun _ _ sg sh=>SqT.of (sh _ _ (sg _ _ ha))) (fun _ _ sg sh=>SqT.of (sh _ _ (sg _ _ hb))) rsa rsb hl) p1⟩
theorem Zjl {bs:List Bool} {P:D->Evt->Prop} (p:P (.bl (bs.all id)) Δ):JC K (rAll K) [.lst (bs.map D.bl)] Δ P:=fun g G H σ Q vs k rs c=>by
 obtain ⟨_,_,rfl,r,t⟩:=rs.inv
 next=>
  cases t.inv
  obtain ⟨a,ws,rfl,ha,rs⟩:=r.inv
  next=>
   have e:∀ (bs:List Bool) (ws:List V),Reps K G ws (bs.map D.bl)->ws=bs.map V.bl:=by
    intro bs
    induction bs with
    | nil=>intro ws h; cases h; rfl
    | cons b r ih=>intro ws h; cases h with | cons h1 h2=>cases h1; rw [ih _ h2]; rfl
   have:=e bs ws rs
   subst this
   exact ⟨_,bs,rfl,SqL.of (k.live _ _ ha),c _ _ G H Δ k (Same.refl _) (.bl _) p⟩
theorem Zba {d:D} {n T:String} {b:Bool} {P:D->Evt->Prop} (ht:tyD d=some T) (e:∀ K,PySem.W.kitOne K (.type T) (.type n)=some b) (p:P (.bl b) Δ):JC K (rIsiU K) [d,.ty n] Δ P:=fun g G H σ Q vs k rs c=>.inl (Zpj ht e p g G H σ Q vs k rs c)
theorem Zd4 {d:D} {ns:List String} {T:String} {b:Bool} {P:D->Evt->Prop} (ht:tyD d=some T) (e:∀ K,PySem.W.kitAny K (.type T) (ns.map Value.type)=some b) (p:P (.bl b) Δ):JC K (rIsiU K) [d,.tup (ns.map D.ty)] Δ P:=fun g G H σ Q vs k rs c=>by
 obtain ⟨_,_,rfl,r,t⟩:=rs.inv
 next=>
  obtain ⟨_,_,rfl,r',t⟩:=t.inv
  next=>
   cases t.inv
   obtain ⟨a,ws,rfl,ha,rs⟩:=r'.inv
   next=>
    have e1:∀ (ns:List String) (ws:List V),Reps K G ws (ns.map D.ty)->ws=ns.map V.ty:=by
     intro ns
     induction ns with
     | nil=>intro ws h; cases h; rfl
     | cons b r ih=>intro ws h; cases h with | cons h1 h2=>cases h1; rw [ih _ h2]; rfl
    have:=e1 ns ws rs
    subst this
    refine .inr ⟨_,a,ns,T,b,rfl,k.live _ _ ha,?_,e K,c _ _ G H Δ k (Same.refl _) (.bl b) p⟩
    cases r with
    | non=>cases ht; exact .non
    | bl b=>cases ht; exact .bl b
    | int i=>cases ht; exact .int i
    | str x=>cases ht; exact .str x
    | ty n=>cases ht
    | scr ha rs=>cases ht
    | adr a=>cases ht
    | dct ha hl rs=>cases ht; exact .dK (k.live _ _ ha)
    | exc ha=>cases ht
    | lst ha rs=>cases ht; exact .lst (k.live _ _ ha)
    | tup ha rs=>cases ht; exact .tup (k.live _ _ ha)
end
end L2
set_option Elab.async false
set_option linter.all false
set_option maxRecDepth 100000
namespace L2
open PySem PySem.Spec PyProof.Rows
section
variable {prog:Program} {w:World} {A:Around} {E:Value->Shared->Prop} {s:Shared}
theorem Zmr {b:Bool} {e j a:Addr} {i:Nat} {ws:Array Value} {x old:Value} {Q:Option Value->Shared->Prop} (ge:IsEnum s.heap e j i old) (g:ItB b s.heap j a i) (l:HsB b s.heap a ws) (ex:ws[i]? = some x) (ne:e ≠ j)
  (q:∀ h',IsEnumOut h' e j ((i:Int) + 1) x s.heap.objs.size->ItB b h' j a (i + 1)->h'.get? s.heap.objs.size=some { cls:=.type "tuple",data:=.seq #[.int i s.toks,x] } →
   (∀ c o,c ≠ e->c ≠ j->s.heap.get? c=some o->h'.get? c=some o)->Q (some (.ref s.heap.objs.size)) { s with heap:=h',toks:=s.toks + 1 }):wpAny (model prog w) A (pyNext (.ref e)) Q E s:=by
 cases b
 ·exact wpAny_pyNext_enum_item ge g l ex ne fun h' b1 b2 b3 _ b4=>q h' b1 b2 b3 b4
 obtain ⟨hp,g0,d,tk,os⟩:=s
 have ty:Shared.TypeIs ⟨hp,g0,d,tk,os⟩ (.ref e) "enumerate":=⟨_,ge,rfl⟩
 unfold pyNext
 refine wpAny_bind (wpAny_attempt (wpAny_callSpecial?_slot (name:=Str.ofString "__next__") ty F.slot_enumerate_next (wpAny_call_entry F.slot_enumerate_next ty F.entry_enumerate_next ?_ (F.args_enumerate_next_1 _))))
 refine (show wpAny _ _ (field (.ref e) 2 >>= _) _ _ _ from wpAny_bind (wpAny_field ge rfl (x:=.ref j) rfl (wpAny_bind (Zfg (b:=true) g l ex fun h₁ g₁ s₁=>?_))))
 replace s₁:Heap.SameBut j hp h₁:=s₁
 have e₁:IsEnum h₁ e j i old:=(s₁.2 e ne).trans ge
 refine (show wpAny _ _ (field (.ref e) 3 >>= _) _ _ ⟨h₁,g0,d,tk,os⟩ from wpAny_bind (wpAny_field e₁ rfl (x:=rawInt i) rfl ?_))
 refine (show wpAny _ _ (field (.ref e) 4 >>= _) _ _ ⟨h₁,g0,d,tk,os⟩ from wpAny_bind (wpAny_field e₁ rfl (x:=.none) rfl ?_))
 refine (show wpAny _ _ (mkInt i >>= _) _ _ ⟨h₁,g0,d,tk,os⟩ from wpAny_bind (wpAny_mkInt ?_))
 refine (show wpAny _ _ (setField (.ref e) 3 (rawInt ((i:Int) + 1)) >>= _) _ _ ⟨h₁,g0,d,tk + 1,os⟩ from wpAny_bind (wpAny_setField_rec e₁ (by simp) fun h₂ e₂ s₂=>?_))
 replace s₂:Heap.SameBut e h₁ h₂:=s₂
 replace e₂:IsEnum h₂ e j ((i:Int) + 1) old:=e₂
 refine (show wpAny _ _ (setField (.ref e) 4 .none >>= _) _ _ ⟨h₂,g0,d,tk + 1,os⟩ from wpAny_bind (wpAny_setField_rec e₂ (by simp) fun h₃ e₃ s₃=>?_))
 replace s₃:Heap.SameBut e h₂ h₃:=s₃
 replace e₃:IsEnum h₃ e j ((i:Int) + 1) old:=e₃
 refine (show wpAny _ _ (newTuple [.int i tk,x] >>= _) _ _ ⟨h₃,g0,d,tk + 1,os⟩ from wpAny_bind (wpAny_newTuple ?_))
 have e₄:IsEnum (h₃.push { cls:=.type "tuple",data:=.seq #[.int i tk,x] }) e j ((i:Int) + 1) old:=Heap.get?_push_of_some _ e₃
 generalize eh₄:h₃.push { cls:=.type "tuple",data:=.seq #[.int i tk,x] } = h₄ at e₄
 have n3:h₃.objs.size=hp.objs.size:=by rw [s₃.1,s₂.1,s₁.1]
 have el:e < hp.objs.size:=Heap.lt_size ge
 have t₄:h₄.get? hp.objs.size=some { cls:=.type "tuple",data:=.seq #[.int i tk,x] }:=by rw [<- eh₄,<- n3]; exact Heap.get?_push_size _ rfl
 have k₄:∀ c o,c ≠ e->c ≠ j->hp.get? c=some o->h₄.get? c=some o:=fun c o c1 c2 z=>by rw [<- eh₄]; exact Heap.get?_push_of_some _ (s₃.extBut c o c1 (s₂.extBut c o c1 (s₁.extBut c o c2 z)))
 have g₄:ItB true h₄ j a (i + 1):=by rw [<- eh₄]; exact ((g₁.off s₂.extBut (Ne.symm ne)).off s₃.extBut (Ne.symm ne)).at fun o z=>Heap.get?_push_of_some _ z
 refine (show wpAny _ _ (Builtin.SmallTypes.ownedTupleIsFree (.ref e) >>= _) _ _ ⟨h₄,g0,d,tk + 1,os⟩ from ?_)
 rw [n3]
 clear eh₄ e₃ s₃ e₂ s₂ e₁ s₁ g₁ n3 h₃ h₂ h₁
 refine wpAny_bind ?_
 unfold Builtin.SmallTypes.ownedTupleIsFree
 refine wpAny_bind (wpAny_field e₄ rfl (x:=.none) rfl (wpAny_pure ?_))
 simp only [if_true]
 refine wpAny_bind (wpAny_rule (wpAny_bind (wpAny_field e₄ rfl (x:=old) rfl (wpAny_bind (wpAny_setField_rec e₄ (by simp) fun h₅ e₅ s₅=>?_)))))
 replace s₅:Heap.SameBut e h₄ h₅:=s₅
 replace e₅:IsEnum h₅ e j ((i:Int) + 1) x:=e₅
 refine (show wpAny _ _ (Builtin.SmallTypes.ownedTupleHandOut (.ref e) (.ref hp.objs.size) >>= _) _ _ ⟨h₅,g0,d,tk + 1,os⟩ from wpAny_bind ?_)
 unfold Builtin.SmallTypes.ownedTupleHandOut
 refine wpAny_bind (wpAny_setField_rec e₅ (by simp) fun h₆ e₆ s₆=>?_)
 replace s₆:Heap.SameBut e h₅ h₆:=s₆
 replace e₆:IsEnumOut h₆ e j ((i:Int) + 1) x hp.objs.size:=e₆
 refine wpAny_setField_rec e₆ (by simp) fun h₇ e₇ s₇=>?_
 replace s₇:Heap.SameBut e h₆ h₇:=s₇
 replace e₇:IsEnumOut h₇ e j ((i:Int) + 1) x hp.objs.size:=e₇
 have up:∀ c o,c ≠ e->h₄.get? c=some o->h₇.get? c=some o:=fun c o c1 z=>s₇.extBut c o c1 (s₆.extBut c o c1 (s₅.extBut c o c1 z))
 exact wpAny_bind (wpAny_letGo (wpAny_pure ⟨_,rfl,wpAny_pure (q h₇ e₇ (g₄.at fun o z=>up j o (Ne.symm ne) z) (up _ _ (Nat.ne_of_gt el) t₄) fun c o c1 c2 z=>up c o c1 (k₄ c o c1 c2 z))⟩))
theorem Zpq {b:Bool} {e j a:Addr} {i:Nat} {ws:Array Value} {old:Value} {Q:Option Value->Shared->Prop} (hh:A.handled=none) (ge:IsEnum s.heap e j i old) (g:ItB b s.heap j a i) (l:HsB b s.heap a ws) (ex:ws[i]? = none)
  (q:∀ h',Heap.ExtBut j s.heap h' -> Q none { s with heap:=h' }):wpAny (model prog w) A (pyNext (.ref e)) Q E s:=by
 have ty:s.TypeIs (.ref e) "enumerate":=⟨_,ge,rfl⟩
 unfold pyNext
 refine wpAny_bind (wpAny_attempt (wpAny_callSpecial?_slot (name:=Str.ofString "__next__") ty F.slot_enumerate_next (wpAny_call_entry F.slot_enumerate_next ty F.entry_enumerate_next ?_ (F.args_enumerate_next_1 _))))
 refine (show wpAny _ _ (field (.ref e) 2 >>= _) _ _ _ from wpAny_bind (wpAny_field ge rfl (x:=.ref j) rfl (wpAny_bind (Zi8 hh g l ex fun h' x e' ⟨o,ho,hc⟩=>?_))))
 exact wpAny_bind (wpAny_isInstance (T:="StopIteration") (b:=true) ⟨o,ho,hc⟩ isSubtype_stop (wpAny_pure (q _ e')))
theorem Zku (a:Addr) (ws:Array Value) (n:Nat) (dct:Option Addr) (sl:Array (Option Value)) :
  Meets (Builtin.«enumerate.__new__» ⟨[.type "enumerate",.ref a],[]⟩) (fun _ R s=>s.heap.get? a=some ⟨.type "tuple",dct,.seq ws n,sl⟩ ∧
   R (.ok (.ret (.ref (zt1 s.heap a).objs.size))) { s with heap:=(zt1 s.heap a).push ⟨.type "enumerate",none,.fields #[.none,.bool false,.ref s.heap.objs.size,rawInt 0,.none,.none],#[]⟩ }):=.of_wp fun prog w A R s h=>by
 obtain ⟨hp,g,d,tk,os⟩:=s; obtain ⟨l,h⟩:=h
 have sub0:=sub_enumerate
 have t0:Heap.IsTuple (Shared.heap ⟨hp,g,d,tk,os⟩) a ws:=⟨_,l,rfl,n,rfl⟩
 wp_walk using AutoSeq1.wpAny_loadPart' l
 refine wpAny_stack_any fun st=>wpAny_pure ?_
 split
 ·rename_i c _ _ _ _ _
  cases (c == Value.type "enumerate") <;> (wp_walk using AutoSeq1.wpAny_loadPart' l,wpAny_pyIter_tuple t0; exact ⟨_,rfl,h⟩)
 ·wp_walk using AutoSeq1.wpAny_loadPart' l,wpAny_pyIter_tuple t0
  exact ⟨_,rfl,h⟩
theorem Zmc {b:Bool} {a:Addr} {ws:Array Value} {Q:Value->Shared->Prop} (l:HsB b s.heap a ws)
  (q:∀ h',IsEnum h' (s.heap.objs.size + 1) s.heap.objs.size 0 .none->ItB b h' s.heap.objs.size a 0->(∀ c o,s.heap.get? c=some o->h'.get? c=some o)->Q (.ref (s.heap.objs.size + 1)) { s with heap:=h' }):wpAny (model prog w) A (call (.type "enumerate") [.ref a]) Q E s:=by
 cases b
 ·exact call_enumerate_list l fun h' b1 b2 _ b3=>q h' b1 b2 b3
 ·obtain ⟨⟨oc,od,oda,os⟩,l1,hc,n,hd⟩:=l
  dsimp only at hc hd
  subst hc hd
  refine callType_new F.called_enumerate (by decide) (F.typeCall_enumerate_1 _) (F.newCall_enumerate_1 _) (fun obj=>F.args_object_init_2 obj _) F.entry_enumerate_new (Zku a ws n od os) ⟨l1,?_⟩
  have z1:(zt1 s.heap a).objs.size=s.heap.objs.size + 1:=Heap.size_push ..
  show _/\_
  rw [z1]
  have he:IsEnum ((zt1 s.heap a).push ⟨.type "enumerate",none,.fields #[.none,.bool false,.ref s.heap.objs.size,rawInt 0,.none,.none],#[]⟩) (s.heap.objs.size + 1) s.heap.objs.size 0 .none:=by
   rw [<- z1]; exact Heap.get?_push_size _ rfl
  exact ⟨⟨_,he,rfl⟩,q _ he ⟨_,Heap.get?_push_of_some _ (Heap.get?_push_size _ rfl),rfl,rfl⟩ fun c o z=>Heap.get?_push_of_some _ (Heap.get?_push_of_some _ z)⟩
end
def Ieb (b:Bool) (K:PySem.W.Frag) (l:Addr):It:=
 ⟨fun i H=>∃ xs x,SqB b K H l xs/\xs[i]? = some x,
  fun i H v H'=>∃ p x,H p=none/\v=.ref p/\H' = upd H p (.tup [.int (i:Int),x])/\∀ xs,SqB b K H l xs->xs[i]? = some x,
  fun i H=>∃ xs,SqB b K H l xs/\xs.length<=i⟩
theorem Zm6 {b:Bool} {P:Program} {w:World} {K:PySem.W.Frag} {es:List Expr} {kk:Nat} {tp:Pos} (l z j:Addr) (D:z ≠ j):Turn P w K (.Tuple es kk tp) (Ieb b K l) [z,j] z
  (fun i h=>(∃ old,IsEnum h z j i old)/\ItB b h j l i) where
 mem:=by simp
 obj:=fun i h st b2 hb=>by
  obtain ⟨⟨old,hz⟩,h1⟩:=st
  obtain ⟨o1,e1,d1⟩:=h1.obj
  simp only [List.mem_cons,List.not_mem_nil,or_false] at hb
  rcases hb with rfl | rfl
  ·exact ⟨_,hz,fun v q=>by cases q⟩
  ·exact ⟨o1,e1,fun v q=>by rw [d1] at q; cases q⟩
 keep:=fun i h h' st k=>by
  obtain ⟨⟨old,hz⟩,h1⟩:=st
  exact ⟨⟨old,k z (by simp) _ hz⟩,h1.at fun o e=>k j (by simp) o e⟩
 item:=by
  intro X hP hw hK hc i pins s σ H E I hf st hg
  subst hP hw hK
  obtain ⟨⟨old,hz⟩,h1⟩:=st
  obtain ⟨xs,x,hq1,hx⟩:=hg
  obtain ⟨its1,r1,p1⟩:=I.seqB hq1
  obtain ⟨u1,hu1,ru1⟩:=r1.get hx
  refine Zmr hz h1 p1 (x:=u1) (by simpa using hu1) D fun h' b1 b2 b3 hk=>?_
  refine ⟨_,rfl,wpAny_letOwnedTupleGo_enum (s:={ s with heap:=h',toks:=s.toks + 1 }) b1 fun h'' hz'' hs''=>?_⟩
  have lt:∀ {c o},s.heap.get? c=some o->c ≠ s.heap.objs.size:=fun e=>Nat.ne_of_lt (Heap.lt_size e)
  have hTz:s.heap.objs.size ≠ z:=Ne.symm (lt hz)
  have hTfree:H s.heap.objs.size=none:=I.hok.fresh (Nat.le_refl _)
  have kept:∀ c o,c ∉ [z,j]->s.heap.get? c=some o->h''.get? c=some o:=fun c o hc e=>by
   simp only [List.mem_cons,List.not_mem_nil,or_false,not_or] at hc
   exact hs''.extBut _ _ hc.1 (hk c o hc.1 hc.2 e)
  have hT:h''.get? s.heap.objs.size=some { cls:=.type "tuple",data:=.seq #[.int i s.toks,u1] }:=hs''.extBut _ _ hTz b3
  have ntr:∀ c o,H c=some o->c ∉ [z,j]:=fun c o e hc=>by rw [(hf c hc).1] at e; cases e
  have hok:HOk X.prog X.w (upd H s.heap.objs.size (.tup [.int (i:Int),x])) h'':=fun c o e=>by
   by_cases hcT:c=s.heap.objs.size
   ·subst hcT
    rw [Zam] at e
    cases e
    exact ⟨by show 2<=sizeLine; decide,[.int i s.toks,u1],.cons ⟨_,rfl⟩ (.cons ru1 .nil),_,hT,⟨rfl,_,rfl⟩,rfl⟩
   ·rw [Zaj hcT] at e
    refine (I.hok c o e).stay (fun d v hd q=>kept d v ?_ q) (fun d q=>by rw [Zaj (Zak q hTfree)]; exact q) fun d zs q=>by rw [Zaj (Zak q hTfree)]; exact q
    rcases hd with hd | hd
    ·rw [hd]; exact ntr c o e
    ·exact ntr d _ hd
  have I2:Inv X pins σ (upd H s.heap.objs.size (.tup [.int (i:Int),x])) { s with heap:=h'',toks:=s.toks + 1 }:=by
   refine I.call (g':=s.gens) (t':=s.toks + 1) (d':=s.drawn) (ch:=[z,j]) ⟨fun c o e n hc hx=>kept c o hx e,fun c o e n hc hx=>⟨o.slots,kept c o hx e⟩,fun c o e n hx=>by rw [Zaj (lt e)]; exact n,fun c o e hx=>⟨o,kept c o hx e⟩,
    fun c zs q=>by rw [Zaj (Zak q hTfree)]; exact q,fun c o zs q=>by rw [Zaj (Zak q hTfree)]; exact q,fun c zs q=>⟨#[],by rw [Zaj (Zak q hTfree),q]; simp⟩⟩ hok I.bare fun c hcc=>?_
   obtain ⟨f0,f1,f2,f3,f4,f5⟩:=hf c hcc
   exact ⟨f3,f1,f4,f5⟩
  refine ⟨.ref s.heap.objs.size,_,I2,rfl,⟨s.heap.objs.size,x,hTfree,rfl,rfl,fun xs' q1=>?_⟩,⟨⟨_,by have:=hz''; push_cast at this ⊢; exact this⟩,b2.off hs''.extBut (Ne.symm D)⟩,fun c hcc=>?_⟩
  ·rw [I.seqB_inj q1 hq1]; exact hx
  ·have hcl:c ≠ s.heap.objs.size:=by
    simp only [List.mem_cons,List.not_mem_nil,or_false] at hcc
    obtain ⟨_,e1,_⟩:=h1.obj
    rcases hcc with rfl | rfl
    ·exact lt hz
    ·exact lt e1
   rw [Zaj hcl]; exact (hf c hcc).1
 done:=by
  intro X hP hw hK hc i pins s σ H E I hf st hg
  subst hP hw hK
  obtain ⟨⟨old,hz⟩,h1⟩:=st
  obtain ⟨xs,hq1,hend⟩:=hg
  obtain ⟨its1,r1,p1⟩:=I.seqB hq1
  have l1':=r1.length
  refine Zpq (I.ok.hd hc) hz h1 p1 (by simp; omega) fun h' hk=>⟨rfl,?_⟩
  have kept:∀ c o,c ∉ [z,j]->s.heap.get? c=some o->h'.get? c=some o:=fun c o hc e=>by
   simp only [List.mem_cons,List.not_mem_nil,or_false,not_or] at hc
   exact hk c o hc.2 e
  have ntr:∀ c o,H c=some o->c ∉ [z,j]:=fun c o e hc=>by rw [(hf c hc).1] at e; cases e
  refine I.call (g':=s.gens) (t':=s.toks) (d':=s.drawn) (ch:=[z,j]) ⟨fun c o e n hc hx=>kept c o hx e,fun c o e n hc hx=>⟨o.slots,kept c o hx e⟩,fun c o e n hx=>n,fun c o e hx=>⟨o,kept c o hx e⟩,
   fun c zs q=>q,fun c o zs q=>q,fun c zs q=>⟨#[],by rw [q]; simp⟩⟩ (fun c o e=>?_) I.bare fun c hcc=>?_
  ·refine (I.hok c o e).stay (fun d v hd q=>kept d v ?_ q) (fun d q=>q) fun d zs q=>q
   rcases hd with hd | hd
   ·rw [hd]; exact ntr c o e
   ·exact ntr d _ hd
  ·obtain ⟨f0,f1,f2,f3,f4,f5⟩:=hf c hcc
   exact ⟨f3,f1,f4,f5⟩
 self:=fun _ _ _ _ _ st h=>by
  obtain ⟨⟨old,hz⟩,_⟩:=st
  exact wpAny_pyIter_enum hz h
theorem Zf2:bootBuiltins "enumerate" = some (.type "enumerate"):=by kernel_rfl
section
variable {X:Cx}
def iEnum (K:PySem.W.Frag) (ta:TA):TI:=fun σ H R=>ta σ H fun vs H1=>∃ b l,vs=[.ref l]/\(∃ xs,SqB b K H1 l xs)/\R (Ieb b K l) H1
theorem Zdr (K:PySem.W.Frag) {es:List Expr} {kk:Nat} {tp:Pos} {a:Expr} {ta:TA} {p pos:Pos} (hg:Gl X "enumerate") (hm:X.mg "enumerate" = none) (ha:PA X [a] ta) (hs:starEach [a] X.env=[(false,eval a X.env)]:=by rfl) (hs2:starEach [] X.env=[]:=by rfl) (hK:X.K=K:=by rfl) :
  PI X (.Tuple es kk tp) (.Call (.Name "enumerate" p) [a] [] pos) (iEnum K ta):=by
 subst hK
 intro pins s σ H R I h
 refine Call_ (Zcy I hg hm (Zf2) (PyProof.Rows.callWith_type1 (thn (ha pos pins s σ H _ I h) fun us s1 ⟨vs,H1,I1,r1,q1⟩=>?_) (by rw [hs,hs2]) (by rw [hs2]; rfl)))
 obtain ⟨b,l1,e,⟨xs,hx⟩,q⟩:=q1
 subst e
 obtain ⟨u1,rfl,q1⟩:=vals1 r1
 cases (show u1=Value.ref l1 from q1)
 obtain ⟨its1,w1,p1⟩:=I1.seqB hx
 refine Zmc p1 fun h' b1 b2 hk=>?_
 refine wpAny_pyIter_enum b1 ?_
 have I2:Inv X pins σ H1 { s1 with heap:=h' }:=I1.kept (t':=s1.toks) hk
 refine ⟨s1.heap.objs.size + 1,[s1.heap.objs.size + 1,s1.heap.objs.size],_,_,H1,rfl,I2,Zm6 l1 _ _ (Nat.succ_ne_self _),⟨⟨_,b1⟩,b2⟩,fun b hb=>?_,q⟩
 have hge:s1.heap.objs.size<=b:=by
  simp only [List.mem_cons,List.not_mem_nil,or_false] at hb
  rcases hb with rfl | rfl <;> omega
 exact I1.fpOk hge (I1.hok.fresh hge)
def rMin1 (K:PySem.W.Frag):List V->Hp->VK->Prop:=fun xs H Q=>∃ (b:Bool) (p:Addr) (ns:List Int),xs=[.ref p]/\SqB b K H p (ns.map V.int)/\0 < ns.length/\∀ m,m ∈ ns->(∀ a ∈ ns,m<=a)->Q (.int m) H
theorem minK (K:PySem.W.Frag) (hc:X.calm=true) (hK:X.K=K:=by rfl):CallR X (.builtin "min") (rMin1 K):=by
 subst hK
 intro pins s σ H xs us Q I r h
 obtain ⟨b,p,ns,rfl,hx,hne,q⟩:=h
 obtain ⟨u,rfl,ru⟩:=vals1 r
 cases (show u=Value.ref p from ru)
 obtain ⟨its,w1,p1⟩:=I.seqB hx
 have hlt:=p1.lt
 have hl:=w1.length
 rw [List.length_map] at hl
 have hv:∀ (i:Nat) v,its.toArray[i]? = some v->∃ t,v=Value.int (ns.getD i 0) t:=fun i v e=>by
  have hi:i < its.length:=by simpa using (Array.getElem?_eq_some_iff.mp e).1
  obtain ⟨v',e1,t,e2⟩:=w1.get (i:=i) (x:=.int (ns.getD i 0)) (by rw [List.getElem?_map,List.getD_eq_getElem?_getD,List.getElem?_eq_getElem (by omega)]; rfl)
  rw [List.getElem?_toArray,e1] at e
  cases e
  exact ⟨t,e2⟩
 have fin:∀ {h':Heap} {tk:Nat} {v:Value},its.toArray[argBest (fun i j=>decide (ns.getD i 0 < ns.getD j 0)) (its.toArray.size - 1)]? = some v->(∀ c o,s.heap.get? c=some o->h'.get? c=some o)->EP X pins σ Q v { s with heap:=h',toks:=tk }:=fun {h' tk v} hP hk=>by
  obtain ⟨t,rfl⟩:=hv _ _ hP
  obtain ⟨h1,h2⟩:=argBest_lt (fun i=>ns.getD i 0) (its.toArray.size - 1)
  have hz:its.toArray.size=ns.length:=by simp [hl]
  rw [hz] at h1 h2 ⊢
  refine ⟨.int (ns.getD (argBest (fun i j=>decide (ns.getD i 0 < ns.getD j 0)) (ns.length - 1)) 0),H,I.kept hk,⟨_,rfl⟩,q _ ?_ fun a ha=>?_⟩
  ·rw [List.getD_eq_getElem?_getD,List.getElem?_eq_getElem (by omega)]; exact List.getElem_mem _
  ·obtain ⟨j,hj,rfl⟩:=List.mem_iff_getElem.mp ha
   have:=h2 j (by omega)
   rw [List.getD_eq_getElem?_getD (l:=ns) (i:=j),List.getElem?_eq_getElem hj] at this
   exact this
 have old:∀ {o:Obj} {h':Heap},(∀ c u,c ∉ [s.heap.objs.size]->(s.heap.push o).get? c=some u->h'.get? c=some u)->∀ c u,s.heap.get? c=some u->h'.get? c=some u:=fun hk c u e=>hk c u (fun hm=>by
  have:c=s.heap.objs.size:=by simpa using hm
  exact absurd (this ▸ Heap.lt_size e) (Nat.lt_irrefl _)) (Heap.get?_push_of_some _ e)
 have fp:∀ o:Obj,∀ c ∈ [s.heap.objs.size,p],c < (s.heap.push o).objs.size:=fun o c hc=>by
  rw [Heap.size_push]
  simp only [List.mem_cons,List.not_mem_nil,or_false] at hc
  rcases hc with rfl | rfl
  ·exact Nat.lt_succ_self _
  ·exact Nat.lt_succ_of_lt hlt
 cases b
 ·refine call_min_walk (wpAny_pyIter_list p1 ?_)
  exact ⟨_,_,_,_,_,_,_,rfl,Walks.list (A:=X.A.in1) (I.ok.hd hc) _ p (Nat.ne_of_lt hlt) its.toArray,⟨⟨_,Heap.get?_push_size _ rfl,rfl,rfl⟩,Heap.IsList.push p1 _⟩,fp _,by simp; omega,CmpOf.ints_lt (fun i=>ns.getD i 0) hv,fun v h' tk hP hk=>fin hP (old hk)⟩
 ·refine call_min_walk (wpAny_pyIter_tuple p1 ?_)
  exact ⟨_,_,_,_,_,_,_,rfl,Walks.tuple (A:=X.A.in1) (I.ok.hd hc) _ p (Nat.ne_of_lt hlt) its.toArray,⟨⟨_,Heap.get?_push_size _ rfl,rfl,rfl⟩,Heap.IsTuple.push p1 _⟩,fp _,by simp; omega,CmpOf.ints_lt (fun i=>ns.getD i 0) hv,fun v h' tk hP hk=>fin hP (old hk)⟩
end
section
variable {K:PySem.W.Frag} {Δ:Evt}
theorem Zjm {ns:List Int} {m:Int} {d:D} {P:D->Evt->Prop} (hd:d=.lst (ns.map .int)\/d=.tup (ns.map .int)) (hm:m ∈ ns) (hle:∀ a ∈ ns,m<=a) (p:P (.int m) Δ):JC K (rMin1 K) [d] Δ P:=fun g G H σ Q vs k rs c=>by
 have fin:∀ m',m' ∈ ns->(∀ a ∈ ns,m' <= a)->Q (.int m') H:=fun m' h1 h2=>by
  have:m' = m:=Int.le_antisymm (h2 m hm) (hle m' h1)
  subst this
  exact c _ _ G H Δ k (Same.refl _) (.int _) p
 have pos:0 < ns.length:=List.length_pos_of_mem hm
 obtain ⟨_,_,rfl,r,t⟩:=rs.inv
 next=>
  cases t.inv
  rcases hd with hd | hd <;> subst hd
  ·obtain ⟨_,_,rfl,ha,rs⟩:=r.inv
   next=>have:=rs.ints; subst this; exact ⟨false,_,ns,rfl,SqL.of (k.live _ _ ha),pos,fin⟩
  ·obtain ⟨_,_,rfl,ha,rs⟩:=r.inv
   next=>have:=rs.ints; subst this; exact ⟨true,_,ns,rfl,SqT.of (k.live _ _ ha),pos,fin⟩
def enD (ds:List D):List D:=ds.zipIdx.map fun p=>D.tup [.int (p.2:Int),p.1]
theorem Zjc (ds:List D):(enD ds).length=ds.length:=by unfold enD; rw [List.length_map,List.length_zipIdx]
theorem Zgr {ds:List D} {i:Nat} {e:D} (h:(enD ds)[i]? = some e):∃ d,ds[i]? = some d/\e=.tup [.int (i:Int),d]:=by
 unfold enD at h
 rw [List.getElem?_map,List.getElem?_zipIdx] at h
 cases q:ds[i]? with
 | none=>rw [q] at h; cases h
 | some d=>rw [q] at h; refine ⟨d,rfl,?_⟩; simpa using h.symm
theorem Zgi {b:Bool} {G:Hp} {l1:Addr} {xs:List V} {ds:List D} (h1:∀ G1 H1,Same G G1->Same G1 H1->SqB b K H1 l1 xs) (r1:Reps K G xs ds):ItOk K G (Ieb b K l1) (enD ds):=fun G1 H1 sg sh=>by
 have hl1:=r1.length
 have e1:=h1 G1 H1 sg sh
 refine ⟨⟨xs,e1,by rw [Zjc]; omega⟩,fun i d hd=>?_⟩
 obtain ⟨d0,q,rfl⟩:=Zgr hd
 obtain ⟨u,hu,ru⟩:=r1.get q
 refine ⟨⟨xs,u,e1,hu⟩,fun x H2 ⟨p,a,hp,ex,eH,hab⟩=>?_⟩
 have ha:=hab xs e1
 rw [hu] at ha
 cases ha
 subst ex; subst eH
 have hG:G1 p=none:=by
  cases z:G1 p with
  | none=>rfl
  | some o=>rw [sh _ _ z] at hp; cases hp
 refine ⟨upd G1 p (.tup [.int (i:Int),u]),fun c o e=>by rw [Zaj (Zak e hG)]; exact e,fun c o e=>by rw [Zaj (Zak e hp)]; exact e,fun c o e=>?_,?_⟩
 ·by_cases hc:c=p
  ·subst hc; rw [Zam] at e ⊢; exact ⟨e,.inr hp⟩
  ·rw [Zaj hc] at e ⊢; exact ⟨sh c o e,.inl e⟩
 ·have sg2:Same G1 (upd G1 p (.tup [.int (i:Int),u])):=fun c o e=>by rw [Zaj (Zak e hG)]; exact e
  exact .tup Zam (.cons (.int _) (.cons ((ru.mono sg).mono sg2) .nil))
theorem Ziy {ta:TA} {P:List D->Evt->Prop} (h:JA K ta Δ fun ds Δ1=>∃ as,(ds=[.lst as]\/ds=[.tup as])/\P (enD as) Δ1):JI K (iEnum K ta) Δ P:=fun g G H σ R k c=>
 h g G H σ _ k fun vs ds G1 H1 Δ1 k1 s1 r1 hq_=>by
  obtain ⟨as,e,p1⟩:=hq_
  rcases e with e | e
  ·subst e
   obtain ⟨_,_,rfl,ra,rr⟩:=r1.inv
   next=>
    cases rr.inv
    obtain ⟨_,_,rfl,ha,rsa⟩:=ra.inv
    next=>exact ⟨false,_,rfl,⟨_,SqL.of (k1.live _ _ ha)⟩,c _ _ G1 H1 Δ1 k1 s1 (Zgi (fun _ _ sg sh=>SqL.of (sh _ _ (sg _ _ ha))) rsa) p1⟩
  ·subst e
   obtain ⟨_,_,rfl,ra,rr⟩:=r1.inv
   next=>
    cases rr.inv
    obtain ⟨_,_,rfl,ha,rsa⟩:=ra.inv
    next=>exact ⟨true,_,rfl,⟨_,SqT.of (k1.live _ _ ha)⟩,c _ _ G1 H1 Δ1 k1 s1 (Zgi (fun _ _ sg sh=>SqT.of (sh _ _ (sg _ _ ha))) rsa) p1⟩
end
end L2
set_option Elab.async false
set_option linter.all false
set_option maxRecDepth 100000
namespace L2
open PySem PySem.Spec PyProof.Rows PySem.SeqAt
def RowAt (h:Heap) (v:Value) (r:List Int):Prop:=∃ (a:Addr) (its:List Value),v=.ref a/\IsTup h a its.toArray/\IntsAre its r
section
variable {X:Cx}
def rIndexL (K:PySem.W.Frag):V->List V->Hp->VK->Prop:=fun x vs H Q=>∃ (a:Addr) (ns:List Int) (i:Int),x=.ref a/\vs=[.int i]/\SqL K H a (ns.map V.int)/\ns.length<=1000/\i ∈ ns/\Q (.int (ns.idxOf i:Nat)) H
theorem idxLK (K:PySem.W.Frag) (hK:X.K=K:=by rfl):MtM X "list.index" (rIndexL K):=by
 subst hK
 intro pins s σ H x vs v us Q I rx rv h
 obtain ⟨a,ns,i,rfl,rfl,hx,hl,hm,q⟩:=h
 cases rx
 obtain ⟨u,rfl,ru⟩:=rv.one
 obtain ⟨t,rfl⟩:=ru
 obtain ⟨its,r,pl,hz⟩:=I.list hx
 have hi:=Zby r
 have hlen:=hi.length
 obtain ⟨⟨cls,dd,data,sl⟩,ho,hc,n,hd⟩:=pl.isList
 simp only at hc hd
 subst hc hd
 have hj:ns.idxOf i < ns.length:=List.idxOf_lt_length_iff.mpr hm
 refine call_meets PySem.F.slot_list_index ⟨_,ho,rfl⟩ PySem.F.entry_list_index (PySem.F.args_list_index_2 _ _)
  (list_indexAt a its.toArray n dd sl (.int i t) (isInt i) (ns.idxOf i) (by simpa [hlen] using hj) (by omega) ?_ ?_) ⟨ho,fun y hy=>(eq_isInt i t hi y (by simpa using hy)).at _ _,⟨.int _,H,I.tok _,⟨_,rfl⟩,q⟩⟩
 ·show isInt i its[ns.idxOf i]=true
  rw [isInt_at i hi _ (by omega) hj]
  simpa using List.getElem_idxOf hj
 ·intro j hjs hlt
  show isInt i its[j]=false
  rw [isInt_at i hi j (by simpa using hjs) (by omega)]
  exact ne_of_lt_idxOf hlt _
end
section
variable {K:PySem.W.Frag} {Δ:Evt} {P:D->Evt->Prop}
theorem Ziu {to te:TE} (h:JE K to Δ fun d Δ1=>∃ ns:List Int,d=.lst (ns.map D.int)/\ns.length<=1000/\JE K te Δ1 fun e Δ2=>∃ i,e=.int i/\i ∈ ns/\P (.int (ns.idxOf i:Nat)) Δ2) :
  JE K (tBM K "list" (rIndexL K) to (tCons te tNil)) Δ P:=fun g G H σ Q k c=>
 h g G H σ _ k fun v d G1 H1 Δ1 k1 s1 r1 hq_=>by
  obtain ⟨ns,e,hl,p1⟩:=hq_
  subst e
  obtain ⟨a,vs,rfl,ha,rs⟩:=r1.inv
  next=>
   refine ⟨.inl ⟨rfl,_,SqL.of (k1.live _ _ ha)⟩,p1 g G1 H1 σ _ k1 fun u e G2 H2 Δ2 k2 s2 r2 ⟨i,q1,q2,p⟩=>?_⟩
   subst q1
   cases r2.inv
   have ev:vs=ns.map V.int:=rs.ints
   subst ev
   exact ⟨a,ns,i,rfl,rfl,SqL.of (k2.live _ _ (s2 _ _ ha)),hl,q2,c _ _ G2 H2 Δ2 k2 (s1.trans s2) (.int _) p⟩
end
theorem Zk7 {A:Around} {k:Nat} (hr:Room k A):A.units + 8 < cLine:=Nat.lt_of_le_of_lt (Nat.add_le_add_left (by decide:8<=64) _) hr.units
end L2
set_option Elab.async false
set_option linter.all false
set_option maxRecDepth 100000
namespace L2
open PySem PySem.Spec PyProof.Rows PySem.SeqAt
section
variable {X:Cx}
def rSortI (K:PySem.W.Frag):List V->Hp->VK->Prop:=fun xs H Q=>∃ (p:Addr) (ns:List Int),xs=[.ref p]/\SqL K H p (ns.map V.int)/\ns.length < 64/\∀ (l:Addr) (ms:List Int),ms.Perm ns->ms.Pairwise (· <= ·)->H l=none->Q (.ref l) (upd H l (.lst (ms.map V.int)))
theorem sortIK (K:PySem.W.Frag) (hK:X.K=K:=by rfl):CallR X (.builtin "sorted") (rSortI K):=by
 subst hK
 intro pins s σ H xs us Q I r h
 obtain ⟨p,ns,rfl,hx,hl,q⟩:=h
 obtain ⟨u,rfl,ru⟩:=vals1 r
 cases (show u=Value.ref p from ru)
 obtain ⟨its,w1,p1,hz⟩:=I.list hx
 have hi:=Zby w1
 have hlen:=hi.length
 refine sorted_ints p1.isList hi (by omega) fun out ms o1 o2 o3=>?_
 obtain ⟨e,he⟩:=sortedAll_at s.heap its out
 have hml:=o2.length_eq
 refine ⟨.ref (s.heap.objs.size + 1),_,I.laid (t':=s.toks) (fun _ _ z=>sortedAll_old z) (Nat.le_succ _) (show ObjOk X.prog X.w _ _ _ (.lst (ms.map V.int)) from ⟨?_,out.toList,e,Zc6 o1,?_⟩),rfl,q _ ms o2 o3 (I.hok.fresh (Nat.le_succ _))⟩
 ·rw [List.length_map]; exact Nat.le_of_lt (small1000 (by omega))
 ·rw [Array.toArray_toList]; exact he
end
section
variable {K:PySem.W.Frag} {Δ:Evt} {P:D->Evt->Prop}
theorem Zlb {ta:TA} {Po:OD->Evt->Prop} (h:JA K ta Δ fun ds Δ1=>∃ ns:List Int,ds=[.lst (ns.map .int)]/\ns.length < 64/\∀ ms:List Int,ms.Perm ns->ms.Pairwise (· <= ·)->Po (.lst (ms.map .int)) Δ1):JO K (tCB (rSortI K) ta) Δ Po:=fun g G H σ Q k c=>
 h g G H σ _ k fun vs ds G1 H1 Δ1 k1 s1 r1 hq_=>by
  obtain ⟨ns,e,hl,p⟩:=hq_
  subst e
  obtain ⟨_,_,rfl,r,t⟩:=r1.inv
  next=>
   cases t.inv
   obtain ⟨a,us,rfl,ha,rr⟩:=r.inv
   next=>
    have ev:=rr.ints
    subst ev
    refine ⟨a,ns,rfl,SqL.of (k1.live _ _ ha),hl,fun l ms o1 o2 hl=>?_⟩
    obtain ⟨k2,pd⟩:=k1.fresh (od:=.lst (ms.map .int)) hl (show OwnRep K G1 (.lst (ms.map V.int)) (.lst (ms.map .int)) from Reps.ofInts ms)
    exact c l _ G1 _ Δ1 k2 s1 pd (p ms o1 o2)
end
end L2
set_option Elab.async false
set_option linter.all false
set_option maxRecDepth 100000
namespace L2
open PySem PySem.Spec PyProof.Rows PySem.SeqAt
section
variable {prog:Program} {w:World}
end
section
variable {prog:Program} {w:World} {A:Around} {E:Value->Shared->Prop} {s:Shared}
end
end L2
namespace L2
open PySem PySem.Spec PyProof.Rows PySem.SeqAt
end L2
namespace L2
open PySem PySem.Spec PyProof.Rows PySem.SeqAt
section
variable {prog:Program} {w:World} {A:Around} {E:Value->Shared->Prop} {s:Shared}
end
end L2
namespace L2
open PySem PySem.Spec PyProof.Rows PySem.SeqAt
section
variable {prog:Program} {w:World} {A:Around} {E:Value->Shared->Prop} {s:Shared}
theorem Zej (es:Array (Int × Value)):(List.range es.size).map (fun k=>es.getD k (0,.none))=es.toList:=by
 apply List.ext_getElem
 ·simp
 ·intro i h1 h2
  simp only [List.getElem_map,List.getElem_range,Array.getElem_toList]
  simp only [Array.length_toList] at h2
  simp [Array.getD,h2]
end
end L2
namespace L2
open PySem PySem.Spec PyProof.Rows PySem.SeqAt
end L2
namespace L2
open PySem PySem.Spec PyProof.Rows PySem.SeqAt
section
variable {K:PySem.W.Frag} {Δ:Evt}
end
end L2
set_option Elab.async false
set_option linter.all false
set_option maxRecDepth 100000
namespace L2
open PySem PySem.Spec PyProof.Rows
section
variable {X:Cx}
end
end L2
set_option Elab.async false
set_option linter.all false
set_option maxRecDepth 100000
namespace L2
open PySem PySem.Spec PyProof.Rows PySem.SeqAt
section
variable {X:Cx}
theorem intsAt {its:List Value} {ns:List Int} (hi:IntsAre its ns):∀ j (h:j < its.length),∃ t,its[j]=.int (ns.getD j 0) t:=by
 induction hi with
 | nil=>intro j h; simp at h
 | cons n t _ ih=>
  intro j h
  cases j with
  | zero=>exact ⟨t,rfl⟩
  | succ j=>simpa using ih j (by simpa using h)
def rNeI (K:PySem.W.Frag):R2:=fun x y H Q=>∃ (a b:Addr) (ns:List Int),x=.ref a/\y=.ref b/\SqL K H a (ns.map V.int)/\SqL K H b (ns.map V.int)/\Q (.bl false) H
theorem neIK (K:PySem.W.Frag) (hv:X.A.units + 8 < cLine) (hK:X.K=K:=by rfl):OpR X (compareOp .NotEq) (rNeI K):=by
 subst hK
 intro pins s σ H x y v u Q I rx ry h
 obtain ⟨a,b,ns,rfl,rfl,ha,hb,q⟩:=h
 cases rx; cases ry
 obtain ⟨its,w1,p1,_⟩:=I.list ha
 obtain ⟨its2,w2,p2,_⟩:=I.list hb
 have i1:=Zby w1
 have i2:=Zby w2
 have l1:=i1.length
 have l2:=i2.length
 have hsz:its.toArray.size=its2.toArray.size:=by rw [List.size_toArray,List.size_toArray]; omega
 refine RcNeAt.lists (A:=X.A) (s:=s) (e:=fun _=>true) p1.isList p2.isList hsz (by omega) (fun j h1 h2=>?_) X.prog X.w _ _ ?_
 ·rw [List.size_toArray] at h1 h2
  obtain ⟨t1,e1⟩:=intsAt i1 j h1
  obtain ⟨t2,e2⟩:=intsAt i2 j h2
  rw [List.getElem_toArray,List.getElem_toArray,e1,e2]
  have:=EqAt.int_int (A:=X.A.in1) (s:=s) (ns.getD j 0) t1 (ns.getD j 0) t2
  rw [beq_self_eq_true] at this
  exact this
 ·have:(!(List.range its.toArray.size).all fun _=>true)=false:=by
   rw [List.all_eq_true.mpr (fun _ _=>rfl)]; rfl
  rw [this]
  exact ⟨.bl false,H,I,rfl,q⟩
end
section
variable {K:PySem.W.Frag} {Δ:Evt} {P:D->Evt->Prop}
theorem Zob {ns:List Int} (p:P (.bl false) Δ):JR2 K (rNeI K) (.lst (ns.map .int)) (.lst (ns.map .int)) Δ P:=fun g G H σ Q x y k rx ry c=>by
 obtain ⟨a,vs,rfl,ha,rs⟩:=rx.inv
 next=>
  obtain ⟨b,us,rfl,hb,rt⟩:=ry.inv
  next=>
   have e1:=rs.ints
   have e2:=rt.ints
   subst e1 e2
   exact ⟨a,b,ns,rfl,rfl,SqL.of (k.live _ _ ha),SqL.of (k.live _ _ hb),c _ _ G H Δ k (Same.refl _) (.bl _) p⟩
end
end L2
set_option Elab.async false
set_option linter.all false
set_option maxRecDepth 100000
namespace L2
open PySem PySem.Spec PyProof.Rows
section
variable {K:PySem.W.Frag} {Δ:Evt} {P:D->Evt->Prop}
theorem Zh1 {r r':R2} {ta tb tc:TE} (h:JE K ta Δ fun d Δ1=>JE K tb Δ1 fun e Δ2=>JR2 K r d e Δ2 fun z Δ3=>∃ k,z=.bl k/\if k=true then JE K tc Δ3 fun u Δ4=>JR2 K r' e u Δ4 P else P (.bl false) Δ3):JE K (tChain r r' ta tb tc) Δ P:=fun g G H σ Q k c=>
 h g G H σ _ k fun x d G1 H1 Δ1 k1 s1 r1 p1=>p1 g G1 H1 σ _ k1 fun y e G2 H2 Δ2 k2 s2 r2 p2=>p2 g G2 H2 σ _ x y k2 (r1.mono s2) r2 fun z dz G3 H3 Δ3 k3 s3 r3 hq_=>by
  obtain ⟨b,eb,p3⟩:=hq_
  subst eb
  cases r3.inv
  refine ⟨b,rfl,?_⟩
  cases b with
  | true=>
   rw [if_pos rfl] at p3 ⊢
   exact p3 g G3 H3 σ _ k3 fun u du G4 H4 Δ4 k4 s4 r4 p4=>p4 g G4 H4 σ Q y u k4 (r2.mono (s3.trans s4)) r4 (c.up (s1.trans (s2.trans (s3.trans s4))))
  | false=>
   rw [if_neg Bool.false_ne_true] at p3 ⊢
   exact c _ _ G3 H3 Δ3 k3 (s1.trans (s2.trans s3)) (.bl false) p3
end
end L2
set_option Elab.async false
set_option linter.all false
set_option maxRecDepth 100000
namespace L2
open PySem PySem.Spec PyProof.Rows
section
variable {K:PySem.W.Frag} {Δ:Evt}
theorem Zjb {j n:Nat} (h:j < n):seqIndex? (j:Int) n=some j:=by
 unfold seqIndex?
 simp
 omega
theorem Zjq {i:Nat} {te:TE} {ti:TIp} {d:D} {nx bk ct:Evt->Prop} {rt:D->Evt->Prop} {ro:OD->Evt->Prop} (hx:Δ[i]? = some (.val d)) (h:JE K te Δ fun e Δ1=>Δ1[i]? = some (.val d)/\JR2 K ti d e Δ1 fun z Δ2=>nx (Δ2.set i (.val z))):JS K (tAug i te ti) Δ ⟨nx,rt,bk,ct,ro⟩:=fun g G H σ E k c=>by
 obtain ⟨v,h1,h2⟩:=k.val i d hx
 refine ⟨v,h1,h g G H σ _ k fun u e G1 H1 Δ1 k1 s1 r1 ⟨_,p1⟩=>p1 g G1 H1 σ _ v u k1 (h2.mono s1) r1 fun z dz G2 H2 Δ2 k2 s2 r2 p2=>?_⟩
 exact c.nx _ G2 H2 _ (k2.setVal' i r2) p2
end
end L2
set_option Elab.async false
set_option linter.all false
set_option maxRecDepth 100000
namespace L2
open PySem PySem.Spec PyProof.Rows PySem.SeqAt
section
variable {K:PySem.W.Frag} {Δ:Evt} {P:D->Evt->Prop}
end
end L2
set_option Elab.async false
set_option linter.all false
set_option maxRecDepth 100000
namespace L2
open PySem PySem.Spec PyProof.Rows
end L2
set_option Elab.async false
set_option linter.all false
set_option maxRecDepth 100000
namespace L2
open PySem PySem.Spec PyProof.Rows
section
variable {K:PySem.W.Frag} {Δ:Evt}
end
end L2
set_option Elab.async false
set_option linter.all false
set_option maxRecDepth 100000
namespace L2
open PySem PySem.Spec PyProof.Rows
section
variable {prog:Program} {w:World} {A:Around} {E:Value->Shared->Prop} {s:Shared}
theorem Zg4 {l:Addr} {vs:List Value} {Q:List Value->Shared->Prop} (hl:s.heap.IsTuple l vs.toArray)
  (h:Q vs { s with heap:=(s.heap.push (seqObj "list" #[] 0)).update s.heap.objs.size (Obj.mapSeq (· ++ vs.toArray)) }) (hsz:vs.length<=sizeLine) :
  wpAny (model prog w) A (collect (.ref l)) Q E s:=by
 obtain ⟨o,ho,hc,n,hd⟩:=id hl
 unfold collect
 refine wpAny_bind (wpAny_runValue (codeAny_builtin entry_proto_collect' ?_))
 show wpAny _ _ (do again (.builtin "list.__iadd__" ⟨[← newList [],.ref l],[]⟩)) _ _ s
 refine wpAny_bind (wpAny_newList (wpAny_pure ⟨Code.quiet_builtin _ (by decide +kernel),codeAny_builtin entry_list_iadd' ?_⟩))
 show wpAny _ _ (Builtin.List.listExtendWith (.ref s.heap.objs.size) (.ref l) (.ref s.heap.objs.size)) _ _ { s with heap:=s.heap.push (seqObj "list" #[] 0) }
 unfold Builtin.List.listExtendWith
 have ho':(s.heap.push (seqObj "list" #[] 0)).get? l=some o:=Heap.get?_push_of_some _ ho
 refine wpAny_bind (wpAny_typeOf (T:="tuple") ⟨o,ho',hc⟩ ?_)
 have ht:(Value.type "tuple" == Value.type "tuple")=true:=by rfl
 rw [if_pos (by rw [ht]; simp)]
 refine wpAny_bind (listItems_at ho' hd ?_)
 refine wpAny_bind (listItems_at (xs:=#[]) (n:=0) (Heap.get?_push_size _ rfl) rfl ?_)
 rw [if_neg (by simp)]
 refine wpAny_bind (listUpdate_at (xs:=#[]) (n:=0) (Heap.get?_push_size _ rfl) rfl ?_ (Nat.zero_le _) (by show (#[] ++ vs.toArray).size<=sizeLine + 1; simp only [Array.size_append,List.size_toArray,List.length_nil]; omega))
 refine wpAny_pure ?_
 show wpAny (model prog w) A (do
   let o ← load s.heap.objs.size
   match o.data with
   | .seq xs _=>pure xs.toList
   | _=>unsupported "internal:collect") Q E { s with heap:=(s.heap.push (seqObj "list" #[] 0)).update s.heap.objs.size (Obj.mapSeq (· ++ vs.toArray)) }
 refine wpAny_bind (wpAny_load (get?_update_seq (Heap.get?_push_size _ rfl) _) ?_)
 show wpAny _ _ (pure ((#[]:Array Value) ++ vs.toArray).toList) Q E _
 rw [show ((#[]:Array Value) ++ vs.toArray).toList=vs by simp]
 exact wpAny_pure h
theorem Zgf {l:Addr} {vs:List Value} {ns:List Int} {Q:Value->Shared->Prop} (hl:s.heap.IsTuple l vs.toArray) (hI:IntsAre vs ns) (h64:vs.length < 64)
  (h:∀ (out:Array Value) (ns':List Int),IntsAre out.toList ns' -> ns'.Perm ns->ns'.Pairwise (· <= ·)->Q (.ref (s.heap.objs.size + 1)) { s with heap:=sortedAll s.heap vs out }) :
  wpAny (model prog w) A (call (.builtin "sorted") [.ref l]) Q E s:=by
 refine Calls.call_function_entry kind_sorted plain_sorted entry_sorted (args_sorted1 _) ?_
 unfold Builtin.«sorted»
 refine wpAny_bind (m:=checkCount "sorted" 1 1 _) (wpAny_pure ?_)
 refine wpAny_bind (Zg4 hl ?_ (Nat.le_of_lt (small1000 (by omega))))
 refine wpAny_bind (wpAny_newList ?_)
 have hsz:((s.heap.push (seqObj "list" #[] 0)).update s.heap.objs.size (Obj.mapSeq (· ++ vs.toArray))).objs.size=s.heap.objs.size + 1:=by
  rw [Heap.size_update,size_push']
 have hoL:(((s.heap.push (seqObj "list" #[] 0)).update s.heap.objs.size (Obj.mapSeq (· ++ vs.toArray))).push (seqObj "list" vs.toArray 0)).get? (s.heap.objs.size + 1)=some (seqObj "list" vs.toArray 0):=by
  rw [<- hsz]; exact Heap.get?_push_size _ rfl
 show wpAny _ _ _ _ _ { s with heap:=((s.heap.push (seqObj "list" #[] 0)).update s.heap.objs.size (Obj.mapSeq (· ++ vs.toArray))).push (seqObj "list" vs.toArray 0) }
 rw [hsz]
 refine wpAny_bind (wpAny_holding (wpAny_call_entry slot_list_sort ⟨_,hoL,rfl⟩ entry_list_sort (list_sort_tree hoL hI h64 fun out ns' a1 a2 a3=>⟨_,rfl,?_⟩) (args_list_sort _)))
 exact wpAny_pure ⟨_,rfl,h out ns' a1 a2 a3⟩
end
section
variable {X:Cx}
def rSortT (K:PySem.W.Frag):List V->Hp->VK->Prop:=fun xs H Q=>∃ (p:Addr) (ns:List Int),xs=[.ref p]/\SqT K H p (ns.map V.int)/\ns.length < 64/\∀ (l:Addr) (ms:List Int),ms.Perm ns->ms.Pairwise (· <= ·)->H l=none->Q (.ref l) (upd H l (.lst (ms.map V.int)))
theorem sortTK (K:PySem.W.Frag) (hK:X.K=K:=by rfl):CallR X (.builtin "sorted") (rSortT K):=by
 subst hK
 intro pins s σ H xs us Q I r h
 obtain ⟨p,ns,rfl,hx,hl,q⟩:=h
 obtain ⟨u,rfl,ru⟩:=vals1 r
 cases (show u=Value.ref p from ru)
 obtain ⟨its,w1,p1⟩:=I.seqB (b:=true) hx
 have hi:=Zby w1
 have hlen:=hi.length
 refine Zgf p1 hi (by omega) fun out ms o1 o2 o3=>?_
 obtain ⟨e,he⟩:=sortedAll_at s.heap its out
 have hml:=o2.length_eq
 refine ⟨.ref (s.heap.objs.size + 1),_,I.laid (t':=s.toks) (fun _ _ z=>sortedAll_old z) (Nat.le_succ _) (show ObjOk X.prog X.w _ _ _ (.lst (ms.map V.int)) from ⟨?_,out.toList,e,Zc6 o1,?_⟩),rfl,q _ ms o2 o3 (I.hok.fresh (Nat.le_succ _))⟩
 ·rw [List.length_map]; exact Nat.le_of_lt (small1000 (by omega))
 ·rw [Array.toArray_toList]; exact he
end
section
variable {K:PySem.W.Frag} {Δ:Evt} {P:D->Evt->Prop}
theorem Zfc {ta:TA} {Po:OD->Evt->Prop} (h:JA K ta Δ fun ds Δ1=>∃ ns:List Int,ds=[.tup (ns.map .int)]/\ns.length < 64/\∀ ms:List Int,ms.Perm ns->ms.Pairwise (· <= ·)->Po (.lst (ms.map .int)) Δ1):JO K (tCB (rSortT K) ta) Δ Po:=fun g G H σ Q k c=>
 h g G H σ _ k fun vs ds G1 H1 Δ1 k1 s1 r1 hq_=>by
  obtain ⟨ns,e,hl,p⟩:=hq_
  subst e
  obtain ⟨_,_,rfl,r,t⟩:=r1.inv
  next=>
   cases t.inv
   obtain ⟨a,us,rfl,ha,rr⟩:=r.inv
   next=>
    have ev:=rr.ints
    subst ev
    refine ⟨a,ns,rfl,SqT.of (k1.live _ _ ha),hl,fun l ms o1 o2 hl=>?_⟩
    obtain ⟨k2,pd⟩:=k1.fresh (od:=.lst (ms.map .int)) hl (show OwnRep K G1 (.lst (ms.map V.int)) (.lst (ms.map .int)) from Reps.ofInts ms)
    exact c l _ G1 _ Δ1 k2 s1 pd (p ms o1 o2)
theorem Zjf {n:Nat} {te:TE} {x:Slot} {ds0:List D} (hx:Δ[n]? = some x) (ho:x.od=some (.lst ds0))
  (h:JE K te Δ fun e Δ1=>∃ y ds,∃ j:Nat,∃ d,Δ1[n]? = some y/\y.od=some (.lst ds)/\e=.int j/\ds[j]? = some d/\ds.length<=1000/\P d (Δ1.set n (y.put (.lst (ds.eraseIdx j))))) :
  JE K (tBM K "list" rPopAt (tVar n) (tCons te tNil)) Δ P:=fun g G H σ Q k c=>by
 obtain ⟨a,o,h1,h2,h3,h4,h5⟩:=k.own n x _ hx ho
 cases o with
 | lst vs0=>
  refine ⟨.ref a,h1,.inl ⟨rfl,_,SqL.of h2⟩,h g G H σ _ k fun v e G1 H1 Δ1 k1 s1 r1 ⟨y,ds,j,d,q1,q2,q3,q4,q5,p⟩=>?_⟩
  subst q3
  cases r1.inv
  obtain ⟨a',o',w1,w2,w3,w4,w5⟩:=k1.own n y _ q1 q2
  rw [h1] at w1; cases w1
  cases o' with
  | lst vs=>
   have w3:Reps K G1 vs ds:=w3
   obtain ⟨u,z1,z2⟩:=w3.get q4
   have hj:j < vs.length:=(List.getElem?_eq_some_iff.mp z1).1
   have hl:=w3.length
   refine ⟨a,vs,j,j,u,rfl,rfl,w2,by omega,by omega,Zjb hj,z1,c u d G1 _ _ (k1.write q1 q2 h1 (show OwnRep K G1 (.lst (vs.eraseIdx j)) (.lst (ds.eraseIdx j)) from w3.eraseIdx j)) s1 z2 p⟩
  | _=>exact absurd w3 (fun z=>z)
 | _=>exact absurd h3 (fun z=>z)
end
end L2
set_option Elab.async false
set_option linter.all false
set_option maxRecDepth 100000
namespace L2
open PySem PySem.Spec PyProof.Rows
section
variable {X:Cx}
end
end L2
set_option Elab.async false
set_option linter.all false
set_option maxRecDepth 100000
namespace L2
open PySem PySem.Spec PyProof.Rows
end L2
set_option Elab.async false
set_option linter.all false
set_option maxRecDepth 100000
namespace L2
open PySem PySem.Spec PyProof.Rows
end L2
set_option Elab.async false
set_option linter.all false
set_option maxRecDepth 100000
namespace L2
open PySem PySem.Spec PyProof.Rows
section
variable {X:Cx}
end
end L2
set_option Elab.async false
set_option linter.all false
set_option maxRecDepth 100000
namespace L2
open PySem PySem.Spec PyProof.Rows
end L2
set_option Elab.async false
set_option linter.all false
set_option maxRecDepth 100000
namespace L2
open PySem PySem.Spec PyProof.Rows
end L2
set_option Elab.async false
set_option linter.all false
set_option maxRecDepth 100000
namespace L2
open PySem PySem.Spec PyProof.Rows
section
variable {K:PySem.W.Frag} {Δ:Evt}
end
def Itc (lo c:Int) (n:Nat):It:=⟨fun i _=>i < n,fun i H x H'=>H' = H/\x=.int (lo + (i:Nat) * c),fun i _=>n<=i⟩
theorem Zf1 {P:Program} {w:World} {K:PySem.W.Frag} {tg:Expr} (it:Addr) (lo c:Int) (n:Nat):Turn P w K tg (Itc lo c n) [it] it (fun i h=>IsRangeIter h it (lo + (i:Nat) * c) ((n:Int) - (i:Nat)) c) where
 mem:=by simp
 obj:=fun i h st b hb=>by
  have e:b=it:=by simpa using hb
  subst e
  exact ⟨_,st,fun v z=>by
   have z':Data.fields _=Data.cell v:=z
   cases z'⟩
 keep:=fun i h h' st k=>k it (by simp) _ st
 item:=by
  intro X hP hw hK hc i pins s σ H E I hf st hg
  subst hP hw hK
  obtain ⟨f0,f1,f2,f3,f4,f5⟩:=hf it (by simp)
  have W:=Walks.range (prog:=X.prog) (w:=X.w) (I.ok.hd hc) it lo c n
  refine W.item i s _ _ hg st fun v h' tk hv st' kk=>?_
  obtain ⟨t,rfl⟩:=hv
  have I1:Inv X pins σ H { s with heap:=h',toks:=tk }:=I.turned (fun b o hb e=>kk b o (by simpa using hb) e) f0 f1 f3 f4 f5
  exact ⟨_,rfl,Zk4 (s:={ s with heap:=h',toks:=tk }) (n:="range_iterator") st' rfl rfl (by decide) ⟨.int (lo + (i:Nat) * c),H,I1,⟨t,rfl⟩,⟨rfl,rfl⟩,st',fun b hb=>(hf b hb).1⟩⟩
 done:=by
  intro X hP hw hK hc i pins s σ H E I hf st hg
  subst hP hw hK
  obtain ⟨f0,f1,f2,f3,f4,f5⟩:=hf it (by simp)
  exact wpAny_pyNext_range_end (I.ok.hd hc) st (by have:n<=i:=hg; omega) fun h' eb=>⟨rfl,I.turned (t':=s.toks) (fun b o hb e=>eb b o hb e) f0 f1 f3 f4 f5⟩
 self:=fun _ _ _ _ _ st h=>wpAny_pyIter_rangeiter st h
def stepN (a b c:Int):Nat:=(Builtin.Range.rangeSize a b c).toNat
def iRng3 (ta:TA):TI:=fun σ H R=>ta σ H fun vs H1=>∃ a b c:Int,vs=[.int a,.int b,.int c]/\(-1000<=a/\a<=1000 /\ -1000<=b/\b<=1000/\(c=2\/c = -1))/\R (Itc a c (stepN a b c)) H1
theorem Zk9 (a b:Int):Builtin.Range.rangeSize a b 2=if a < b then (b - a - 1) / 2 + 1 else 0:=by
 unfold Builtin.Range.rangeSize
 rw [if_pos (by decide)]
theorem Zfe (a b:Int):Builtin.Range.rangeSize a b (-1)=if a > b then a - b else 0:=by
 unfold Builtin.Range.rangeSize
 rw [if_neg (by decide)]
 split <;> simp
theorem Zig {a b c:Int} (h:-1000<=a/\a<=1000 /\ -1000<=b/\b<=1000/\(c=2\/c = -1)):Builtin.Range.small a b c=true/\0<=Builtin.Range.rangeSize a b c/\Builtin.Range.rangeSize a b c<=4000:=by
 obtain ⟨h1,h2,h3,h4,h5⟩:=h
 unfold Builtin.Range.small
 simp only [Builtin.Range.rangeFitsLong,Bool.and_eq_true,Bool.or_eq_true,decide_eq_true_eq,beq_iff_eq]
 rcases h5 with rfl | rfl
 ·rw [Zk9]; split <;> (refine ⟨?_,?_,?_⟩ <;> (try split) <;> (try simp) <;> omega)
 ·rw [Zfe]; split <;> (refine ⟨?_,?_,?_⟩ <;> (try split) <;> (try simp) <;> omega)
section
variable {X:Cx} {tg:Expr}
theorem Zfv {a b c:Expr} {ta:TA} {p pos:Pos} (hg:Gl X "range") (hm:X.mg "range" = none) (ha:PA X [a,b,c] ta) (hs:starEach [a,b,c] X.env=[(false,eval a X.env),(false,eval b X.env),(false,eval c X.env)]:=by rfl) (hs2:starEach [b,c] X.env=[(false,eval b X.env),(false,eval c X.env)]:=by rfl) :
  PI X tg (.Call (.Name "range" p) [a,b,c] [] pos) (iRng3 ta):=by
 intro pins s σ H R I h
 refine Call_ (Zcy I hg hm boot_range (PyProof.Rows.callWith_type1 (thn (ha pos pins s σ H _ I h) fun us s1 ⟨vs,H1,I1,r1,q1⟩=>?_) (by rw [hs,hs2]) (by rw [hs2]; rfl)))
 obtain ⟨i,j,k,e,hb,q⟩:=q1
 subst e
 cases r1 with
 | cons r rr=>
  cases rr with
  | cons r' rr=>
   cases rr with
   | cons r2 rr=>
    cases rr
    obtain ⟨t,rfl⟩:=r
    obtain ⟨t',rfl⟩:=r'
    obtain ⟨t2,rfl⟩:=r2
    obtain ⟨z1,z2,z3⟩:=Zig hb
    refine call_range_3 (by omega) ?_ (Or.inl (PyProof.noPylong_small (by omega)))
    refine wpAny_pyIter_range (IsRange.new ..) z1 ?_
    have I2:Inv X pins σ H1 { s1 with heap:=s1.heap.push { cls:=.type "range",data:=.fields #[.int i t,.int j t',.int k t2] },toks:=s1.toks }:=I1.kept fun b o e=>Heap.get?_push_of_some _ e
    refine ⟨(s1.heap.push { cls:=.type "range",data:=.fields #[.int i t,.int j t',.int k t2] }).objs.size,[(s1.heap.push { cls:=.type "range",data:=.fields #[.int i t,.int j t',.int k t2] }).objs.size],_,_,H1,rfl,
     I2.kept (t':=s1.toks) fun b o e=>Heap.get?_push_of_some _ e,Zf1 _ i k (stepN i j k),?_,fun b hb=>?_,q⟩
    ·show IsRangeIter _ _ (i + ((0:Nat):Int) * k) (((stepN i j k:Nat):Int) - ((0:Nat):Int)) k
     have e1:i + ((0:Nat):Int) * k=i:=by simp
     have e2:((stepN i j k:Nat):Int) - ((0:Nat):Int)=Builtin.Range.rangeSize i j k:=by unfold stepN; omega
     rw [e1,e2]
     exact Heap.get?_push_size _ rfl
    ·have e:b=(s1.heap.push { cls:=.type "range",data:=.fields #[.int i t,.int j t',.int k t2] }).objs.size:=by simpa using hb
     subst e
     exact I2.fpOk (Nat.le_refl _) (I2.hok.fresh (Nat.le_refl _))
end
section
variable {K:PySem.W.Frag} {Δ:Evt} {P:D->Evt->Prop}
def stpD (lo c:Int) (n:Nat):List D:=(List.range n).map fun i:Nat=>D.int (lo + (i:Int) * c)
theorem Zdu (lo c:Int) (n:Nat):(stpD lo c n).length=n:=by simp [stpD]
theorem Zdv {lo c:Int} {n i:Nat} {d:D} (h:(stpD lo c n)[i]? = some d):i < n/\d=.int (lo + (i:Int) * c):=by
 unfold stpD at h
 rw [List.getElem?_map] at h
 by_cases hi:i < n
 ·rw [List.getElem?_range hi] at h
  exact ⟨hi,(Option.some.inj h).symm⟩
 ·rw [List.getElem?_eq_none (by rw [List.length_range]; omega)] at h; cases h
theorem Zhp {G:Hp} (lo c:Int) (n:Nat):ItOk K G (Itc lo c n) (stpD lo c n):=fun G1 H1 sg sh=>by
 refine ⟨by show n<=(stpD lo c n).length; rw [Zdu]; exact Nat.le_refl _,fun i d e=>?_⟩
 obtain ⟨h1,h2⟩:=Zdv e
 subst h2
 refine ⟨h1,fun x H2 ⟨e2,y2⟩=>⟨G1,Same.refl _,by rw [e2]; exact Same.refl _,fun b o q=>⟨by rw [e2]; exact sh b o q,.inl q⟩,?_⟩⟩
 subst y2
 exact .int _
theorem Zgg {ta:TA} {P:List D->Evt->Prop} (h:JA K ta Δ fun ds Δ1=>∃ a b c:Int,ds=[.int a,.int b,.int c]/\(-1000<=a/\a<=1000 /\ -1000<=b/\b<=1000/\(c=2\/c = -1))/\P (stpD a c (stepN a b c)) Δ1):JI K (iRng3 ta) Δ P:=fun g G H σ R k c=>
 h g G H σ _ k fun vs ds G1 H1 Δ1 k1 s1 r1 hq_=>by
  obtain ⟨x,y,z,e,hb,p1⟩:=hq_
  subst e
  obtain ⟨_,_,rfl,ra,rr⟩:=r1.inv
  next=>
   obtain ⟨_,_,rfl,rb,rr⟩:=rr.inv
   next=>
    obtain ⟨_,_,rfl,rc,rr⟩:=rr.inv
    next=>
     cases rr.inv; cases ra.inv; cases rb.inv; cases rc.inv
     exact ⟨x,y,z,rfl,hb,c _ _ G1 H1 Δ1 k1 s1 (Zhp x z _) p1⟩
end
end L2
set_option Elab.async false
set_option linter.all false
set_option maxRecDepth 100000
namespace L2
open PySem PySem.Spec PyProof.Rows
section
variable {X:Cx} {pins:List (Addr × Obj)} {σ:St} {H H':Hp} {s:Shared} {h':Heap} {b:Addr}
end
section
variable {X:Cx} {pins:List (Addr × Obj)} {σ:St} {H H':Hp} {s:Shared} {h':Heap} {a C T:Addr}
variable {M:Model} {E:Value->Shared->Prop} {Q:Unit->Shared->Prop}
end
end L2
set_option Elab.async false
set_option linter.all false
set_option maxRecDepth 100000
namespace L2
open PySem PySem.Spec PyProof.Rows
end L2
set_option Elab.async false
set_option linter.all false
set_option maxRecDepth 100000
namespace L2
open PySem PySem.Spec PyProof.Rows
end L2
set_option Elab.async false
set_option linter.all false
set_option maxRecDepth 100000
namespace L2
open PySem PySem.Spec PyProof.Rows
section
variable {X:Cx} {pins:List (Addr × Obj)} {σ:St} {H:Hp} {s:Shared} {a C:Addr}
end
end L2
set_option Elab.async false
set_option linter.all false
set_option maxRecDepth 100000
namespace L2
open PySem PySem.Spec PyProof.Rows
section
variable {X:Cx}
end
end L2
set_option Elab.async false
set_option linter.all false
set_option maxRecDepth 100000
namespace L2
open PySem PySem.Spec PyProof.Rows
section
variable {P:Program} {w:World} {K:PySem.W.Frag} {mg:Str->Option Value} {base:Heap}
end
section
variable {K:PySem.W.Frag} {Δ:Evt} {E:XK} {Xp:Addr->Prop} {nx bk ct:Evt->Prop} {rt:D->Evt->Prop} {ro:OD->Evt->Prop}
end
end L2
set_option Elab.async false
set_option linter.all false
set_option maxRecDepth 100000
namespace L2
open PySem PySem.Spec PyProof.Rows PySem.SeqAt
def rNeF (K:PySem.W.Frag):R2:=fun x y H Q=>Q (.bl false) H/\((x=.non/\y=.non)\/∃ (a b:Addr) (xs:List V),x=.ref a/\y=.ref b/\(∀ v ∈ xs,flatV v=true)/\((SqL K H a xs/\SqL K H b xs)\/(SqT K H a xs/\SqT K H b xs)))
theorem Zi9 {A:Around} {s:Shared} {x:V} {v u:Value} (h:flatV x=true) (rv:RelV x v) (ru:RelV x u):EqAt A s v u true:=by
 cases x with
 | non=>cases (show v=Value.none from rv); cases (show u=Value.none from ru); exact EqAt.same _
 | bl b=>cases (show v=Value.bool b from rv); cases (show u=Value.bool b from ru); exact EqAt.same _
 | int i=>
  obtain ⟨t,rfl⟩:=rv
  obtain ⟨t',rfl⟩:=ru
  have:=EqAt.int_int (A:=A) (s:=s) i t i t'
  rwa [beq_self_eq_true] at this
 | str i=>
  obtain ⟨t,rfl⟩:=rv
  obtain ⟨t',rfl⟩:=ru
  have:=EqAt.str_str (A:=A) (s:=s) i t i t'
  rwa [beq_self_eq_true] at this
 | _=>cases h
section
variable {X:Cx}
theorem neFK (K:PySem.W.Frag) (hv:X.A.units + 8 < cLine) (hK:X.K=K:=by rfl):OpR X (compareOp .NotEq) (rNeF K):=by
 subst hK
 intro pins s σ H x y v u Q I rx ry h
 obtain ⟨q,h⟩:=h
 rcases h with ⟨rfl,rfl⟩ | ⟨a,b,xs,rfl,rfl,hf,h⟩
 ·cases (show v=Value.none from rx); cases (show u=Value.none from ry)
  exact RcNeAt.none_none (A:=X.A) (s:=s) X.prog X.w _ _ ⟨.bl false,H,I,rfl,q⟩
 ·cases rx; cases ry
  have items:∀ {its its2:List Value},Vals xs its->Vals xs its2->∀ j (h1:j < its.toArray.size) (h2:j < its2.toArray.size),EqAt X.A.in1 s its.toArray[j] its2.toArray[j] ((fun _=>true) j):=by
   intro its its2 w1 w2 j h1 h2
   have l1:=w1.length
   have h1':j < its.length:=by simpa using h1
   have h2':j < its2.length:=by simpa using h2
   have hx:j < xs.length:=by omega
   obtain ⟨va,hv1,hv2⟩:=w1.get (List.getElem?_eq_getElem hx)
   obtain ⟨vb,hw1,hw2⟩:=w2.get (List.getElem?_eq_getElem hx)
   rw [List.getElem?_eq_getElem h1'] at hv1
   rw [List.getElem?_eq_getElem h2'] at hw1
   rw [List.getElem_toArray,List.getElem_toArray,Option.some.inj hv1,Option.some.inj hw1]
   exact Zi9 (hf _ (List.getElem_mem hx)) hv2 hw2
  have hu:X.A.units < cLine:=by omega
  rcases h with ⟨h1,h2⟩ | ⟨h1,h2⟩
  ·obtain ⟨its,w1,p1,_⟩:=I.list h1
   obtain ⟨its2,w2,p2,_⟩:=I.list h2
   have l1:=w1.length
   have l2:=w2.length
   refine RcNeAt.lists (A:=X.A) (s:=s) (e:=fun _=>true) p1.isList p2.isList (by rw [List.size_toArray,List.size_toArray]; omega) hu (items w1 w2) X.prog X.w _ _ ?_
   rw [List.all_eq_true.mpr (fun _ _=>rfl)]
   exact ⟨.bl false,H,I,rfl,q⟩
  ·obtain ⟨its,w1,p1,_⟩:=I.tuple h1
   obtain ⟨its2,w2,p2,_⟩:=I.tuple h2
   have l1:=w1.length
   have l2:=w2.length
   refine RcNeAt.tuples (A:=X.A) (s:=s) (e:=fun _=>true) p1 p2 hu (items w1 w2) X.prog X.w _ _ ?_
   rw [List.all_eq_true.mpr (fun _ _=>rfl),show its.toArray.size=its2.toArray.size by rw [List.size_toArray,List.size_toArray]; omega]
   simp only [bne_self_eq_false,beq_self_eq_true,Bool.and_self,Bool.not_true,Bool.or_self]
   exact ⟨.bl false,H,I,rfl,q⟩
end
section
variable {K:PySem.W.Frag} {Δ:Evt} {P:D->Evt->Prop}
def flatE:D->Bool
 | .non=>true
 | .bl _=>true
 | .int _=>true
 | .str _=>true
 | _=>false
theorem Zgj {G:Hp}:∀ {ds:List D} {vs us:List V},(∀ d ∈ ds,flatE d=true)->Reps K G vs ds->Reps K G us ds->vs=us/\∀ v ∈ vs,flatV v=true
 | [],_,_,_,h1,h2=>by cases h1; cases h2; exact ⟨rfl,fun _ z=>by cases z⟩
 | d :: ds,_,_,hf,h1,h2=>by
  cases h1 with
  | cons a1 b1=>
   cases h2 with
   | cons a2 b2=>
    obtain ⟨e,f⟩:=Zgj (fun d hd=>hf d (List.mem_cons_of_mem _ hd)) b1 b2
    subst e
    have h:=hf d List.mem_cons_self
    cases d with
    | non=>cases a1; cases a2; exact ⟨rfl,fun v hv=>(List.mem_cons.mp hv).elim (fun z=>by subst z; rfl) (f v)⟩
    | bl b=>cases a1; cases a2; exact ⟨rfl,fun v hv=>(List.mem_cons.mp hv).elim (fun z=>by subst z; rfl) (f v)⟩
    | int b=>cases a1; cases a2; exact ⟨rfl,fun v hv=>(List.mem_cons.mp hv).elim (fun z=>by subst z; rfl) (f v)⟩
    | str b=>cases a1; cases a2; exact ⟨rfl,fun v hv=>(List.mem_cons.mp hv).elim (fun z=>by subst z; rfl) (f v)⟩
    | _=>cases h
theorem Zmp {ds:List D} (h:∀ d ∈ ds,flatE d=true) (p:P (.bl false) Δ):JR2 K (rNeF K) (.tup ds) (.tup ds) Δ P:=fun g G H σ Q x y k rx ry c=>by
 obtain ⟨_,_,rfl,ha,ra⟩:=rx.inv
 next=>
  obtain ⟨_,_,rfl,hb,rb⟩:=ry.inv
  next=>
   obtain ⟨e,f⟩:=Zgj h ra rb
   subst e
   exact ⟨c _ _ G H Δ k (Same.refl _) (.bl false) p,.inr ⟨_,_,_,rfl,rfl,f,.inr ⟨SqT.of (k.live _ _ ha),SqT.of (k.live _ _ hb)⟩⟩⟩
end
end L2
set_option Elab.async false
set_option linter.all false
set_option maxRecDepth 100000
namespace L2
open PySem PySem.Spec PyProof.Rows
end L2
set_option Elab.async false
set_option linter.all false
set_option maxRecDepth 100000
namespace L2
open PySem PySem.Spec PyProof.Rows
section
variable {K:PySem.W.Frag} {Δ:Evt}
end
end L2
set_option Elab.async false
set_option linter.all false
set_option maxRecDepth 100000
namespace L2
open PySem PySem.Spec PyProof.Rows
section
variable {K:PySem.W.Frag} {Δ:Evt} {E:XK} {Xp:Addr->Prop} {P:D->Evt->Prop}
end
def keyPd:Key->PyData
 | .inl i=>.int i
 | .inr x=>.str x
mutual
def D.pd:D->PyData
 | .non=>.none
 | .bl b=>.bool b
 | .int i=>.int i
 | .str x=>.str x
 | .tup ds=>.tuple (D.pds ds)
 | .lst ds=>.list (D.pds ds)
 | .dct ks ds=>.dict ((ks.map keyPd).zip (D.pds ds))
 | _=>.none
def D.pds:List D->List PyData
 | []=>[]
 | d :: ds=>D.pd d :: D.pds ds
end
section
variable {X:Cx}
end
section
variable {K:PySem.W.Frag} {Δ:Evt} {P:D->Evt->Prop}
theorem Zi2 (p:P (.bl false) Δ):JR2 K (fun x y H Q=>y=.non/\Q (.bl (!decide (x=.non))) H) .non .non Δ P:=fun g G H σ Q u v k rx ry c=>by
 cases rx.inv; cases ry.inv
 refine ⟨rfl,?_⟩
 rw [decide_eq_true rfl]
 exact c _ _ G H Δ k (Same.refl _) (.bl false) p
end
end L2
set_option Elab.async false
set_option linter.all false
set_option maxRecDepth 100000
namespace L2
open PySem PySem.Spec PyProof.Rows
section
variable {X:Cx}
end
section
variable {X:Cx}
end
def PV (K:PySem.W.Frag) (te:TE) (Δ:Evt) (d:D):Prop:=∀ P:D->Evt->Prop,P d Δ -> JE K te Δ P
def PVs (K:PySem.W.Frag) (ta:TA) (Δ:Evt) (ds:List D):Prop:=∀ P:List D->Evt->Prop,P ds Δ -> JA K ta Δ P
def PR2 (K:PySem.W.Frag) (r:R2) (d e:D) (Δ:Evt) (x:D):Prop:=∀ P:D->Evt->Prop,P x Δ -> JR2 K r d e Δ P
section
variable {K:PySem.W.Frag} {Δ:Evt}
theorem Ze7 {te:TE} {d:D} {P:D->Evt->Prop} (h:PV K te Δ d) (p:P d Δ):JE K te Δ P:=h P p
theorem Zpd {ta:TA} {ds:List D} {P:List D->Evt->Prop} (h:PVs K ta Δ ds) (p:P ds Δ):JA K ta Δ P:=h P p
theorem Zcc {i:Nat} {d:D} (h:Δ[i]? = some (.val d)):PV K (tVar i) Δ d:=fun P p=>Zac h p
theorem Zcl {i:Int}:PV K (tC (.int i)) Δ (.int i):=fun P p=>Zao p
theorem Zn5:PVs K tNil Δ []:=fun P p=>Zae p
theorem Zhe {ta:TE} {tr:TA} {d:D} {ds:List D} (h:PV K ta Δ d) (t:PVs K tr Δ ds):PVs K (tCons ta tr) Δ (d :: ds):=fun P p=>Zab (h _ (t _ p))
theorem Zc2 {r:R2} {ta tb:TE} {d e x:D} (a:PV K ta Δ d) (b:PV K tb Δ e) (h:PR2 K r d e Δ x):PV K (tOp r ta tb) Δ x:=fun P p=>Zaq (a _ (b _ (h P p)))
theorem Zow {ds:List D} {i:Int} {d:D} (h:atI ds i=some d):PR2 K (rIxU K) (.tup ds) (.int i) Δ d:=fun P p=>Zbj h p
theorem Zoa {ds:List D} {i:Int} {d:D} (h:atI ds i=some d):PR2 K (rIxU K) (.lst ds) (.int i) Δ d:=fun P p=>Zc0 h p
theorem Zgv {i j:Int}:PR2 K (rAddU K) (.int i) (.int j) Δ (.int (i + j)):=fun P p=>Zck p
theorem Zp6 {f:Int->Int->Int} {i j:Int}:PR2 K (rI0 fun i j=>.int (f i j)) (.int i) (.int j) Δ (.int (f i j)):=fun P p=>Zgt p
theorem pr_I {C:Int->Int->Prop} {f:Int->Int->Int} {i j:Int} (hc:C i j):PR2 K (rI C fun i j=>.int (f i j)) (.int i) (.int j) Δ (.int (f i j)):=fun P p=>jr_I hc p
theorem Zip {ta tb:TE} {ds:List D} {i:Int} {d:D} (a:PV K ta Δ (.tup ds)) (b:PV K tb Δ (.int i)) (h:atI ds i=some d):PV K (tOp (rIxU K) ta tb) Δ d:=Zc2 a b (Zow h)
theorem Zoc {ta tb:TE} {ds:List D} {i:Int} {d:D} (a:PV K ta Δ (.lst ds)) (b:PV K tb Δ (.int i)) (h:atI ds i=some d):PV K (tOp (rIxU K) ta tb) Δ d:=Zc2 a b (Zoa h)
theorem Zf3 {n:Nat} {ds:List D} {i:Int} {d:D} (hx:Δ[n]? = some (.val (.tup ds))) (h:atI ds i=some d):PV K (tOp (rIxU K) (tVar n) (tC (.int i))) Δ d:=Zip (Zcc hx) Zcl h
theorem Znb {ta:TE} {ds:List D} (a:PV K ta Δ (.tup ds)):PV K (tCB (rLenU K) (tCons ta tNil)) Δ (.int ds.length):=fun P p=>Zaw (Zab (a _ (Zae (Zbb (.inr rfl) p))))
end
end L2
set_option Elab.async false
set_option linter.all false
set_option maxRecDepth 100000
namespace L2
open PySem PySem.Spec PyProof.Rows PySem.SeqAt
section
variable {K:PySem.W.Frag} {Δ:Evt} {P:D->Evt->Prop}
end
end L2
set_option Elab.async false
set_option linter.all false
set_option maxRecDepth 100000
namespace L2
open PySem PySem.Spec PyProof.Rows PySem.SeqAt
section
variable {K:PySem.W.Frag} {Δ:Evt}
end
end L2
set_option Elab.async false
set_option linter.all false
set_option maxRecDepth 100000
namespace L2
open PySem PySem.Spec PyProof.Rows
section
variable {K:PySem.W.Frag} {Δ:Evt} {nx bk ct:Evt->Prop} {rt:D->Evt->Prop} {ro:OD->Evt->Prop}
end
end L2
set_option Elab.async false
set_option linter.all false
set_option maxRecDepth 100000
namespace L2
open PySem PySem.Spec PyProof.Rows
section
variable {K:PySem.W.Frag} {Δ:Evt} {P:D->Evt->Prop}
end
end L2
set_option Elab.async false
set_option linter.all false
set_option maxRecDepth 100000
namespace L2
open PySem PySem.Spec PyProof.Rows
section
variable {K:PySem.W.Frag} {Δ:Evt} {P:D->Evt->Prop}
theorem Zod {f:Int->Int->Int} {i j:Int} (p:P (.int (f i j)) Δ):JR2 K (ipI f) (.int i) (.int j) Δ P:=fun g G H σ Q x y k rx ry c=>by
 cases rx.inv; cases ry.inv
 exact ⟨i,j,rfl,rfl,c _ _ G H Δ k (Same.refl _) (.int _) p⟩
end
end L2
set_option Elab.async false
set_option linter.all false
set_option maxRecDepth 100000
namespace HT
open PySem PyProof.Rows
end HT
namespace L2
open PySem PySem.Spec PyProof.Rows
section
variable {K:PySem.W.Frag} {Δ:Evt} {P:D->Evt->Prop}
end
end L2
set_option Elab.async false
set_option linter.all false
set_option maxRecDepth 100000
namespace L2
open PySem PySem.Spec PyProof.Rows
section
variable {prog:Program} {w:World} {A:Around} {R:Result->Shared->Prop} {I:Addr} {fp wr:List Addr} {G:Array GenState->Array GenState->Prop} {n:Nat} {P:Nat->Value->Prop} {St:Nat->Shared->Prop} {K:Type} [DecidableEq K] {knd:KeyKind prog w K}
end
section
variable {X:Cx}
end
end L2
set_option Elab.async false
set_option linter.all false
set_option maxRecDepth 100000
namespace L2
open PySem PySem.Spec PyProof.Rows
end L2
namespace L2
open PySem PySem.Spec PyProof.Rows
section
variable {prog:Program} {w:World} {A:Around} {E:Value->Shared->Prop} {s:Shared}
end
section
variable {K:PySem.W.Frag} {Δ:Evt} {P:D->Evt->Prop}
def onlyV:Slot->Slot
 | .val d=>.val d
 | _=>.any
theorem Zhf {x:Slot}:(onlyV x).od=none:=by cases x <;> rfl
theorem Ok.peek {g:Gm} {G H:Hp} {σ:St} (k:Ok K g G H σ Δ) {i:Nat} {x:Slot} {ds:List D} (h:Δ[i]? = some x) (ho:x.od=some (.lst ds)) :
  ∃ (g':Gm) (G':Hp),Ok K g' G' H σ ((Δ.map onlyV).set i (.val (.lst ds)))/\Same G G' /\ ∀ G2 H2 Δ2,Ok K g' G2 H2 σ Δ2->Ok K g G H2 σ Δ:=by
 obtain ⟨a,o,w1,w2,w3,w4,w5⟩:=k.own i x _ h ho
 cases o with
 | lst vs=>
  have sg:Same G (upd G a (.lst vs)):=fun b u e=>by rw [Zaj (Zak e w4)]; exact e
  have hlt:i < (Δ.map onlyV).length:=by rw [List.length_map]; exact (List.getElem?_eq_some_iff.mp h).1
  refine ⟨⟨fun _=>False,upd G a (.lst vs),H,fun _=>none⟩,upd G a (.lst vs),⟨fun b o _ e=>e,fun b z=>z.elim,fun b o e=>e,fun b o e=>?_,fun b o e=>(by cases e),?_,fun j d e=>?_,fun j y od e1 e2=>?_,fun j l y z od od' b e1 e2 e3 e4=>?_⟩,sg,fun G2 H2 Δ2 k2=>?_⟩
  ·refine ⟨?_,.inr e⟩
   by_cases hb:b=a
   ·subst hb; rw [Zam] at e; cases e; exact w2
   ·rw [Zaj hb] at e; exact k.live b o e
  ·rw [List.length_set,List.length_map]; exact k.len
  ·by_cases hj:j=i
   ·subst hj
    rw [List.getElem?_set_self hlt] at e
    cases e
    exact ⟨.ref a,w1,.lst Zam (Reps.mono sg w3)⟩
   ·rw [List.getElem?_set_ne (Ne.symm hj),List.getElem?_map] at e
    cases z:Δ[j]? with
    | none=>rw [z] at e; cases e
    | some y=>
     rw [z] at e
     cases y with
     | val d'=>
      have e:Slot.val d' = Slot.val d:=Option.some.inj e
      cases e
      obtain ⟨v,q1,q2⟩:=k.val j d z
      exact ⟨v,q1,q2.mono sg⟩
     | _=>cases e
  ·exfalso
   by_cases hj:j=i
   ·subst hj
    rw [List.getElem?_set_self hlt] at e1
    cases e1; cases e2
   ·rw [List.getElem?_set_ne (Ne.symm hj),List.getElem?_map] at e1
    cases z:Δ[j]? with
    | none=>rw [z] at e1; cases e1
    | some y=>
     rw [z] at e1
     have e1:onlyV y=_:=Option.some.inj e1
     rw [<- e1,Zhf] at e2
     cases e2
  ·exfalso
   by_cases hj:j=i
   ·subst hj
    rw [List.getElem?_set_self hlt] at e1
    cases e1; cases e2
   ·rw [List.getElem?_set_ne (Ne.symm hj),List.getElem?_map] at e1
    cases z:Δ[j]? with
    | none=>rw [z] at e1; cases e1
    | some y=>
     rw [z] at e1
     have e1:onlyV y=_:=Option.some.inj e1
     rw [<- e1,Zhf] at e2
     cases e2
  ·have kp:∀ b o,H b=some o->H2 b=some o:=fun b o e=>k2.same b o (fun z=>z) e
   refine ⟨fun b o n e=>kp b o (k.same b o n e),fun b n z=>?_,k.sub,fun b o e=>⟨kp b o (k.frz b o e).1,(k.frz b o e).2⟩,fun b o e=>?_,k.len,k.val,fun j y od e1 e2=>?_,k.dis⟩
   ·cases e:H b with
    | none=>exact k.lent b n e
    | some o=>rw [kp b o e] at z; cases z
   ·obtain ⟨q1,q2,q3⟩:=k.ext b o e
    exact ⟨kp b o q1,q2,q3⟩
   ·obtain ⟨b,o,q1,q2,q3⟩:=k.own j y od e1 e2
    exact ⟨b,o,q1,kp b o q2,q3⟩
 | _=>exact absurd w3 (fun z=>z)
def plnD:D->Prop
 | .int _=>True
 | .bl _=>True
 | .non=>True
 | .str _=>True
 | _=>False
theorem Zmy {G G':Hp} {v:V} {d:D} (h:plnD d) (r:Rep K G v d):Rep K G' v d:=by
 cases d with
 | int i=>cases r.inv; exact .int i
 | bl b=>cases r.inv; exact .bl b
 | non=>cases r.inv; exact .non
 | str x=>cases r.inv; exact .str x
 | _=>exact h.elim
theorem Zj0 {i:Nat} {x:Slot} {ds:List D} {t:TT} {Pb:Bool->Evt->Prop} (h:Δ[i]? = some x) (ho:x.od=some (.lst ds)) (p:JT K t ((Δ.map onlyV).set i (.val (.lst ds))) fun b _=>Pb b Δ):JT K t Δ Pb:=fun g G H σ Q k c=>by
 obtain ⟨g',G',k',_,back⟩:=k.peek h ho
 exact p g' G' H σ Q k' fun b G2 H2 Δ2 k2 _ q=>c b G H2 Δ (back G2 H2 Δ2 k2) (Same.refl _) q
theorem Zmj {i:Nat} {x:Slot} {ds:List D} {t:TE} (h:Δ[i]? = some x) (ho:x.od=some (.lst ds)) (p:JE K t ((Δ.map onlyV).set i (.val (.lst ds))) fun d _=>plnD d/\P d Δ):JE K t Δ P:=fun g G H σ Q k c=>by
 obtain ⟨g',G',k',_,back⟩:=k.peek h ho
 exact p g' G' H σ Q k' fun v d G2 H2 Δ2 k2 _ r q=>c v d G H2 Δ (back G2 H2 Δ2 k2) (Same.refl _) (Zmy q.1 r) q.2
end
end L2
namespace L2
open PySem PySem.Spec PyProof.Rows
def rNeL0 (K:PySem.W.Frag):R2:=fun x y H Q=>∃ (a b:Addr) (xs:List V),x=.ref a/\y=.ref b/\SqL K H a xs/\SqL K H b []/\Q (.bl (!xs.isEmpty)) H
theorem neL0K {X:Cx} (K:PySem.W.Frag) (hu:X.A.units + 1 < cLine) (hK:X.K=K:=by rfl):OpR X (compareOp .NotEq) (rNeL0 K):=by
 subst hK
 intro pins s σ H x y v u Q I rx ry h
 obtain ⟨a,b,xs,rfl,rfl,h1,h2,q⟩:=h
 cases rx; cases ry
 obtain ⟨its,w1,p1,_⟩:=I.list h1
 obtain ⟨its2,w2,p2,_⟩:=I.list h2
 cases w2
 cases w1 with
 | nil=>exact PySem.SeqAt.RcNeAt.lists (A:=X.A) (s:=s) (e:=fun _=>true) p1.isList p2.isList rfl (by omega) (fun j _ z=>absurd z (by simp)) X.prog X.w _ _ ⟨.bl _,H,I,rfl,q⟩
 | cons r t=>exact PySem.SeqAt.RcNeAt.lists_lengths (A:=X.A) (s:=s) p1.isList p2.isList (by simp) (by omega) X.prog X.w _ _ ⟨.bl _,H,I,rfl,q⟩
section
variable {K:PySem.W.Frag} {Δ:Evt} {P:D->Evt->Prop}
theorem Znn {ds:List D} (p:P (.bl (!ds.isEmpty)) Δ):JR2 K (rNeL0 K) (.lst ds) (.lst []) Δ P:=fun g G H σ Q x y k rx ry c=>by
 obtain ⟨_,_,rfl,ha,ra⟩:=rx.inv
 obtain ⟨_,_,rfl,hb,rb⟩:=ry.inv
 cases rb.inv
 refine ⟨_,_,_,rfl,rfl,SqL.of (k.live _ _ ha),SqL.of (k.live _ _ hb),?_⟩
 rw [ra.isEmpty]
 exact c _ _ G H Δ k (Same.refl _) (.bl _) p
end
end L2
set_option Elab.async false
set_option linter.all false
set_option maxRecDepth 100000
namespace L2
open PySem PySem.Spec PyProof.Rows PySem.SeqAt
section
variable {prog:Program} {w:World} {A:Around} {E:Value->Shared->Prop} {s:Shared}
end
section
variable {K:PySem.W.Frag} {Δ:Evt}
end
end L2
set_option Elab.async false
set_option linter.all false
set_option maxRecDepth 100000
namespace L2
open PySem PySem.Spec PyProof.Rows PySem.SeqAt
section
open PySem.AutoSeq1 (wpAny_loadPart')
open PySem.MeetsSeq PySem.MeetsSeq2 PySem.MeetsSeq3
end
section
variable {prog:Program} {w:World} {A:Around} {R:Result->Shared->Prop} {I:Addr} {fp wr:List Addr} {n:Nat} {P:Nat->Value->Prop} {St:Nat->Heap->Prop}
end
end L2
namespace L2
open PySem PySem.Spec PyProof.Rows PySem.SeqAt
def RowV (K:PySem.W.Frag) (H:Hp) (y:V) (r:List Int):Prop:=∃ b,y=.ref b/\SqT K H b (r.map V.int)
section
variable {X:Cx}
theorem row_at {pins:List (Addr × Obj)} {s:Shared} {σ:St} {H:Hp} (I:Inv X pins σ H s) {y:V} {u:Value} {r:List Int} (ru:RelV y u) (h:RowV X.K H y r):RowAt s.heap u r:=by
 obtain ⟨b,rfl,hs⟩:=h
 obtain ⟨its,w1,p1,_⟩:=I.tuple hs
 exact ⟨b,its,ru,p1,Zby w1⟩
end
end L2
set_option Elab.async false
set_option linter.all false
set_option maxRecDepth 100000
namespace L2
open PySem PySem.Spec PyProof.Rows PySem.SeqAt
section
variable {K:PySem.W.Frag} {Δ:Evt} {P:D->Evt->Prop}
theorem Zo7 (p:P (.bl true) Δ):JR2 K (fun x y H Q=>y=.non/\Q (.bl (decide (x=.non))) H) .non .non Δ P:=fun g G H σ Q u v k rx ry c=>by
 cases rx.inv; cases ry.inv
 refine ⟨rfl,?_⟩
 rw [decide_eq_true rfl]
 exact c _ _ G H Δ k (Same.refl _) (.bl true) p
theorem Znd {ds:List D} (p:P (.bl false) Δ):JR2 K (fun x y H Q=>y=.non/\Q (.bl (decide (x=.non))) H) (.tup ds) .non Δ P:=fun g G H σ Q u v k rx ry c=>by
 obtain ⟨a,vs,rfl,_,_⟩:=rx.inv
 cases ry.inv
 refine ⟨rfl,?_⟩
 rw [decide_eq_false (by intro z; cases z)]
 exact c _ _ G H Δ k (Same.refl _) (.bl _) p
end
end L2
set_option Elab.async false
set_option linter.all false
set_option maxRecDepth 100000
namespace L2
open PySem PySem.Spec PyProof.Rows PySem.SeqAt
section
variable {X:Cx}
def ipC (C:Int->Int->Prop) (f:Int->Int->Int):TIp:=fun x y H Q=>∃ i j,x=.int i/\y=.int j/\C i j/\Q (.int (f i j)) H
theorem Zot:PIp X .Mult (ipC CMul fun i j=>i * j):=by
 intro pins s σ H x y v u Q I r1 r2 h
 obtain ⟨i,j,e1,e2,hc,q⟩:=h
 subst e1; subst e2
 obtain ⟨t,rfl⟩:=r1
 obtain ⟨t',rfl⟩:=r2
 exact imul_int ⟨.int _,H,I.tok _,⟨_,rfl⟩,q⟩ hc.ok
end
section
variable {K:PySem.W.Frag} {Δ:Evt} {P:D->Evt->Prop}
theorem Zo0 {i j:Int} (hc:CMul i j) (p:P (.int (i * j)) Δ):JR2 K (ipC CMul fun i j=>i * j) (.int i) (.int j) Δ P:=fun g G H σ Q x y k rx ry c=>by
 cases rx.inv; cases ry.inv
 exact ⟨i,j,rfl,rfl,hc,c _ _ G H Δ k (Same.refl _) (.int _) p⟩
theorem Zni {te:TE} {tl th:TO} {Po:OD->Evt->Prop} (h:JE K te Δ fun d Δ1=>JO2 tl Δ1 K fun lo Δ2=>JO2 th Δ2 K fun hi Δ3=>∃ ds,d=.lst ds/\Po (.lst (cutD ds lo hi)) Δ3):JO K (tSl (rSlU K) te tl th) Δ Po:=fun g G H σ Q k c=>
 h g G H σ _ k fun v d G1 H1 Δ1 k1 s1 r1 p1=>p1 g G1 H1 σ _ k1 fun lo G2 H2 Δ2 k2 s2 p2=>p2 g G2 H2 σ _ k2 fun hi G3 H3 Δ3 k3 s3 hq_=>by
  obtain ⟨ds,rfl,p⟩:=hq_
  obtain ⟨a,vs,rfl,ha,rs⟩:=(r1.mono (s2.trans s3)).inv
  refine .inl ⟨_,_,rfl,SqL.of (k3.live _ _ ha),fun q hq=>?_⟩
  obtain ⟨k4,pd⟩:=k3.fresh (od:=.lst (cutD ds lo hi)) hq (show OwnRep K G3 (.lst (cutV vs lo hi)) (.lst (cutD ds lo hi)) from by
   show Reps K G3 _ _
   unfold cutV cutD
   rw [rs.length]; exact (rs.drop _).take _)
  exact c q _ G3 _ Δ3 k4 (s1.trans (s2.trans s3)) pd p
end
end L2
set_option Elab.async false
set_option linter.all false
set_option maxRecDepth 100000
namespace L2
open PySem PySem.Spec PyProof.Rows PySem.SeqAt
end L2
set_option Elab.async false
set_option linter.all false
set_option maxRecDepth 100000
namespace L2
open PySem PySem.Spec PyProof.Rows PySem.SeqAt
theorem Zg2:bootBuiltins "reversed" = some (.type "reversed"):=by decide +kernel
section
variable {K:PySem.W.Frag} {Δ:Evt}
end
section
variable {X:Cx}
end
end L2
set_option Elab.async false
set_option linter.all false
set_option maxRecDepth 100000
namespace L2
open PySem PySem.Spec PyProof.Rows PySem.SeqAt
section
variable {prog:Program} {w:World} {A:Around} {E:Value->Shared->Prop} {s:Shared}
theorem Zdo {l:Addr} {a b c:Int} {t0 t1 t2:Tok} {Q:(Int × Int × Int)->Shared->Prop} (l1:s.heap.get? l=some { cls:=.type "range",data:=.fields #[.int a t0,.int b t1,.int c t2] }) (h:Q (a,b,c) s):wpAny (model prog w) A (Builtin.Range.rangeFields (.ref l)) Q E s:=by
 unfold Builtin.Range.rangeFields
 refine wpAny_bind (wpAny_field l1 rfl (x:=.int a t0) rfl ?_)
 refine wpAny_bind (wpAny_pure ?_)
 refine wpAny_bind (wpAny_field l1 rfl (x:=.int b t1) rfl ?_)
 refine wpAny_bind (wpAny_pure ?_)
 refine wpAny_bind (wpAny_field l1 rfl (x:=.int c t2) rfl ?_)
 refine wpAny_bind (wpAny_pure ?_)
 exact wpAny_pure h
end
theorem Zko {n:Int} (h0:0<=n) (hn:n<=1000):(Builtin.Range.rangeFitsLong 0 && Builtin.Range.rangeFitsLong n && Builtin.Range.rangeFitsLong 1 && Builtin.Range.rangeFitsLong (-1) && Builtin.Range.rangeFitsLong (0 - 1) && Builtin.Range.rangeFitsLong n)=true:=by
 simp only [Builtin.Range.rangeFitsLong,Bool.and_eq_true,decide_eq_true_eq]
 omega
theorem Zlj (l:Addr) (t0 t1 t2:Tok) (n:Int) (h0:0<=n) (hn:n<=1000) :
  Meets (Builtin.«range.__reversed__» ⟨[.ref l],[]⟩) (fun _ R s=>s.heap.get? l=some { cls:=.type "range",data:=.fields #[.int 0 t0,.int n t1,.int 1 t2] } ∧
   R (.ok (.ret (.ref s.heap.objs.size))) { s with heap:=s.heap.push { cls:=.type "range_iterator",data:=.fields #[rawInt (0 + (n - 1) * 1),rawInt n,rawInt (-1)] } }):=.of_wp fun prog w A R s h=>by
 obtain ⟨hp,g,d,tk,os⟩:=s; obtain ⟨l1,h⟩:=h
 unfold Builtin.«range.__reversed__»
 refine wpAny_bind (wpAny_of_eq (a:=Value.ref l) (by first | rfl | kernel_rfl) ?_)
 refine wpAny_bind (Zdo (s:=⟨hp,g,d,tk,os⟩) l1 ?_)
 have e1:Builtin.Range.rangeSize 0 n 1=n:=by rw [rangeSize_one]; split <;> omega
 have e2:=Zko h0 hn
 simp only [e1,e2,Bool.not_true,Bool.false_eq_true,if_false,if_true]
 refine wpAny_bind (show wpAny _ _ (newObj (.type "range_iterator") (.fields #[rawInt (0 + (n - 1) * 1),rawInt n,rawInt (-1)])) _ _ _ from wpAny_newObj_type ?_)
 exact wpAny_pure ⟨_,rfl,h⟩
theorem Zd2:isSubtype (.type "range_iterator") (.type "reversed")=pure false:=by rw [isSubtype_type]; kernel_rfl
section
variable {prog:Program} {w:World} {A:Around} {E:Value->Shared->Prop} {s:Shared}
theorem Zm0 {l:Addr} {t0 t1 t2:Tok} {n:Int} {Q₁:Value->Shared->Prop} (h0:0<=n) (hn:n<=1000) (hl:s.heap.get? l=some { cls:=.type "range",data:=.fields #[.int 0 t0,.int n t1,.int 1 t2] })
  (h:Q₁ (.ref s.heap.objs.size) { s with heap:=s.heap.push { cls:=.type "range_iterator",data:=.fields #[rawInt (0 + (n - 1) * 1),rawInt n,rawInt (-1)] } }) :
  codeAny (model prog w) A (.call (.builtin "reversed.__new__") ⟨[.type "reversed",.ref l],[]⟩) (wants Q₁ E) s:=by
 have ty:s.TypeIs (.ref l) "range":=⟨_,hl,rfl⟩
 refine codeAny_of_tree ?_
 show wpAny _ A.in1 (do checkBuiltinCall "reversed.__new__" ⟨[.type "reversed",.ref l],[]⟩; again (.builtin "reversed.__new__" ⟨[.type "reversed",.ref l],[]⟩)) _ _ s
 refine wpAny_bind (wpAny_of_eq (F.newCall_reversed_1 _) (wpAny_pure ⟨plainId_quiet F.plain_reversed_new _,codeAny_builtin F.entry_reversed_new ?_⟩))
 rw [Around.under_plainId F.plain_reversed_new _]
 unfold Builtin.«reversed.__new__»
 refine wpAny_bind (wpAny_of_eq (newClass_reversed _) ?_)
 try dsimp only
 refine wpAny_bind (wpAny_of_eq (a:=()) (by first | rfl | kernel_rfl) ?_)
 refine wpAny_bind (wpAny_of_eq (a:=()) (by first | rfl | kernel_rfl) ?_)
 try dsimp only
 refine wpAny_bind (wpAny_specialOf ty F.slot_range_reversed.lookup ?_)
 try dsimp only
 refine wpAny_bind (wpAny_of_eq (F.slot_range_reversed.bind _) ?_)
 try dsimp only
 first
 | rw [if_neg (show ¬ ((Value.builtin "range.__reversed__" == Value.none)=true) from Bool.false_ne_true)]
 | (show wpAny _ _ (if (Value.builtin "range.__reversed__" == Value.none)=true then _ else _) _ _ _; rw [if_neg (show ¬ ((Value.builtin "range.__reversed__" == Value.none)=true) from Bool.false_ne_true)])
 refine wpAny_bind (wpAny_rule ?_)
 refine wpAny_bind (m:=runValue (.call (.builtin "range.__reversed__") ⟨[.ref l],[]⟩)) (show wpAny _ _ (call (.builtin "range.__reversed__") [.ref l]) _ _ _ from call_meets F.slot_range_reversed ty F.entry_range_reversed (F.args_range_reversed_1 _) (Zlj l t0 t1 t2 n h0 hn) ⟨hl,?_⟩)
 first
 | exact wpAny_pure h
 | exact wpAny_bind (wpAny_pure (wpAny_pure h))
theorem Zm2 {l:Addr} {t0 t1 t2:Tok} {n:Int} {Q:Value->Shared->Prop} (h0:0<=n) (hn:n<=1000) (hl:s.heap.get? l=some { cls:=.type "range",data:=.fields #[.int 0 t0,.int n t1,.int 1 t2] })
  (h:Q (.ref s.heap.objs.size) { s with heap:=s.heap.push { cls:=.type "range_iterator",data:=.fields #[rawInt (0 + (n - 1) * 1),rawInt n,rawInt (-1)] } }):wpAny (model prog w) A (call (.type "reversed") [.ref l]) Q E s:=by
 refine callType_other (U:="range_iterator") (Q₁:=fun obj s₁=>obj=.ref s.heap.objs.size/\s₁ = { s with heap:=s.heap.push { cls:=.type "range_iterator",data:=.fields #[rawInt (0 + (n - 1) * 1),rawInt n,rawInt (-1)] } }) (by decide +kernel) F.create_reversed ⟨_,_,F.mro_reversed⟩ F.made_reversed Zd2 (F.typeCall_reversed_1 _) (Zm0 h0 hn hl ⟨rfl,rfl⟩) ?_
 rintro obj s₁ ⟨rfl,rfl⟩
 exact ⟨⟨_,Heap.get?_push_size _ rfl,rfl⟩,h⟩
end
section
variable {X:Cx} {tg:Expr}
def iRevR (ta:TA):TI:=fun σ H R=>ta σ H fun vs H1=>∃ n:Nat,vs=[.int (n:Int)]/\n<=1000/\R (Itc ((n:Int) - 1) (-1) n) H1
theorem Zgq {a:Expr} {ta:TA} {p p2 pos pos2:Pos} (hgV:Gl X "reversed") (hmV:X.mg "reversed" = none) (hgR:Gl X "range") (hmR:X.mg "range" = none) (ha:PA X [a] ta) (hs:starEach [a] X.env=[(false,eval a X.env)]:=by rfl)
  (he:starEach [.Call (.Name "range" p2) [a] [] pos2] X.env=[(false,eval (.Call (.Name "range" p2) [a] [] pos2) X.env)]:=by rfl) :
  PI X tg (.Call (.Name "reversed" p) [.Call (.Name "range" p2) [a] [] pos2] [] pos) (iRevR ta):=by
 intro pins s σ H R I h
 refine Call_ (Zcy I hgV hmV Zg2 ?_)
 refine PyProof.Rows.callWith_type1 ?_ he rfl
 rw [he]
 show wpAny _ _ (spliced ((false,eval (.Call (.Name "range" p2) [a] [] pos2) X.env) :: backTo pos [])) _ _ s
 refine Calls.spliced_cons ?_
 refine Call_ (Zcy I hgR hmR boot_range (PyProof.Rows.callWith_type1 (thn (ha pos2 pins s σ H _ I h) fun us s1 ⟨vs,H1,I1,r1,q1⟩=>?_) hs rfl))
 obtain ⟨n,e,hn,q⟩:=q1
 subst e
 cases r1 with
 | cons r rr=>
  cases rr
  obtain ⟨t,rfl⟩:=r
  refine call_range_1 (Calls.spliced_nil ?_)
  have I2:Inv X pins σ H1 { s1 with heap:=s1.heap.push { cls:=.type "range",data:=.fields #[.int 0 s1.toks,.int (n:Int) t,.int 1 (s1.toks + 1)] },toks:=s1.toks + 1 + 1 }:=I1.kept fun b o e=>Heap.get?_push_of_some _ e
  refine Zm2 (by omega) (by omega) (Heap.get?_push_size _ rfl) ?_
  rw [show (0:Int) + ((n:Int) - 1) * 1=(n:Int) - 1 by omega]
  refine wpAny_pyIter_rangeiter (Heap.get?_push_size _ rfl) ?_
  refine ⟨_,[_],_,_,H1,rfl,I2.kept (t':=s1.toks + 1 + 1) fun b o e=>Heap.get?_push_of_some _ e,Zf1 _ ((n:Int) - 1) (-1) n,?_,fun b hb=>?_,q⟩
  ·show IsRangeIter _ _ ((n:Int) - 1 + ((0:Nat):Int) * (-1)) ((n:Int) - ((0:Nat):Int)) (-1)
   have e1:(n:Int) - 1 + ((0:Nat):Int) * (-1)=(n:Int) - 1:=by simp
   have e2:(n:Int) - ((0:Nat):Int)=(n:Int):=by omega
   rw [e1,e2]
   exact Heap.get?_push_size _ rfl
  ·rw [List.mem_singleton.mp hb]
   exact I2.fpOk (Nat.le_refl _) (I2.hok.fresh (Nat.le_refl _))
end
section
variable {K:PySem.W.Frag} {Δ:Evt}
theorem Zg3 {ta:TA} {P:List D->Evt->Prop} (h:JA K ta Δ fun ds Δ1=>∃ n:Nat,ds=[.int (n:Int)]/\n<=1000/\P (stpD ((n:Int) - 1) (-1) n) Δ1):JI K (iRevR ta) Δ P:=fun g G H σ R k c=>
 h g G H σ _ k fun vs ds G1 H1 Δ1 k1 s1 r1 hq_=>by
  obtain ⟨n,e,hn,p1⟩:=hq_
  subst e
  obtain ⟨_,_,rfl,ra,rr⟩:=r1.inv
  cases rr.inv
  cases ra.inv
  exact ⟨n,rfl,hn,c _ _ G1 H1 Δ1 k1 s1 (Zhp _ _ n) p1⟩
end
theorem Zih (n:Nat):sliceBounds none none (some (-1)) n=((n:Int) - 1,-1,-1):=by
 unfold sliceBounds
 simp
theorem Zff (xs:Array Value):slicePick xs none none (some (-1))=xs.toList.reverse.toArray:=by
 unfold slicePick
 rw [Zih]
 unfold sliceRange
 have hc:(if (-1:Int) > 0 then (if (xs.size:Int) - 1 < -1 then (-1 - ((xs.size:Int) - 1) + -1 - 1) / -1 else 0) else (if (xs.size:Int) - 1 > -1 then ((xs.size:Int) - 1 - -1 - -1 - 1) / (- -1) else 0)).toNat=xs.size:=by
  rw [if_neg (by decide)]
  split
  ·rw [show -(-1:Int)=1 by rfl,Int.ediv_one]; omega
  ·omega
 dsimp only
 rw [hc,List.filterMap_map]
 rw [<- HT.pick_rev]
 congr 2
 funext m
 show xs[((xs.size:Int) - 1 + -1 * (m:Int)).toNat]? = _
 rw [Int.mul_comm]
section
variable {X:Cx}
def tSlRL (K:PySem.W.Frag) (te:TE):TE:=fun σ H Q=>te σ H fun x H1=>∃ a xs,x=.ref a/\SqL K H1 a xs/\∀ p,H1 p=none->Q (.ref p) (upd H1 p (.lst xs.reverse))
theorem slRLK (K:PySem.W.Frag) {e:Expr} {te:TE} {pos p2 p3 p4:Pos} {k:Nat} (he:PE X e te) (hK:X.K=K:=by rfl):PE X (.Subscript e (.Slice none none (some (.UnaryOp .USub (.Constant (.int 1) k p4) p3)) p2) pos) (tSlRL K te):=by
 subst hK
 intro pins s σ H Q I h
 refine Subscript_ (thn (he pins s σ H _ I h) fun v s1 ⟨x,H1,I1,r1,q1⟩=>?_)
 obtain ⟨a,xs,rfl,hx,q⟩:=q1
 cases r1
 refine wpAny_Slice ?_
 rw [evalPart_none]
 refine wpAny_pure (wpAny_pure ?_)
 have st:=Zbl (X:=X) (Zk6 Zhq (Zag (X:=X) (i:=1) (j:=k) (pos:=p4))) (e:=.UnaryOp .USub (.Constant (.int 1) k p4) p3) pins s1 σ H1 (fun o H2=>o=some (-1)/\H2=H1) I1 ⟨1,rfl,-1,rfl,rfl,rfl⟩
 refine thn st fun u s2 ⟨o,H2,I2,pu,e1,e2⟩=>?_
 subst e1; subst e2
 cases pu with
 | int i t=>
  have I3:Inv X pins σ H2 { s2 with heap:=s2.heap.push { cls:=.type "slice",data:=.fields #[.none,.none,.int (-1) t] } }:=I2.kept (t':=s2.toks) fun b ob q=>Heap.get?_push_of_some _ q
  obtain ⟨its,r,ht,hz⟩:=I3.list hx
  have hlen:=r.length
  show wpAny (model X.prog X.w) X.A (subscriptTail e (.Slice none none (some (.UnaryOp .USub (.Constant (.int 1) k p4) p3)) p2) (.ref a) (.ref s2.heap.objs.size)) (EP X pins σ Q) X.xe { s2 with heap:=s2.heap.push { cls:=.type "slice",data:=.fields #[.none,.none,.int (-1) t] } }
  refine tail_any (ops:=[.ref a,.ref s2.heap.objs.size]) ht.isList.typeIs slot_list_getitem.lookup (wpAny_getItem_list_slice ht.isList (Heap.IsSliceOf.new ..) .none .none (.int (-1) t) (by simp) ?_ (by rw [List.size_toArray] <;> omega)) (by with_unfolding_all rfl)
  rw [Zff]
  refine ⟨.ref _,_,I3.laid (t':=s2.toks) (o:=.lst xs.reverse) (fun b ob q=>Heap.get?_push_of_some _ q) (Nat.le_refl _) ?_,rfl,q _ (I3.hok.fresh (Nat.le_refl _))⟩
  exact ⟨by rw [List.length_reverse]; exact hz,_,0,r.reverse,Heap.get?_push_size _ rfl⟩
end
section
variable {K:PySem.W.Frag} {Δ:Evt} {P:D->Evt->Prop}
theorem Znh {te:TE} (h:JE K te Δ fun d Δ1=>∃ ds,d=.lst ds/\P (.lst ds.reverse) Δ1):JE K (tSlRL K te) Δ P:=fun g G H σ Q k c=>
 h g G H σ _ k fun v d G1 H1 Δ1 k1 s1 r1 hq_=>by
  obtain ⟨ds,rfl,p⟩:=hq_
  obtain ⟨a,vs,rfl,ha,rs⟩:=r1.inv
  refine ⟨a,vs,rfl,SqL.of (k1.live _ _ ha),fun q hq=>?_⟩
  obtain ⟨k2,sg⟩:=k1.laid hq (.lst vs.reverse)
  exact c _ _ _ _ Δ1 k2 (s1.trans sg) (.lst Zam (Reps.mono sg rs.reverse)) p
end
section
variable {X:Cx}
def CMulB (i j:Int):Prop:=(0<=i/\i < 2 ^ 500)/\(0<=j/\j < 2 ^ 500)
theorem Zd3 {k:Int} (h1:0<=k) (h2:k < 2 ^ 500):Builtin.Int.intBits k<=500:=by
 unfold Builtin.Int.intBits
 split
 ·exact Nat.zero_le _
 ·have hn:k.natAbs < 2 ^ 500:=by omega
  have:k.natAbs.log2 < 500:=by
   rcases Nat.eq_zero_or_pos k.natAbs with h0 | hp
   ·rw [h0]; decide
   ·exact (Nat.log2_lt (Nat.ne_of_gt hp)).mpr hn
  omega
theorem CMulB.ok {i j:Int} (h:CMulB i j):IntMulOk i j:=by
 have a:=Zd3 h.1.1 h.1.2
 have b:=Zd3 h.2.1 h.2.2
 unfold IntMulOk
 have c:Builtin.Int.intTooBig (Builtin.Int.intBits i + Builtin.Int.intBits j)=false:=by
  unfold Builtin.Int.intTooBig
  rw [decide_eq_false]
  have:(2000:Nat)<=bitsLine:=by decide
  omega
 rw [c,Bool.and_false]
 exact Bool.false_ne_true
theorem Ze5:OpR X (binaryOp .Mult) (rI CMulB fun i j=>.int (i * j)):=opI fun _ _ _ _ _ _ _ hc q=>mul_int q hc.ok
theorem Znk:PIp X .Mult (ipC CMulB fun i j=>i * j):=by
 intro pins s σ H x y v u Q I r1 r2 h
 obtain ⟨i,j,e1,e2,hc,q⟩:=h
 subst e1; subst e2
 obtain ⟨t,rfl⟩:=r1
 obtain ⟨t',rfl⟩:=r2
 exact imul_int ⟨.int _,H,I.tok _,⟨_,rfl⟩,q⟩ hc.ok
def CDivC (i j:Int):Prop:=0 < j/\j < 2 ^ 500
theorem Zhg {i j:Int} (h1:0 < j) (h2:j < 2 ^ 500):Builtin.divisionGoesByPylong i j=false:=by
 refine PyProof.noPylong_of_log2 ?_
 have h4:j.natAbs < 2 ^ 500:=by omega
 exact Nat.lt_trans ((Nat.log2_lt (by omega)).2 h4) (by decide)
theorem Zfh:OpR X (binaryOp .FloorDiv) (rI CDivC fun i j=>.int (i / j)):=opI fun i j _ _ _ _ _ hc q=>by
 have h1:(0:Int) < j:=hc.1
 exact floordiv_int (by omega) (by rw [Int.fdiv_eq_ediv_of_nonneg i (by omega)]; exact q) (.inl (Zhg h1 hc.2))
def rDmB:List V->Hp->VK->Prop:=fun xs H Q=>∃ i j,xs=[.int i,.int j]/\0 < j/\j < 2 ^ 500/\∀ l,H l=none->Q (.ref l) (upd H l (.tup [.int (i / j),.int (i % j)]))
theorem Zh2:CallR X (.builtin "divmod") rDmB:=by
 intro pins s σ H xs us Q I r h
 obtain ⟨i,j,rfl,h1,h2,q⟩:=h
 obtain ⟨u,w',rfl,⟨t,rfl⟩,⟨t',rfl⟩⟩:=vals2 r
 refine divmod_int (by omega) ?_ (.inl (Zhg h1 h2))
 rw [Int.fdiv_eq_ediv_of_nonneg i (by omega),Int.fmod_eq_emod_of_nonneg i (by omega)]
 refine ⟨.ref s.heap.objs.size,_,I.laid (t':=s.toks + 1 + 1) (o:=.tup [.int (i / j),.int (i % j)]) (fun b ob q=>Heap.get?_push_of_some _ q) (Nat.le_refl _) ?_,rfl,q _ (I.hok.fresh (Nat.le_refl _))⟩
 exact ⟨(by rw [sizeLine_eq]; simp:2<=sizeLine),[_,_],.cons ⟨_,rfl⟩ (.cons ⟨_,rfl⟩ .nil),IsTupN.new _ _⟩
end
section
variable {K:PySem.W.Frag} {Δ:Evt} {P:D->Evt->Prop}
theorem Znt {i j:Int} (hc:CMulB i j) (p:P (.int (i * j)) Δ):JR2 K (ipC CMulB fun i j=>i * j) (.int i) (.int j) Δ P:=fun g G H σ Q x y k rx ry c=>by
 cases rx.inv; cases ry.inv
 exact ⟨i,j,rfl,rfl,hc,c _ _ G H Δ k (Same.refl _) (.int _) p⟩
theorem Zl8 {i j:Int} (h1:0 < j) (h2:j < 2 ^ 500) (p:P (.tup [.int (i / j),.int (i % j)]) Δ):JC K rDmB [.int i,.int j] Δ P:=fun g G H σ Q vs k rs c=>by
 obtain ⟨_,_,rfl,r,t⟩:=rs.inv
 obtain ⟨_,_,rfl,r',t⟩:=t.inv
 cases t.inv; cases r.inv; cases r'.inv
 refine ⟨i,j,rfl,h1,h2,fun l hl=>?_⟩
 obtain ⟨k2,sg⟩:=k.laid hl (.tup _)
 exact c _ _ _ _ Δ k2 sg (.tup Zam (.cons (.int _) (.cons (.int _) .nil))) p
end
end L2
set_option Elab.async false
set_option linter.all false
set_option maxRecDepth 100000
set_option maxHeartbeats 4000000
namespace Lw
open PySem L2
def top (i:Nat):Stmt:=PySem.Challenge.pw_holefloor_k07_whole_orders_numbered.main.body.getD i (.Pass ⟨0,0,0,0⟩)
abbrev s_is_whole:Stmt:=top 4
abbrev s_ends_at:Stmt:=top 6
abbrev s_place_of:Stmt:=top 7
abbrev s_orders_many:Stmt:=top 9
abbrev s_rows_many:Stmt:=top 10
abbrev s_order_at:Stmt:=top 11
abbrev s_row_at:Stmt:=top 12
abbrev s_number_of:Stmt:=top 13
abbrev s_row_number:Stmt:=top 14
abbrev s_law_pen:Stmt:=top 16
abbrev s_law_draw:Stmt:=top 17
abbrev s_law_web:Stmt:=top 18
abbrev s_law_order:Stmt:=top 19
abbrev s_law_whole:Stmt:=top 20
abbrev s_law_ends:Stmt:=top 21
abbrev s_law_same:Stmt:=top 22
abbrev s_law_ways:Stmt:=top 23
abbrev s_law_many:Stmt:=top 24
abbrev s_law_is_order:Stmt:=top 25
abbrev s_law_behind:Stmt:=top 26
abbrev s_law_later:Stmt:=top 27
abbrev s_law:Stmt:=top 28
theorem sc_is_whole:FnScope ["thing"] ["thing"] (defScope s_is_whole):=⟨rfl,rfl,rfl,by decide +kernel,rfl,by decide +kernel,by decide +kernel⟩
theorem sc_ends_at:FnScope ["web","place"] ["web","place"] (defScope s_ends_at):=⟨rfl,rfl,rfl,by decide +kernel,rfl,by decide +kernel,by decide +kernel⟩
theorem sc_place_of:FnScope ["web","end"] ["web","end"] (defScope s_place_of):=⟨rfl,rfl,rfl,by decide +kernel,rfl,by decide +kernel,by decide +kernel⟩
theorem sc_orders_many:FnScope ["web","product","place"] ["web"] (defScope s_orders_many):=⟨rfl,rfl,rfl,by decide +kernel,rfl,by decide +kernel,by decide +kernel⟩
theorem sc_rows_many:FnScope ["many","product","factor"] ["many"] (defScope s_rows_many):=⟨rfl,rfl,rfl,by decide +kernel,rfl,by decide +kernel,by decide +kernel⟩
theorem sc_order_at:FnScope ["web","number","rows","place","ends","own"] ["web","number"] (defScope s_order_at):=⟨rfl,rfl,rfl,by decide +kernel,rfl,by decide +kernel,by decide +kernel⟩
theorem sc_row_at:FnScope ["ends","number","row","rest","at"] ["ends","number"] (defScope s_row_at):=⟨rfl,rfl,rfl,by decide +kernel,rfl,by decide +kernel,by decide +kernel⟩
theorem sc_number_of:FnScope ["web","order","number","place","row"] ["web","order"] (defScope s_number_of):=⟨rfl,rfl,rfl,by decide +kernel,rfl,by decide +kernel,by decide +kernel⟩
theorem sc_row_number:FnScope ["ends","row","number","rest","end","at"] ["ends","row"] (defScope s_row_number):=⟨rfl,rfl,rfl,by decide +kernel,rfl,by decide +kernel,by decide +kernel⟩
theorem sc_law_pen:FnScope ["_law_script"] ["_law_script"] (defScope s_law_pen):=⟨rfl,rfl,rfl,by decide +kernel,rfl,by decide +kernel,by decide +kernel⟩
theorem sc_law_draw:FnScope ["_law_pen_here","_law_many_here","_law_digit","_law_at","_law_cell","_law_number"] ["_law_pen_here","_law_many_here"] (defScope s_law_draw):=⟨rfl,rfl,rfl,by decide +kernel,rfl,by decide +kernel,by decide +kernel⟩
theorem sc_law_web:FnScope ["_law_pen_here","_law_places","_law_ties","_law_many_here","_law_way","_law_count","_law_found","_law_k","_law_a","_law_b"] ["_law_pen_here","_law_places","_law_ties"] (defScope s_law_web):=⟨rfl,rfl,rfl,by decide +kernel,rfl,by decide +kernel,by decide +kernel⟩
theorem sc_law_order:FnScope ["_law_pen_here","_law_web_here","_law_rows","_law_k","_law_row","!0","!1","!2","!3","!4","!5","!6","!7","!8","!9","!10","!11","!12","!13","!14","!15","!16","!17","!18","!19","!20","!21","!22","!23","!24"] ["_law_pen_here","_law_web_here"] (defScope s_law_order):=⟨rfl,rfl,rfl,by decide +kernel,rfl,by decide +kernel,by decide +kernel⟩
theorem sc_law_whole:FnScope ["_law_found"] ["_law_found"] (defScope s_law_whole):=⟨rfl,rfl,rfl,by decide +kernel,rfl,by decide +kernel,by decide +kernel⟩
theorem sc_law_ends:FnScope ["_law_web_here","_law_place"] ["_law_web_here","_law_place"] (defScope s_law_ends):=⟨rfl,rfl,rfl,by decide +kernel,rfl,by decide +kernel,by decide +kernel⟩
theorem sc_law_same:FnScope ["_law_found","_law_due"] ["_law_found","_law_due"] (defScope s_law_same):=⟨rfl,rfl,rfl,by decide +kernel,rfl,by decide +kernel,by decide +kernel⟩
theorem sc_law_ways:FnScope ["_law_many_here","_law_ways_here","_law_k"] ["_law_many_here"] (defScope s_law_ways):=⟨rfl,rfl,rfl,by decide +kernel,rfl,by decide +kernel,by decide +kernel⟩
theorem sc_law_many:FnScope ["_law_web_here","_law_many_here","_law_place"] ["_law_web_here"] (defScope s_law_many):=⟨rfl,rfl,rfl,by decide +kernel,rfl,by decide +kernel,by decide +kernel⟩
theorem sc_law_is_order:FnScope ["_law_web_here","_law_order_here","_law_place","_law_row","_law_ends_here"] ["_law_web_here","_law_order_here"] (defScope s_law_is_order):=⟨rfl,rfl,rfl,by decide +kernel,rfl,by decide +kernel,by decide +kernel⟩
theorem sc_law_behind:FnScope ["_law_row","_law_at","_law_greater","_law_rest"] ["_law_row"] (defScope s_law_behind):=⟨rfl,rfl,rfl,by decide +kernel,rfl,by decide +kernel,by decide +kernel⟩
theorem sc_law_later:FnScope ["_law_order_here","_law_at","_law_row"] ["_law_order_here"] (defScope s_law_later):=⟨rfl,rfl,rfl,by decide +kernel,rfl,by decide +kernel,by decide +kernel⟩
theorem sc_law:FnScope ["_law_script","_law_pen_here","_law_web_here","_law_order_here","_law_many_here","_law_number","_law_drawn","_law_at","_law_found","_law_later_here","_law_beside","_law_other"] ["_law_script"] (defScope s_law):=⟨rfl,rfl,rfl,by decide +kernel,rfl,by decide +kernel,by decide +kernel⟩
def Mb (mg:Str->Option Value):Prop:=∀ x ∈ ["abs","all","bool","divmod","enumerate","int","isinstance","len","list","max","min","range","reversed","sorted","str","tuple","zip"],mg x=none
local macro_rules | `(tactic| walk_at "js")=>`(tactic| first
 | with_reducible refine Zal (t:=tAsg _ _) ?_
 | with_reducible refine Zal (t:=tPar _ _ _) ?_
 | with_reducible refine Zal (t:=tDrop _) ?_
 | with_reducible refine iteF ?_
 | with_reducible refine iteT ?_
 | with_reducible refine Zax ?_
 | with_reducible refine Za6 ?_
 | with_reducible refine Zbh ?_
 | with_reducible refine Zg8 ?_
 | with_reducible refine Za0 ?_
 | refine Zmd rfl rfl ?_
 | refine Ze1 rfl rfl ?_
 | with_reducible refine Zaq ?_
 | with_reducible refine Zla ?_
 | with_reducible refine Zao ?_
 | with_reducible refine Zpp ?_
 | with_reducible refine Zdd ?_
 | with_reducible refine Zbm ?_
 | with_reducible refine Zaw ?_
 | with_reducible refine Zap ?_
 | refine Zdt rfl rfl ?_
 | refine Zj2 rfl rfl ?_
 | with_reducible refine Zcx ?_
 | with_reducible refine Zfa ?_
 | with_reducible refine Zon ?_
 | with_reducible refine Zg5 ?_
 | with_reducible refine Zeu ?_
 | with_reducible refine Zoe ?_
 | with_reducible refine Zlk ?_
 | with_reducible refine Zbu ?_
 | with_reducible refine Zbr ?_
 | with_reducible refine Zae ?_
 | with_reducible refine Zab ?_
 | with_reducible refine Zav ?_
 | with_reducible refine Zhw ?_
 | with_reducible refine Zdj ?_
 | with_reducible refine Zbw ?_
 | with_reducible refine Zbi ?_
 | with_reducible refine Zcm ?_
 | with_reducible refine Zck ?_
 | with_reducible refine Zgt ?_
 | with_reducible refine Zij ?_
 | with_reducible refine Zga ?_
 | with_reducible refine Zgm ?_
 | with_reducible refine Zpi ?_
 | with_reducible refine Zh7 ?_
 | with_reducible refine Zbf ?_
 | refine Zac rfl ?_
 | refine Zbj rfl ?_
 | refine Zc0 rfl ?_
 | refine Zbb (Or.inl rfl) ?_
 | refine Zbb (Or.inr rfl) ?_
 | refine Zca (Or.inl rfl) ?_
 | refine Zca (Or.inr rfl) ?_
 | refine Zl0 (Or.inl rfl) ?_
 | refine Zl0 (Or.inr rfl) ?_
 | refine Zlp ?_
 | refine ⟨⟨_,_,rfl,rfl⟩,?_⟩
 | refine ⟨_,_,_,_,rfl,rfl,rfl,rfl,?_⟩
 | refine ⟨_,rfl,?_⟩
 | refine jr_I (by first | (show (0:Int) < _; omega) | exact ⟨by omega,by omega⟩ | exact Or.inl ⟨by omega,by omega⟩ | exact Or.inr ⟨by omega,by omega⟩ | exact ⟨by decide,by decide,by decide⟩) ?_)
local macro_rules | `(tactic| walk_at "draw")=>`(tactic| first | refine Zco rfl rfl (by assumption) (by omega) (by omega) fun _ _ _ _ _=>?_ | refine ⟨_,_,rfl,rfl,by assumption,_,rfl,by omega,by omega,fun _ _ _ _ _=>?_⟩)
def Pen (ps:List D):Prop:=∃ (cs:List Int) (at_ num:Int),ps=[.lst (cs.map .int),.int at_,.int num]/\0<=at_/\0<=num/\cs.length<=63
def fDraw:BSp:=fun ps ds Post=>Pen ps/\∃ m:Int,ds=[.int m]/\1<=m/\m<=10000000000000000000000000000000000000000000000000000000000000/\∀ r ps',Pen ps' -> 0<=r->r < m->Post (.int r) ps'
abbrev LendQ (f:BSp) (i:Nat) (P:D->Evt->Prop):List D->Evt->Prop:=fun ds Δ1=>∃ y ps,Δ1[i]? = some y/\y.od=some (.lst ps)/\f ps ds fun d ps'=>P d (Δ1.set i (y.put (.lst ps')))
theorem Zdt {K:PySem.W.Frag} {Δ:Evt} {P:D->Evt->Prop} {f:BSp} {ta:TA} {E:XK} {i:Nat} {x:Slot} {od:OD} (hx:Δ[i]? = some x) (ho:x.od=some od) (h:JA K ta Δ (LendQ f i P)):JE K (tCall (spB K f) [] E (tCons (tVar i) ta)) Δ P:=Zj2 hx ho h
theorem Zco {Δ1:Evt} {i:Nat} {y:Slot} {ps:List D} {m:Int} {P:D->Evt->Prop} (hx:Δ1[i]? = some y) (ho:y.od=some (.lst ps)) (hp:Pen ps) (h1:1<=m) (h2:m<=10000000000000000000000000000000000000000000000000000000000000) (h:∀ r ps',Pen ps' -> 0<=r->r < m->P (.int r) (Δ1.set i (y.put (.lst ps')))) :
  LendQ fDraw i P [.int m] Δ1:=⟨y,ps,hx,ho,hp,m,rfl,h1,h2,h⟩
theorem Zmh {K:PySem.W.Frag} {Δ:Evt} {E:XK} {i:Nat} {y:Slot} {ps:List D} {m:Int} {P:D->Evt->Prop} (hx:Δ[i]? = some y) (ho:y.od=some (.lst ps)) (hp:Pen ps) (h1:1<=m) (h2:m<=10000000000000000000000000000000000000000000000000000000000000) (h:∀ r ps',Pen ps' -> 0<=r->r < m->P (.int r) (Δ.set i (y.put (.lst ps')))) :
  JE K (tCall (spB K fDraw) [] E (tCons (tVar i) (tCons (tC (.int m)) tNil))) Δ P:=Zdt hx ho (Zab (Zao (Zae (Zco hx ho hp h1 h2 h))))
theorem Zo3 {K:PySem.W.Frag} {Δ:Evt} {te:TE} {Q:D->Evt->Prop} (P:D->Evt->Prop) (h:JE K te Δ P) (f:∀ d Δ1,P d Δ1->Q d Δ1):JE K te Δ Q:=fun g G H σ R k c=>h g G H σ R k fun v d G' H' Δ' k' s' r p=>c v d G' H' Δ' k' s' r (f _ _ p)
section
variable {P:Program} {w:World} {K:PySem.W.Frag} {mg:Str->Option Value} {base:Heap} {f:Addr} {fd:FuncData}
theorem Zn1 (mb:Mb mg) (F:Fun K "_law_draw" "_law_draw" s_law_draw f fd):FnOk P w K mg base CX0 1 f fd ["_law_pen_here","_law_many_here"] (spB K fDraw):=by
 refine F.ok sc_law_draw (Zg0 fun ps ds Post h=>by obtain ⟨_,m,rfl,_⟩:=h; rfl) (fun cdv A outer s H vs Q E hr h=>?_)
 have hu:=Zb5 hr
 refine ⟨_,(Zaf (Zbt (Zay Zne (Zbg (ixK K hu) (pv 0) Zag (fun _ _=>rfl)) Zag (nomark _)) (Zaf (Zar (i:=2) sc_law_draw.nd rfl (Or.inl rfl) (Zau Zbv (Zbg (ixK K hu) (pv 0) Zag (fun _ _=>rfl)) (pv 1))) (Zaf (Zfo (Zau Zfh (Zbg (ixK K hu) (pv 0) Zag (fun _ _=>rfl)) (pv 1)) (Zkj (pv 0) Zag (setU hu))) (Zai (Zat (pv 2))))) Za1) (Zaf (Zar (i:=3) sc_law_draw.nd rfl (Or.inl rfl) (Zbg (ixK K hu) (pv 0) Zag (fun _ _=>rfl))) (Zaf (Zfo (Zau (addK K) (pv 3) Zag) (Zkj (pv 0) Zag (setU hu))) (Zaf (Zar (i:=4) sc_law_draw.nd rfl (Or.inl rfl) Zag) (Zaf (Zbt (Zay Zne (Zah (lenK K) rfl (mb "len" (by decide)) Zbk (Zaa (Zbg (ixK K hu) (pv 0) Zag (fun _ _=>rfl)) Zad)) Zag (nomark _)) (Zai (Zar (i:=4) sc_law_draw.nd rfl (Or.inl rfl) (Zbg (ixK K hu) (Zbg (ixK K hu) (pv 0) Zag (fun _ _=>rfl)) (Zau Zbv (pv 3) (Zah (lenK K) rfl (mb "len" (by decide)) Zbk (Zaa (Zbg (ixK K hu) (pv 0) Zag (fun _ _=>rfl)) Zad))) (fun _ _=>rfl)))) Za1) (Zaf (Zbt (PW.pt (pw_and (Zay Zm5 (pv 3) (Zah (lenK K) rfl (mb "len" (by decide)) Zbk (Zaa (Zbg (ixK K hu) (pv 0) Zag (fun _ _=>rfl)) Zad)) (nomark _)) (pw_and1 (Zay Zp3 (Zah Ze9 rfl (mb "abs" (by decide)) Zkk (Zaa (pv 4) Zad)) (Zau Zo1 Zag Zag) (nomark _))))) (Zaf (Zfo (Zau Zfh (Zah Ze9 rfl (mb "abs" (by decide)) Zkk (Zaa (pv 4) Zad)) (pv 1)) (Zkj (pv 0) Zag (setU hu))) (Zai (Zat (Zau Zbv (Zah Ze9 rfl (mb "abs" (by decide)) Zkk (Zaa (pv 4) Zad)) (pv 1))))) Za1) (Zaf (Zar (i:=5) sc_law_draw.nd rfl (Or.inl rfl) (Zau Zbv (Zau Zdg (Zau (addK K) (Zau (addK K) (Zau Zbv (pv 4) Zag) (Zau Zdg Zag (pv 3))) Zag) Zag) Zag)) (Zaf (Zar (i:=5) sc_law_draw.nd rfl (Or.inl rfl) (Zau Zbv (Zau (addK K) (Zau (addK K) (Zau Zdg (pv 5) (pv 5)) (Zau Zdg Zag (pv 5))) (pv 3)) Zag)) (Zai (Zat (Zau Zbv (Zau Zfh (Zau Zbv (Zau Zdg (pv 5) Zag) Zag) Zag) (pv 1)))))))))))),Zmk (fun ps ds Post hf=>?_) h⟩
 obtain ⟨⟨cs,at_,num,rfl,h1,h2,h3⟩,m,rfl,h4,h5,q⟩:=hf
 refine ⟨by simp,?_⟩
 dsimp only [cxOf,startD,List.tail,List.map,List.length,List.replicate]
 refine Za9 (fun Δ=>¬ 0 < num /\ Δ = [.bor (.lst [.lst (cs.map .int),.int at_,.int num]),.val (.int m),.any,.any,.any,.any]) ?_ ?_
 ·repeat walk_at "js"
  refine ite2 (fun c=>?_) (fun c=>?_)
  ·have c:=of_decide_eq_true c
   repeat walk_at "js"
   exact q _ _ ⟨cs,at_,num / m,rfl,h1,Int.ediv_nonneg h2 (by omega),h3⟩ (Int.emod_nonneg _ (by omega)) (Int.emod_lt_of_pos _ (by omega))
  ·repeat walk_at "js"
   exact ⟨of_decide_eq_false (Bool.eq_false_iff.mpr c),rfl⟩
 rintro Δ1 ⟨hn,rfl⟩
 repeat walk_at "js"
 refine Za9 (fun Δ=>∃ c:Int,Δ = [.bor (.lst [.lst (cs.map .int),.int (at_ + 1),.int num]),.val (.int m),.any,.val (.int at_),.val (.int c),.any]) ?_ ?_
 ·repeat walk_at "js"
  refine ite2 (fun c=>?_) (fun c=>?_)
  ·have c:=of_decide_eq_true c
   rw [List.length_map] at c
   repeat walk_at "js"
   rw [List.length_map]
   repeat walk_at "js"
   obtain ⟨cell,_,hc⟩:=Zjw (f:=D.int) (xs:=cs) (i:=at_ % (cs.length:Int)) (Int.emod_nonneg _ (by omega)) (Int.emod_lt_of_pos _ (by omega))
   refine Zc0 hc ?_
   exact ⟨cell,rfl⟩
  ·repeat walk_at "js"
   exact ⟨11,rfl⟩
 rintro Δ1 ⟨cell,rfl⟩
 refine Za9 (fun Δ=>Δ = [.bor (.lst [.lst (cs.map .int),.int (at_ + 1),.int num]),.val (.int m),.any,.val (.int at_),.val (.int cell),.any]) ?_ ?_
 ·repeat walk_at "js"
  refine ite2 (fun c=>?_) (fun c=>?_)
  ·repeat walk_at "js"
   refine ite2 (fun c=>?_) (fun c=>?_)
   ·repeat walk_at "js"
    have ha:0<=(if cell < 0 then -cell else cell):=by split <;> omega
    exact q _ _ ⟨cs,at_ + 1,_,rfl,by omega,Int.ediv_nonneg ha (by omega),h3⟩ (Int.emod_nonneg _ (by omega)) (Int.emod_lt_of_pos _ (by omega))
   ·repeat walk_at "js"
    rfl
  ·repeat walk_at "js"
   rfl
 rintro Δ1 rfl
 repeat walk_at "js"
 exact q _ _ ⟨cs,at_ + 1,num,rfl,by omega,h2,h3⟩ (Int.emod_nonneg _ (by omega)) (Int.emod_lt_of_pos _ (by omega))
end
def fPen:NSp:=fun ds Post=>∃ ns:List Int,ds=[.scr (ns.map .int)]/\ns.length<=63/\∀ ps,Pen ps->Post ps
section
variable {P:Program} {w:World} {K:PySem.W.Frag} {mg:Str->Option Value} {base:Heap} {f:Addr} {fd:FuncData}
theorem Zof (mb:Mb mg) (F:Fun K "_law_pen" "_law_pen" s_law_pen f fd):FnOk P w K mg base CX0 1 f fd ["_law_script"] (spN K fPen):=by
 refine F.ok sc_law_pen (Zg9 fun ds Post h=>by obtain ⟨ns,rfl,_⟩:=h; rfl) (fun cdv A outer s H vs Q E hr h=>?_)
 have hu:=Zb5 hr
 refine ⟨_,(Zai (Zat (Zd9 (Zaa (Zbp ["_law_cell"] (show CompSc (defScope s_law_pen) ["_law_script"] _ [] [] from ⟨rfl,by decide +kernel,by decide +kernel,by decide +kernel,rfl,by decide +kernel⟩) rfl (seqK K (Zbe (slK K) (pv 0) Zbs (Zbl Zag))) (fun _ _ _ _ _=>(Zas (i:=0) (show List.Nodup (["_law_cell"]:List Str) from by decide) rfl (Or.inl rfl))) (fun _ _ _ _ _=>Zcz) (fun _ _ _ _ _=>(pv 0))) (Zaa Zag (Zaa Zag Zad)))))),Znu (fun ds Post hf=>?_) h⟩
 obtain ⟨ns,rfl,h1,q⟩:=hf
 refine ⟨by simp,?_⟩
 dsimp only [cxOf,startD,List.tail,List.map,List.length,List.replicate]
 refine Zg6 (Zhu (Zab (Zci (by decide) (Zkf ?_))))
 repeat walk_at "js"
 have e:cutD (ns.map D.int) none (some 63)=ns.map D.int:=by
  unfold cutD
  have e1:HT.sIx (ns.map D.int).length 0 none=0:=rfl
  have e2:HT.sIx (ns.map D.int).length (ns.map D.int).length (some 63)=ns.length:=by
   rw [List.length_map]; show min (Int.toNat 63) ns.length=_; omega
  rw [e1,e2,List.drop_zero,Nat.sub_zero,List.take_of_length_le (by simp)]
 rw [e]
 refine ⟨_,Or.inl rfl,by rw [List.length_map]; exact Nat.lt_of_le_of_lt h1 (by decide),fun _=>true,fun d=>d,fun i d hd=>?_,?_⟩
 ·repeat walk_at "js"
  exact ⟨rfl,Zac rfl ⟨rfl,_,rfl⟩⟩
 ·repeat walk_at "js"
  refine ⟨by show 3<=sizeLine; decide,_,rfl,q _ ⟨ns,0,0,?_,by decide,by decide,h1⟩⟩
  simp
end
def encTie (t:Int × Int):D:=.tup [.int t.1,.int t.2]
def encWeb (n:Int) (ts:List (Int × Int)):D:=.tup [.int n,.tup (ts.map encTie)]
structure WebOk (n:Int) (ts:List (Int × Int)):Prop where
 lo:1<=n
 hi:n<=25
 len:ts.length<=24
 tie:∀ t ∈ ts,0<=t.1/\t.1 < n/\0<=t.2/\t.2 < n
def fWeb:BSp:=fun ps ds Post=>Pen ps/\∃ a b:Int,ds=[.int a,.int b]/\1<=a/\a<=25/\0<=b/\b<=24/\∀ n ts ps',Pen ps' -> WebOk n ts->n<=a->(ts.length:Int)<=b->Post (encWeb n ts) ps'
theorem Zly {Δ1:Evt} {i:Nat} {y:Slot} {ps:List D} {a b:Int} {P:D->Evt->Prop} (hx:Δ1[i]? = some y) (ho:y.od=some (.lst ps)) (hp:Pen ps) (h1:1<=a) (h2:a<=25) (h3:0<=b) (h4:b<=24) (h:∀ n ts ps',Pen ps' -> WebOk n ts->n<=a->(ts.length:Int)<=b->P (encWeb n ts) (Δ1.set i (y.put (.lst ps')))) :
  LendQ fWeb i P [.int a,.int b] Δ1:=⟨y,ps,hx,ho,hp,a,b,rfl,h1,h2,h3,h4,h⟩
theorem Zjo:2<=sizeLine:=by decide
theorem Zfq {K:PySem.W.Frag} {Δ:Evt} {i:Nat} {v c:Int} {P:Bool->Evt->Prop} (hx:Δ[i]? = some (.val (.int v))) (h1:v=c->P true Δ) (h2:¬ v=c->P false Δ):JT K (tTest (tOp rEq (tVar i) (tC (.int c)))) Δ P:=
 Zav (Zaq (Zac hx (Zao (Zga ⟨_,rfl,by
  by_cases h:v=c
  ·rw [decide_eq_true h]; exact h1 h
  ·rw [decide_eq_false h]; exact h2 h⟩))))
def wSt (py:List D) (a b n way k:Int) (fs:List D) (i u v:Int):Evt:=[.bor (.lst py),.val (.int a),.val (.int b),.val (.int n),.val (.int way),.val (.int k),.own (.lst fs),.val (.int i),.val (.int u),.val (.int v)]
def wQ (py:List D) (a b n way k:Int) (fs:List D) (i:Int):Evt->Prop:=fun Δ=>∃ u v:Int,0<=u/\u < n/\0<=v/\v < n /\ Δ = wSt py a b n way k fs i u v
def wR (py:List D) (a b n way k:Int) (fs:List D) (i:Int):Evt->Prop:=fun Δ=>∃ u v:Int,0<=u/\u < n/\0<=v /\ Δ = wSt py a b n way k fs i u v
def wL (a b n way k:Int) (i:Nat):Evt->Prop:=fun Δ=>∃ (ps:List D) (ts:List (Int × Int)) (x7 x8 x9:Slot),Pen ps/\ts.length=i/\(∀ t ∈ ts,0<=t.1/\t.1 < n/\0<=t.2/\t.2 < n) /\ Δ = [.bor (.lst ps),.val (.int a),.val (.int b),.val (.int n),.val (.int way),.val (.int k),.own (.lst (ts.map encTie)),x7,x8,x9]
section
variable {P:Program} {w:World} {K:PySem.W.Frag} {mg:Str->Option Value} {base:Heap} {f:Addr} {fd:FuncData}
theorem Zor (mb:Mb mg) (C__law_draw:Callee P w K mg base 1 "_law_draw" ["_law_pen_here","_law_many_here"] (spB K fDraw)) (F:Fun K "_law_web" "_law_web" s_law_web f fd):FnOk P w K mg base CX0 2 f fd ["_law_pen_here","_law_places","_law_ties"] (spB K fWeb):=by
 refine F.ok sc_law_web (Zg0 fun ps ds Post h=>by obtain ⟨_,a,b,rfl,_⟩:=h; rfl) (fun cdv A outer s H vs Q E hr h=>?_)
 have hu:=Zb5 hr
 refine ⟨_,(Zaf (Zar (i:=3) sc_law_web.nd rfl (Or.inl rfl) (Zau (addK K) Zag (Zaz C__law_draw (hr.mono (by decide)) (Zaa (pv 0) (Zaa (pv 1) Zad))))) (Zaf (Zar (i:=4) sc_law_web.nd rfl (Or.inl rfl) (Zaz C__law_draw (hr.mono (by decide)) (Zaa (pv 0) (Zaa Zag Zad)))) (Zaf (Zar (i:=5) sc_law_web.nd rfl (Or.inl rfl) (Zaz C__law_draw (hr.mono (by decide)) (Zaa (pv 0) (Zaa (Zau (addK K) (pv 2) Zag) Zad)))) (Zaf (Zbt (Zay Zcp (pv 4) Zag (nomark _)) (Zaf (Zar (i:=3) sc_law_web.nd rfl (Or.inl rfl) (pv 1)) (Zai (Zar (i:=5) sc_law_web.nd rfl (Or.inl rfl) (pv 2)))) Za1) (Zaf (Zar (i:=6) sc_law_web.nd rfl (Or.inl rfl) (Zd9 Zad)) (Zaf (Zcf PassesOwn.never rfl (Zb3 rfl (mb "range" (by decide)) (Zaa (pv 5) Zad)) (Zas (i:=7) sc_law_web.nd rfl (Or.inl rfl)) (Zaf (Zl7 (i:=8) (j:=9) rfl sc_law_web.nd rfl rfl (by decide) rfl rfl (Zaa (Zaz C__law_draw (hr.mono (by decide)) (Zaa (pv 0) (Zaa (pv 3) Zad))) (Zaa (Zaz C__law_draw (hr.mono (by decide)) (Zaa (pv 0) (Zaa (pv 3) Zad))) Zad)) rfl) (Zaf (Zbt (Zay Zcp (pv 4) Zag (nomark _)) (Zai (Zl7 (i:=8) (j:=9) rfl sc_law_web.nd rfl rfl (by decide) rfl rfl (Zaa (Zau Zbv (pv 7) (pv 3)) (Zaa (Zau Zbv (Zau (addK K) (pv 7) Zag) (pv 3)) Zad)) rfl)) Za1) (Zaf (Zbt (Zay Zcp (pv 4) Zag (nomark _)) (Zai (Zar (i:=8) sc_law_web.nd rfl (Or.inl rfl) Zag)) Za1) (Zaf (Zbt (Zay Zcp (pv 4) Zag (nomark _)) (Zai (Zar (i:=9) sc_law_web.nd rfl (Or.inl rfl) (Zau (addK K) (Zau Zbv (pv 8) Zag) (Zau Zdg (Zau Zfj (pv 9) Zag) Zag)))) Za1) (Zaf (Zbt (PW.pt (pw_and (Zay Zcp (pv 4) Zag (nomark _)) (pw_and1 (Zay Zcp (Zau Zbv (pv 9) Zag) Zag (nomark _))))) (Zai (Zar (i:=9) sc_law_web.nd rfl (Or.inl rfl) (pv 8))) Za1) (Zai (Zef (bmK K PySem.F.plainAttrs_list PySem.F.slot_list_append PySem.F.type_list_append Zc9 (pv 6) (Zaa (Zei (Zaa (pv 8) (Zaa (Zah (Zgb rfl) rfl (mb "min" (by decide)) Zhr (Zaa (pv 9) (Zaa (Zau Zfu (pv 3) Zag) Zad))) Zad))) Zad)))))))))) (Zai (Zat (Zei (Zaa (pv 3) (Zaa (Za7 (tupK K) rfl (mb "tuple" (by decide)) Za4 (Zaa (pv 6) Zad)) Zad))))))))))),Zmk (fun ps ds Post hf=>?_) h⟩
 obtain ⟨hp,a,b,rfl,h1,h2,h3,h4,q⟩:=hf
 refine ⟨by simp,?_⟩
 dsimp only [cxOf,startD,List.tail,List.map,List.length,List.replicate]
 refine Zal (Za0 (Zaq (Zao (Zdt rfl rfl (Zab (Zac rfl (Zae (Zco (m:=a) rfl rfl hp h1 (Int.le_trans h2 (by decide)) fun r0 ps0 hp0 hr0 hs0=>Zck ?_))))))))
 refine Zal (Za0 (Zmh rfl rfl hp0 (by decide) (by decide) fun way ps1 hp1 hw0 hw1=>?_))
 refine Zal (Za0 (Zdt rfl rfl (Zab (Ze7 (Zc2 (Zcc rfl) Zcl Zgv) (Zae (Zco (m:=b + 1) rfl rfl hp1 (Int.add_le_add h3 (Int.le_refl 1)) (Int.le_trans (Int.add_le_add h4 (Int.le_refl 1)) (by decide)) fun cnt ps2 hp2 hc0 hc1=>?_))))))
 refine Za9 (fun Δ=>∃ n k:Int,1<=n/\n<=a/\0<=k/\k<=b /\ Δ = [.bor (.lst ps2),.val (.int a),.val (.int b),.val (.int n),.val (.int way),.val (.int k),.any,.any,.any,.any]) ?_ ?_
 ·refine Zbh (Zfq rfl (fun c=>iteT ?_) (fun c=>iteF (Zax ⟨1 + r0,cnt,Int.le_add_of_nonneg_right hr0,by omega,hc0,Int.le_of_lt_add_one hc1,rfl⟩)))
  exact Zal (Za0 (Zac rfl (Za0 (Zac rfl ⟨a,b,h1,Int.le_refl _,h3,Int.le_refl _,rfl⟩))))
 rintro Δ1 ⟨n,k,hn0,hn1,hk0,hk1,rfl⟩
 have hn2:0 < n:=Int.lt_of_lt_of_le (by decide) hn0
 have hn3:n ≠ 0:=Int.ne_of_gt hn2
 refine Zal (Zdm (Zhu (Zae ⟨by decide,?_⟩)))
 refine Za9 (wL a b n way k k.toNat) ?_ ?_
 ·refine Zce (Zb2 (Zab (Zac rfl (Zae ⟨_,rfl,by omega,by omega,?_⟩))))
  refine ⟨wL a b n way k,⟨ps2,[],.any,.any,.any,hp2,rfl,fun _ h=>(nomatch h),rfl⟩,?_,fun Δ2 h=>by rw [Za8] at h; exact h⟩
  rintro i d Δ2 hd ⟨ps,ts,x7,x8,x9,hp',hl,ht,rfl⟩
  obtain ⟨hi,rfl⟩:=Zbx hd
  generalize (0 + (i:Int))=I
  refine Zbf (Zal (Zg8 (Zab (Zdt rfl rfl (Zab (Zac rfl (Zae (Zco (m:=n) rfl rfl hp' hn0 (by omega) fun x px hpx hx0 hx1=>?_))))))))
  refine Zab (Zdt rfl rfl (Zab (Zac rfl (Zae (Zco (m:=n) rfl rfl hpx hn0 (by omega) fun y py hpy hy0 hy1=>Zae ⟨_,_,rfl,?_⟩)))))
  refine Za9 (wQ py a b n way k (ts.map encTie) I) ?_ ?_
  ·refine Zbh (Zfq rfl (fun c=>iteT ?_) (fun c=>iteF (Zax ⟨x,y,hx0,hx1,hy0,hy1,rfl⟩)))
   exact Zg8 (Zpd (Zhe (Zc2 (Zcc rfl) (Zcc rfl) (pr_I hn2)) (Zhe (Zc2 (Zc2 (Zcc rfl) Zcl Zgv) (Zcc rfl) (pr_I hn2)) Zn5)) ⟨_,_,rfl,_,_,Int.emod_nonneg _ hn3,Int.emod_lt_of_pos _ hn2,Int.emod_nonneg _ hn3,Int.emod_lt_of_pos _ hn2,rfl⟩)
  rintro Δ3 ⟨u,v,hu0,hu1,hv0,hv1,rfl⟩
  refine Za9 (wQ py a b n way k (ts.map encTie) I) ?_ ?_
  ·exact Zbh (Zfq rfl (fun c=>iteT (Za0 (Zao ⟨0,v,Int.le_refl _,hn2,hv0,hv1,rfl⟩))) (fun c=>iteF (Zax ⟨u,v,hu0,hu1,hv0,hv1,rfl⟩)))
  rintro Δ3 ⟨u,v,hu0,hu1,hv0,hv1,rfl⟩
  refine Za9 (wR py a b n way k (ts.map encTie) I) ?_ ?_
  ·refine Zbh (Zfq rfl (fun c=>iteT ?_) (fun c=>iteF (Zax ⟨u,v,hu0,hu1,hv0,rfl⟩)))
   exact Za0 (Ze7 (Zc2 (Zc2 (Zcc rfl) Zcl (pr_I (show (0:Int) < 2 by decide))) (Zc2 (Zc2 (Zcc rfl) Zcl (pr_I ⟨by decide,by decide⟩)) Zcl (pr_I (Or.inr ⟨by decide,by decide⟩))) Zgv) ⟨u,_,hu0,hu1,by omega,rfl⟩)
  rintro Δ3 ⟨u,v,hu0,hu1,hv0,rfl⟩
  refine Za9 (wR py a b n way k (ts.map encTie) I) ?_ ?_
  ·refine Zbh (Zhw (Zfq rfl (fun c=>iteT ?_) (fun c=>iteF (iteF (Zax ⟨u,v,hu0,hu1,hv0,rfl⟩)))))
   refine Zav (Zaq (Ze7 (Zc2 (Zcc rfl) Zcl (pr_I (show (0:Int) < 2 by decide))) (Zao (Zga ⟨_,rfl,ite2 (fun c=>?_) (fun c=>Zax ⟨u,v,hu0,hu1,hv0,rfl⟩)⟩))))
   exact Za0 (Zac rfl ⟨u,u,hu0,hu1,hu0,rfl⟩)
  rintro Δ3 ⟨u,v,hu0,hu1,hv0,rfl⟩
  refine Zjg rfl rfl (Zcx (Zab (Zac rfl (Zab (Zaw (Zab (Zac rfl (Zab (Ze7 (Zc2 (Zcc rfl) Zcl Zp6) (Zae (Zh7 (Zae ?_))))))))))))
  refine ⟨Zjo,_,_,rfl,rfl,?_,py,ts ++ [(u,if n - 1 < v then n - 1 else v)],.val (.int I),.val (.int u),.val (.int v),hpy,by rw [List.length_append,hl]; rfl,fun t h=>?_,?_⟩
  ·rw [List.length_map]; exact small1000 (by omega)
  ·rcases List.mem_append.mp h with h | h
   ·exact ht t h
   ·rw [List.mem_singleton.mp h]
    refine ⟨hu0,hu1,?_,?_⟩
    ·show 0<=(if n - 1 < v then n - 1 else v); split <;> omega
    ·show (if n - 1 < v then n - 1 else v) < n; split <;> omega
  ·rw [List.map_append]; rfl
 rintro Δ1 ⟨ps3,ts,x7,x8,x9,hp3,hl,ht,rfl⟩
 refine Za6 (Zcx (Zab (Zac rfl (Zab (Zaw (Zab (Zgu rfl (Zae (Zca (Or.inl rfl) (Zae ⟨Zjo,?_⟩))))))))))
 exact ⟨_,rfl,q n ts _ hp3 ⟨hn0,by omega,by omega,ht⟩ hn1 (by omega)⟩
end
def placeAt (ts:List (Int × Int)) (e:Nat):Int:=match ts[e / 2]? with
 | some t=>if e % 2=0 then t.1 else t.2
 | none=>-1
def encRow (r:List Int):D:=.tup (r.map .int)
def encOrd (o:List (List Int)):D:=.tup (o.map encRow)
def endsBelow (ts:List (Int × Int)) (m:Nat) (p:Int):List Int:=((List.range m).filter fun e=>decide (placeAt ts e=p)).map fun e:Nat=>(e:Int)
structure RowOk (ts:List (Int × Int)) (m:Nat) (p:Int) (r:List Int):Prop where
 perm:r.Perm (endsBelow ts m p)
 first:r.head? = (endsBelow ts m p).head?
structure OrdOk (n:Int) (ts:List (Int × Int)) (o:List (List Int)):Prop where
 len:(o.length:Int)=n
 row:∀ (p:Nat) r,o[p]? = some r->RowOk ts (2 * ts.length) (p:Int) r
theorem Zcw (ts:List (Int × Int)) (k:Nat) (p:Int):endsBelow ts (k + 1) p=endsBelow ts k p ++ (if placeAt ts k=p then [(k:Int)] else []):=by
 unfold endsBelow
 rw [List.range_succ,List.filter_append,List.map_append]
 congr 1
 by_cases h:placeAt ts k=p
 ·simp [List.filter_cons,h]
 ·simp [List.filter_cons,h]
theorem Zdf (ts:List (Int × Int)) (m:Nat) (p:Int):(endsBelow ts m p).length<=m:=by
 unfold endsBelow
 rw [List.length_map]
 exact Nat.le_trans (List.length_filter_le _ _) (by rw [List.length_range]; exact Nat.le_refl _)
theorem RowOk.len {ts:List (Int × Int)} {m:Nat} {p:Int} {r:List Int} (h:RowOk ts m p r):r.length<=m:=by rw [h.perm.length_eq]; exact Zdf ts m p
theorem RowOk.stay {ts:List (Int × Int)} {k:Nat} {p:Int} {r:List Int} (h:RowOk ts k p r) (hp:placeAt ts k ≠ p):RowOk ts (k + 1) p r:=by
 have e:=Zcw ts k p
 rw [if_neg hp,List.append_nil] at e
 exact ⟨by rw [e]; exact h.perm,by rw [e]; exact h.first⟩
theorem RowOk.put {ts:List (Int × Int)} {k j:Nat} {p:Int} {r:List Int} (h:RowOk ts k p r) (hp:placeAt ts k=p) (hj:j<=r.length) (h1:r ≠ []->1<=j):RowOk ts (k + 1) p (r.take j ++ (k:Int) :: r.drop j):=by
 have e:=Zcw ts k p
 rw [if_pos hp] at e
 refine ⟨?_,?_⟩
 ·rw [e]
  refine List.perm_middle.trans ?_
  rw [List.take_append_drop]
  exact (List.Perm.cons _ h.perm).trans (List.perm_append_singleton _ _).symm
 ·rw [e]
  cases r with
  | nil=>
   have z:endsBelow ts k p=[]:=List.Perm.eq_nil h.perm.symm
   rw [z]
   have:j=0:=by simpa using hj
   subst this
   rfl
  | cons x r'=>
   have h2:=h1 (by simp)
   obtain ⟨j',rfl⟩:∃ j',j=j' + 1:=⟨j - 1,by omega⟩
   have h3:=h.first
   show some x=_
   cases q:endsBelow ts k p with
   | nil=>rw [q] at h3; cases h3
   | cons y l=>rw [q] at h3; exact h3
theorem Ziz {ts:List (Int × Int)} {k:Nat} (h:k < 2 * ts.length):∃ t,ts[k / 2]? = some t/\atI (ts.map encTie) ((0 + (k:Int)) / 2)=some (encTie t)/\atI [D.int t.1,D.int t.2] ((0 + (k:Int)) % 2)=some (.int (placeAt ts k)):=by
 have hk:k / 2 < ts.length:=by omega
 refine ⟨ts[k / 2],List.getElem?_eq_getElem hk,?_,?_⟩
 ·have e:(0 + (k:Int)) / 2=((k / 2:Nat):Int):=by omega
  rw [e]
  exact Zdi (by rw [List.getElem?_map,List.getElem?_eq_getElem hk]; rfl)
 ·have e2:placeAt ts k=if k % 2=0 then ts[k / 2].1 else ts[k / 2].2:=by
   unfold placeAt; rw [List.getElem?_eq_getElem hk]
  rw [e2]
  have e:(0 + (k:Int)) % 2=((k % 2:Nat):Int):=by omega
  rw [e]
  by_cases h0:k % 2=0
  ·rw [if_pos h0,h0]; exact Zdi rfl
  ·have h1:k % 2=1:=by omega
   rw [if_neg h0,h1]; exact Zdi rfl
theorem Zk5 {n:Int} {ts:List (Int × Int)} (hW:WebOk n ts) {k:Nat} (h:k < 2 * ts.length):0<=placeAt ts k/\placeAt ts k < n:=by
 have hk:k / 2 < ts.length:=by omega
 have:=hW.tie _ (List.getElem_mem hk)
 unfold placeAt
 rw [List.getElem?_eq_getElem hk]
 dsimp only
 split <;> omega
def fOrder:BSp:=fun ps ds Post=>Pen ps/\∃ n ts,ds=[encWeb n ts]/\WebOk n ts/\∀ o ps',Pen ps' -> OrdOk n ts o->Post (encOrd o) ps'
theorem Zhm {Δ1:Evt} {i:Nat} {y:L2.Slot} {ps:List D} {n:Int} {ts:List (Int × Int)} {P:D->Evt->Prop} (hx:Δ1[i]? = some y) (ho:y.od=some (.lst ps)) (hp:Pen ps) (hW:WebOk n ts) (h:∀ o ps',Pen ps' -> OrdOk n ts o->P (encOrd o) (Δ1.set i (y.put (.lst ps')))) :
  LendQ fOrder i P [encWeb n ts] Δ1:=⟨y,ps,hx,ho,hp,n,ts,rfl,hW,h⟩
def oSt (ps:List D) (n:Int) (ts:List (Int × Int)) (cs:List (Addr × List Int)) (x3 x4:L2.Slot):Evt:=.bor (.lst ps) :: .val (encWeb n ts) :: .val (.lst (cs.map fun c=>D.adr c.1)) :: x3 :: x4 :: (cs.map (fun c=>L2.Slot.ownA c.1 (.lst (c.2.map D.int))) ++ List.replicate (25 - n.toNat) .any)
def oP (n:Int) (ts:List (Int × Int)) (k:Nat):Evt->Prop:=fun Δ=>∃ (ps:List D) (cs:List (Addr × List Int)) (x3 x4:L2.Slot),Pen ps/\cs.length=n.toNat/\(∀ (p:Nat) c,cs[p]? = some c->RowOk ts k (p:Int) c.2) /\ Δ = oSt ps n ts cs x3 x4
theorem Zi5 {n:Int} {ts:List (Int × Int)} {ps:List D} {as:List Addr} (hn2:n<=25) (hal:as.length=(List.map (fun _=>OD.lst []) ((rngD 0 n.toNat).filter fun _=>true)).length):∃ cs:List (Addr × List Int),cs.length=n.toNat/\(∀ (p:Nat) c,cs[p]? = some c->c.2=[]) ∧
  L2.putN 5 (as.zip (List.map (fun _=>OD.lst []) ((rngD 0 n.toNat).filter fun _=>true))) ([.bor (.lst ps),.val (encWeb n ts),.val (.lst (as.map D.adr)),.any,.any] ++ List.replicate 25 .any)=oSt ps n ts cs .any .any:=by
 have eR:(rngD 0 n.toNat).filter (fun _=>true)=rngD 0 n.toNat:=by simp
 rw [eR,List.length_map,Za8] at hal
 have eO:(rngD 0 n.toNat).map (fun _=>OD.lst [])=List.replicate n.toNat (OD.lst []):=by
  rw [List.map_const',Za8]
 rw [eR,eO]
 generalize hcs:as.map (fun a=>((a,[]):Addr × List Int))=cs
 have hcl:cs.length=n.toNat:=by rw [<- hcs,List.length_map,hal]
 have e1:as.map D.adr=cs.map fun c=>D.adr c.1:=by rw [<- hcs,List.map_map]; rfl
 have e2:as.zip (List.replicate n.toNat (OD.lst []))=cs.map fun c=>(c.1,OD.lst (c.2.map D.int)):=by
  rw [<- hcs,List.map_map,<- hal]
  clear e1 hcl hcs hal
  induction as with
  | nil=>rfl
  | cons a r ih=>rw [List.length_cons,List.replicate_succ,List.zip_cons_cons,ih]; rfl
 have e3:=Ziw (cs.map fun c=>(c.1,OD.lst (c.2.map D.int))) [.bor (.lst ps),.val (encWeb n ts),.val (.lst (cs.map fun c=>D.adr c.1)),.any,.any] [] 25 (by rw [List.length_map]; omega)
 rw [List.append_nil,List.append_nil,List.map_map,List.length_map,hcl] at e3
 refine ⟨cs,hcl,fun p c hc=>?_,by rw [e1,e2]; exact e3⟩
 rw [<- hcs,List.getElem?_map] at hc
 cases q:as[p]? with
 | none=>rw [q] at hc; cases hc
 | some a=>rw [q] at hc; cases hc; rfl
theorem Zoz {ps:List D} {n:Int} {ts:List (Int × Int)} {cs:List (Addr × List Int)} {x3 x4:L2.Slot} {p:Nat} {c:Addr × List Int} (h:cs[p]? = some c):(oSt ps n ts cs x3 x4)[p + 5]? = some (.ownA c.1 (.lst (c.2.map D.int))):=by
 show (cs.map (fun c=>L2.Slot.ownA c.1 (.lst (c.2.map D.int))) ++ List.replicate (25 - n.toNat) .any)[p]? = _
 rw [List.getElem?_append_left (by rw [List.length_map]; exact (List.getElem?_eq_some_iff.mp h).1),List.getElem?_map,h]; rfl
theorem Znv {ps ps':List D} {n:Int} {ts:List (Int × Int)} {cs:List (Addr × List Int)} {x3 x4:L2.Slot} {p:Nat} {c:Addr × List Int} {r:List Int} {v:L2.Slot} (h:cs[p]? = some c) (hv:v=.ownA c.1 (.lst (r.map D.int))):(oSt ps n ts cs x3 x4).set (p + 5) v=oSt ps n ts (cs.set p (c.1,r)) x3 x4:=by
 have hp:=(List.getElem?_eq_some_iff.mp h).1
 have ea:(cs.set p (c.1,r)).map (fun c=>D.adr c.1)=cs.map fun c=>D.adr c.1:=by
  rw [List.map_set]
  apply List.ext_getElem?
  intro i
  by_cases hii:i=p
  ·subst hii
   rw [List.getElem?_set_self (by rw [List.length_map]; exact hp),List.getElem?_map,h]; rfl
  ·rw [List.getElem?_set_ne (Ne.symm hii)]
 unfold oSt
 rw [ea,List.map_set,hv,<- List.set_append_left _ _ (by rw [List.length_map]; exact hp)]
 rfl
section
variable {P:Program} {w:World} {K:PySem.W.Frag} {mg:Str->Option Value} {base:Heap} {f:Addr} {fd:FuncData}
theorem Zll (mb:Mb mg) (C__law_draw:Callee P w K mg base 1 "_law_draw" ["_law_pen_here","_law_many_here"] (spB K fDraw)) (F:Fun K "_law_order" "_law_order" s_law_order f fd):FnOk P w K mg base CX0 2 f fd ["_law_pen_here","_law_web_here"] (spB K fOrder):=by
 refine F.ok sc_law_order (Zg0 fun ps ds Post h=>by obtain ⟨_,n,ts,rfl,_⟩:=h; rfl) (fun cdv A outer s H vs Q E hr h=>?_)
 have hu:=Zb5 hr
 refine ⟨_,(Zaf (Zk0 5 (show ∀ x ∈ (["_law_pen_here","_law_web_here","_law_rows","_law_k","_law_row","!0","!1","!2","!3","!4","!5","!6","!7","!8","!9","!10","!11","!12","!13","!14","!15","!16","!17","!18","!19","!20","!21","!22","!23","!24"]:List Str).drop 5,(defScope s_law_order).names.lookup x=none from by decide +kernel) (Zkq (i:=2) ["_law_place"] (show CompSc (defScope s_law_order) ["_law_pen_here","_law_web_here","_law_rows","_law_k","_law_row","!0","!1","!2","!3","!4","!5","!6","!7","!8","!9","!10","!11","!12","!13","!14","!15","!16","!17","!18","!19","!20","!21","!22","!23","!24"] _ [] [] from ⟨rfl,by decide +kernel,by decide +kernel,by decide +kernel,rfl,by decide +kernel⟩) rfl sc_law_order.nd rfl (Or.inl rfl) (Zb3 rfl (mb "range" (by decide)) (Zaa (Zbg (ixK K hu) (pv 1) Zag (fun _ _=>rfl)) Zad)) (fun _ _ _ _ _=>(Zas (i:=0) (show List.Nodup (["_law_place"]:List Str) from by decide) rfl (Or.inl rfl))) (fun _ _ _ _ _=>Zcz) (fun _ _ _ _ _=>(Zd9 Zad)))) (Zaf (Zcf PassesOwn.never rfl (Zb3 rfl (mb "range" (by decide)) (Zaa (Zau Zdg Zag (Zah (lenK K) rfl (mb "len" (by decide)) Zbk (Zaa (Zbg (ixK K hu) (pv 1) Zag (fun _ _=>rfl)) Zad))) Zad)) (Zas (i:=3) sc_law_order.nd rfl (Or.inl rfl)) (Zaf (Zar (i:=4) sc_law_order.nd rfl (Or.inl rfl) (Zbg (ixK K hu) (pv 2) (Zbg (ixK K hu) (Zbg (ixK K hu) (Zbg (ixK K hu) (pv 1) Zag (fun _ _=>rfl)) (Zau Zfj (pv 3) Zag) (fun _ _=>rfl)) (Zau Zbv (pv 3) Zag) (fun _ _=>rfl)) (fun _ _=>rfl))) (Zai (Zef (bmK K PySem.F.plainAttrs_list PySem.F.slot_list_insert PySem.F.type_list_insert Zj6 (pv 4) (Zaa (Zah (Zgb rfl) rfl (mb "min" (by decide)) Zhr (Zaa (Zah (lenK K) rfl (mb "len" (by decide)) Zbk (Zaa (pv 4) Zad)) (Zaa (Zau (addK K) Zag (Zaz C__law_draw (hr.mono (by decide)) (Zaa (pv 0) (Zaa (Zah (Zjn rfl) rfl (mb "max" (by decide)) Zpm (Zaa Zag (Zaa (Zah (lenK K) rfl (mb "len" (by decide)) Zbk (Zaa (pv 4) Zad)) Zad))) Zad)))) Zad))) (Zaa (pv 3) Zad))))))) (Zai (Zat (Za7 (tupK K) rfl (mb "tuple" (by decide)) Za4 (Zaa (Zbp ["_law_row"] (show CompSc (defScope s_law_order) ["_law_pen_here","_law_web_here","_law_rows","_law_k","_law_row","!0","!1","!2","!3","!4","!5","!6","!7","!8","!9","!10","!11","!12","!13","!14","!15","!16","!17","!18","!19","!20","!21","!22","!23","!24"] _ [] [] from ⟨rfl,by decide +kernel,by decide +kernel,by decide +kernel,rfl,by decide +kernel⟩) rfl (seqK K (pv 2)) (fun _ _ _ _ _=>(Zas (i:=0) (show List.Nodup (["_law_row"]:List Str) from by decide) rfl (Or.inl rfl))) (fun _ _ _ _ _=>Zcz) (fun _ _ _ _ _=>(Za7 (tupK K) rfl (mb "tuple" (by decide)) Za4 (Zaa (pv 0) Zad)))) Zad)))))),Zmk (fun ps ds Post hf=>?_) h⟩
 obtain ⟨hp,n,ts,rfl,hW,q⟩:=hf
 refine ⟨by simp,?_⟩
 dsimp only [cxOf,startD,List.tail,List.map,List.length]
 have hn:=hW.lo
 have hn2:=hW.hi
 have hts:=hW.len
 -- the rows
 refine Zal (Zn0 (Zk2 (by decide) (Zb2 ?_)))
 refine Zab (Zaq (Zac rfl (Zao (Zbj (d:=.int n) rfl (Zae ⟨n,rfl,by omega,by omega,?_⟩)))))
 refine ⟨by rw [Za8]; exact small1000 (by omega),fun _=>true,fun _=>.lst [],fun i d hd=>?_,by decide,?_,fun as hal hnd=>?_⟩
 ·exact Zcm ⟨rfl,Zhu (Zae ⟨by decide,rfl,_,rfl⟩)⟩
 ·rw [List.length_map]
  have e:((rngD 0 n.toNat).filter fun _=>true).length<=25:=Nat.le_trans (List.length_filter_le _ _) (by rw [Za8]; omega)
  show 5 + _<=30
  omega
 obtain ⟨cs,hcl,hce,e⟩:=Zi5 (ps:=ps) (ts:=ts) hn2 hal
 refine Eq.mpr (congrArg (fun Δ=>JS K _ Δ _) e) ?_
 -- the loop
 refine Za9 (oP n ts (2 * ts.length)) ?_ ?_
 ·refine Zce (Zb2 (Zab (Ze7 (Zc2 Zcl (Znb (Zf3 (ds:=[.int n,.tup (ts.map encTie)]) rfl rfl)) (pr_I (Or.inl ⟨by decide,by decide⟩))) (Zae ⟨_,rfl,?_,?_,?_⟩))))
  ·rw [List.length_map]; omega
  ·rw [List.length_map]; omega
  have eL:((2:Int) * ((ts.map encTie).length:Int)).toNat=2 * ts.length:=by rw [List.length_map]; omega
  refine ⟨oP n ts,⟨ps,cs,.any,.any,hp,hcl,fun p c hc=>by rw [hce p c hc]; exact ⟨List.Perm.refl _,rfl⟩,rfl⟩,?_,fun Δ h=>by rw [Za8,eL] at h; exact h⟩
  ·rintro k d Δ2 hd ⟨ps,cs,x3,x4,hp,hcl,hrow,rfl⟩
   rw [eL] at hd
   obtain ⟨hk,rfl⟩:=Zbx hd
   obtain ⟨t,ht1,ht2,ht3⟩:=Ziz hk
   obtain ⟨pl0,pl1⟩:=Zk5 hW hk
   obtain ⟨c,hc1,hc2⟩:=Zjw (f:=fun c:Addr × List Int=>D.adr c.1) (xs:=cs) (i:=placeAt ts k) pl0 (by omega)
   have hR:=hrow _ c hc1
   have hRl:=hR.len
   have ep:((placeAt ts k).toNat:Int)=placeAt ts k:=Int.toNat_of_nonneg pl0
   have hsl:∀ (ps:List D) (x3 x4:L2.Slot),(oSt ps n ts cs x3 x4)[(placeAt ts k).toNat + 5]? = some (.ownA c.1 (.lst (c.2.map D.int))):=fun ps x3 x4=>Zoz hc1
   have hlen:(c.2.map D.int).length=c.2.length:=List.length_map _
   refine Zbf (Zal (Za0 (Ze7 (Zoc (d:=.adr c.1) (Zcc rfl) (Zip (Zip (Zf3 (d:=.tup (ts.map encTie)) rfl rfl) (Zc2 (Zcc rfl) Zcl (pr_I ⟨by decide,by decide⟩)) ht2) (Zc2 (Zcc rfl) Zcl (pr_I (by show (0:Int) < 2; decide))) ht3) hc2) ?_)))
   refine Zms (a:=c.1) rfl (hsl ps _ _) ?_
   refine Zaw (Zab (Ziv rfl (hsl ps _ _) (Zab (Zaq (Zao (Zdt rfl rfl (Zab (Zaw (Zab (Zao (Zab (Ziv rfl (hsl ps _ _) (Zae (Zh7 (Zae ?_)))))))))))))))
   refine Zco rfl rfl hp (by split <;> omega) (by split <;> omega) fun r ps' hp' hr0 hr1=>?_
   refine Zck (Zae (Zh7 (Zac rfl ⟨_,_,_,rfl,hsl ps' _ _,by rw [hlen]; exact small1000 (by omega),by split <;> omega,by split <;> omega,?_⟩)))
   generalize hi:insI (c.2.map D.int).length (if 1 + r < ((c.2.map D.int).length:Int) then 1 + r else ((c.2.map D.int).length:Int))=j
   have hj:j<=c.2.length/\(c.2 ≠ []->1<=j):=by
    rw [<- hi,hlen]
    unfold insI
    refine ⟨?_,fun h=>?_⟩
    ·split <;> split <;> omega
    ·have:=List.length_pos_iff.mpr h
     split <;> split <;> omega
   refine ⟨ps',cs.set (placeAt ts k).toNat (c.1,c.2.take j ++ (k:Int) :: c.2.drop j),.val (.int (0 + (k:Int))),.val (.adr c.1),hp',by rw [List.length_set]; exact hcl,fun p c' hc'=>?_,Znv (ps:=ps') (ps':=ps') hc1 ?_⟩
   ·by_cases hpp:p=(placeAt ts k).toNat
    ·subst hpp
     rw [List.getElem?_set_self (by omega)] at hc'
     cases hc'
     exact hR.put (by omega) hj.1 hj.2
    ·rw [List.getElem?_set_ne (Ne.symm hpp)] at hc'
     exact (hrow p c' hc').stay (by omega)
   ·rw [List.map_append,List.map_take,List.map_cons,List.map_drop,Int.zero_add]
 -- the end
 rintro Δ1 ⟨ps3,cs3,x3,x4,hp3,hcl3,hrow3,rfl⟩
 refine JS.conv (Δ':=.bor (.lst ps3) :: .val (encWeb n ts) :: .val (.lst (cs3.map fun c=>D.lst (c.2.map D.int))) :: x3 :: x4 :: (List.replicate cs3.length .any ++ List.replicate (25 - n.toNat) .any)) (fun g G H σ k=>?_) ?_
 ·have:=Ok.thaw (cs:=cs3.map fun c=>(c.1,c.2.map D.int)) (R:=[.bor (.lst ps3),.val (encWeb n ts),.val (.lst (cs3.map fun c=>D.adr c.1)),x3,x4]) (T:=List.replicate (25 - n.toNat) .any) (i:=2) (g:=g) (G:=G) (H:=H) (σ:=σ) (K:=K) (by rw [List.map_map]; exact k) (by rw [List.map_map]; rfl)
  rw [List.map_map,List.length_map] at this
  exact this
 refine Za6 (Zaw (Zab (Zci (by decide) (Zkf (Zac rfl ⟨_,Or.inl rfl,?_,fun _=>true,fun d=>match d with | .lst ds=>.tup ds | d=>d,fun i d hd=>?_,?_⟩)))))
 ·rw [List.length_map]; exact small1000 (by omega)
 ·rw [List.getElem?_map] at hd
  cases q:cs3[i]? with
  | none=>rw [q] at hd; cases hd
  | some c=>
   rw [q] at hd
   have hd:D.lst (c.2.map D.int)=d:=by simpa using hd
   subst hd
   exact Zcm ⟨rfl,Zaw (Zab (Zac rfl (Zae (Zca (Or.inl rfl) ⟨rfl,_,rfl⟩))))⟩
 ·refine Zae (Zca (Or.inl rfl) ⟨ps3,rfl,?_⟩)
  have e:((cs3.map fun c=>D.lst (c.2.map D.int)).filter fun _=>true).map (fun d=>match d with | .lst ds=>D.tup ds | d=>d)=(cs3.map (·.2)).map encRow:=by
   rw [List.filter_eq_self.mpr (by simp),List.map_map,List.map_map]
   rfl
  rw [e]
  exact q _ _ hp3 ⟨by rw [List.length_map]; omega,fun p r hr=>by
   rw [List.getElem?_map] at hr
   cases z:cs3[p]? with
   | none=>rw [z] at hr; cases hr
   | some c=>rw [z] at hr; cases hr; exact hrow3 p c z⟩
end
theorem Zfb {ts:List (Int × Int)} {m:Nat} {p x:Int}:x ∈ endsBelow ts m p ↔ ∃ e:Nat,e < m/\placeAt ts e=p/\(e:Int)=x:=by
 unfold endsBelow
 rw [List.mem_map]
 constructor
 ·rintro ⟨e,he,rfl⟩
  rw [List.mem_filter,List.mem_range] at he
  exact ⟨e,he.1,of_decide_eq_true he.2,rfl⟩
 ·rintro ⟨e,h1,h2,rfl⟩
  exact ⟨e,by rw [List.mem_filter,List.mem_range]; exact ⟨h1,decide_eq_true h2⟩,rfl⟩
theorem Zb0 (ts:List (Int × Int)) (m:Nat) (p:Int):(endsBelow ts m p).Nodup:=by
 unfold endsBelow
 refine List.Pairwise.map _ (fun a b h=>?_) (List.Pairwise.filter _ List.nodup_range)
 intro e; exact h (by omega)
theorem Ze6 {r:List Int} {x:Int} (h:x ∈ r):r.idxOf x < r.length/\r[r.idxOf x]? = some x/\∀ m,m < r.idxOf x->r[m]? ≠ some x:=by
 have hl:=List.idxOf_lt_length_of_mem h
 refine ⟨hl,?_,fun m hm e=>?_⟩
 ·rw [List.getElem?_eq_getElem hl,List.getElem_idxOf hl]
 ·obtain ⟨h1,h2⟩:=List.getElem?_eq_some_iff.mp e
  have:=List.not_of_lt_findIdx (p:=(· == x)) (xs:=r) hm
  rw [h2] at this
  simp at this
theorem Zeg {α:Type} [DecidableEq α]:∀ {l m:List α},l.Nodup->(∀ x ∈ l,x ∈ m)->l.length<=m.length
 | [],_,_,_=>Nat.zero_le _
 | x :: l,m,nd,h=>by
  rw [List.nodup_cons] at nd
  have hx:=h x List.mem_cons_self
  have:=Zeg (l:=l) (m:=m.erase x) nd.2 fun y hy=>by
   have hne:y ≠ x:=fun e=>nd.1 (e ▸ hy)
   exact (List.mem_erase_of_ne hne).mpr (h y (List.mem_cons_of_mem _ hy))
  rw [List.length_erase_of_mem hx] at this
  have hpos:0 < m.length:=List.length_pos_of_mem hx
  rw [List.length_cons]
  omega
theorem Zb8 (ts:List (Int × Int)) (m:Nat) (p:Int):(endsBelow ts m p).Pairwise (· < ·):=by
 unfold endsBelow
 refine List.Pairwise.map _ (fun a b h=>?_) (List.Pairwise.filter _ List.pairwise_lt_range)
 omega
theorem Zdw (ds:List D) {j:Nat} (h:j<=ds.length):cutD ds (some (j:Int)) none=ds.drop j:=by
 unfold cutD
 rw [HT.sIx_nat,HT.sIx_none,Nat.min_eq_left h,List.take_of_length_le (by rw [List.length_drop]; exact Nat.le_refl _)]
theorem Zi1 (ds:List D) {j:Nat} (h:j<=ds.length):cutD ds none (some (j:Int))=ds.take j:=by
 unfold cutD
 rw [HT.sIx_nat,HT.sIx_none,Nat.min_eq_left h,List.drop_zero,Nat.sub_zero]
section
variable {P:Program} {w:World} {K:PySem.W.Frag} {mg:Str->Option Value} {base:Heap} {f:Addr} {fd:FuncData}
def fPlace:DSp:=fun ds Post=>∃ n ts,∃ e:Nat,ds=[encWeb n ts,.int e]/\e < 2 * ts.length/\Post (.int (placeAt ts e))
def fWhole:DSp:=fun ds Post=>∃ e:Int,ds=[.int e]/\Post (.bl true)
theorem Zlf (mb:Mb mg) (F:Fun K "place_of" "place_of" s_place_of f fd):FnOk P w K mg base CX0 1 f fd ["web","end"] (spD K fPlace):=by
 refine F.ok sc_place_of (Zbc fun ds Post h=>by obtain ⟨_,_,_,rfl,_⟩:=h; rfl) (fun cdv A outer s H vs Q E hr h=>?_)
 have hu:=Zb5 hr
 refine ⟨_,(Zai (Zat (Zbg (ixK K hu) (Zbg (ixK K hu) (Zbg (ixK K hu) (pv 0) Zag (fun _ _=>rfl)) (Zau Zfj (pv 1) Zag) (fun _ _=>rfl)) (Zau Zbv (pv 1) Zag) (fun _ _=>rfl)))),Zcu (fun ds Post hf=>?_) h⟩
 obtain ⟨n,ts,e,rfl,he,q⟩:=hf
 refine ⟨by simp,?_⟩
 dsimp only [startD,List.tail,List.map,List.length]
 obtain ⟨t,h1,h2,h3⟩:=Ziz he
 rw [Int.zero_add] at h2 h3
 refine Za6 (Zaq (Zaq (Zaq (Zac rfl (Zao (Zbj (d:=.tup (ts.map encTie)) rfl ?_))))))
 refine Zaq (Zac rfl (Zao (jr_I ⟨by omega,by omega⟩ (Zbj h2 ?_))))
 exact Zaq (Zac rfl (Zao (jr_I (by show (0:Int) < 2; omega) (Zbj h3 q))))
theorem Zlt (mb:Mb mg) (F:Fun K "_law_whole" "_law_whole" s_law_whole f fd):FnOk P w K mg base CX0 1 f fd ["_law_found"] (spD K fWhole):=by
 refine F.ok sc_law_whole (Zbc fun ds Post h=>by obtain ⟨_,rfl,_⟩:=h; rfl) (fun cdv A outer s H vs Q E hr h=>?_)
 have hu:=Zb5 hr
 refine ⟨_,(Zai (Zat (Ziq (Zah (isiUK K) rfl (mb "isinstance" (by decide)) Zan (Zaa (pv 0) (Zaa (Za5 rfl (mb "int" (by decide)) Zhi (show RelV (.ty "int") _ from rfl)) Zad))) (Zjs (Zlz (Zah (isiUK K) rfl (mb "isinstance" (by decide)) Zan (Zaa (pv 0) (Zaa (Za5 rfl (mb "bool" (by decide)) Zfd (show RelV (.ty "bool") _ from rfl)) Zad)))))))),Zcu (fun ds Post hf=>?_) h⟩
 obtain ⟨e,rfl,q⟩:=hf
 refine ⟨by simp,?_⟩
 dsimp only [startD,List.tail,List.map,List.length]
 refine Za6 (Zfa (Zaw (Zab (Zac rfl (Zab (Zbm (Zae (Zba (T:="int") (b:=true) rfl (fun _=>by rfl) ⟨_,rfl,?_⟩))))))))
 rw [if_pos rfl]
 refine Zg5 (Zaw (Zab (Zac rfl (Zab (Zbm (Zae (Zba (T:="int") (b:=false) rfl (fun _=>by rfl) ⟨_,rfl,?_⟩)))))))
 exact q
end
def Lv:Nat->D->Prop
 | 0,_=>False
 | _ + 1,.int _=>True
 | m + 1,.lst ds=>ds.length<=1000/\∀ d ∈ ds,Lv m d
 | m + 1,.tup ds=>ds.length<=1000/\∀ d ∈ ds,Lv m d
 | _,_=>False
def fSame (m:Nat):DSp:=fun ds Post=>∃ d,ds=[d,d]/\Lv m d/\Post (.bl true)
section
variable {P:Program} {w:World} {K:PySem.W.Frag} {mg:Str->Option Value} {base:Heap} {f:Addr} {fd:FuncData}
theorem Zfp:2<=sizeLine:=by decide
theorem Zhn (ds:List D):(((ds.zip ds).map fun p=>D.tup [p.1,p.2]).filter fun _=>true).map (fun _=>D.bl true)=(List.replicate ds.length true).map D.bl:=by
 rw [List.filter_eq_self.mpr (by simp),List.map_const',List.map_replicate,List.length_map,List.length_zip,Nat.min_self]
theorem Ze4 (n:Nat):(List.replicate n true).all id=true:=by
 rw [List.all_eq_true]; intro x hx; rw [(List.mem_replicate.mp hx).2]; rfl
theorem Zf8 {ds:List D} {i:Nat} {d:D} (hd':((ds.zip ds).map fun p=>D.tup [p.1,p.2])[i]? = some d):∃ e,e ∈ ds/\d=.tup [e,e]:=by
 rw [List.getElem?_map] at hd'
 cases z:(ds.zip ds)[i]? with
 | none=>rw [z] at hd'; cases hd'
 | some pr=>
  rw [z] at hd'
  have hd':D.tup [pr.1,pr.2]=d:=by simpa using hd'
  rw [List.getElem?_zip_eq_some] at z
  have e:pr.1=pr.2:=Option.some.inj (z.1.symm.trans z.2)
  exact ⟨pr.1,List.mem_of_getElem? z.1,by rw [<- hd',<- e]⟩
theorem Zkw {m:Nat} (mb:Mb mg) (C__law_same:Callee P w K mg base m "_law_same" ["_law_found","_law_due"] (spD K (fSame m))) (F:Fun K "_law_same" "_law_same" s_law_same f fd):FnOk P w K mg base CX0 (m + 1) f fd ["_law_found","_law_due"] (spD K (fSame (m + 1))):=by
 refine F.ok sc_law_same (Zbc fun ds Post h=>by obtain ⟨_,rfl,_⟩:=h; rfl) (fun cdv A outer s H vs Q E hr h=>?_)
 have hu:=Zb5 hr
 refine ⟨_,(Zaf (Zbt (truK K (Zah (isiUK K) rfl (mb "isinstance" (by decide)) Zan (Zaa (pv 1) (Zaa (Zei (Zaa (Za5 rfl (mb "list" (by decide)) Zex (show RelV (.ty "list") _ from rfl)) (Zaa (Za5 rfl (mb "tuple" (by decide)) Za4 (show RelV (.ty "tuple") _ from rfl)) Zad))) Zad))) (fun _=>rfl)) (Zaf (Zbt (PW.pt (pw_or (Zb7 (truK K (Zah (isiUK K) rfl (mb "isinstance" (by decide)) Zan (Zaa (pv 0) (Zaa (Zei (Zaa (Za5 rfl (mb "list" (by decide)) Zex (show RelV (.ty "list") _ from rfl)) (Zaa (Za5 rfl (mb "tuple" (by decide)) Za4 (show RelV (.ty "tuple") _ from rfl)) Zad))) Zad))) (fun _=>rfl))) (pw_or1 (Zay Zcv (Zah (isiUK K) rfl (mb "isinstance" (by decide)) Zan (Zaa (pv 0) (Zaa (Za5 rfl (mb "list" (by decide)) Zex (show RelV (.ty "list") _ from rfl)) Zad))) (Zah (isiUK K) rfl (mb "isinstance" (by decide)) Zan (Zaa (pv 1) (Zaa (Za5 rfl (mb "list" (by decide)) Zex (show RelV (.ty "list") _ from rfl)) Zad))) (nomark _))))) (Zai (Zat Zc4)) Za1) (Zaf (Zbt (Zay Zcv (Zah (lenK K) rfl (mb "len" (by decide)) Zbk (Zaa (pv 0) Zad)) (Zah (lenK K) rfl (mb "len" (by decide)) Zbk (Zaa (pv 1) Zad)) (nomark _)) (Zai (Zat Zc4)) Za1) (Zai (Zat (Zah (allK K rfl) rfl (mb "all" (by decide)) Zl5 (Zaa (Zbp ["_law_one","_law_other"] (show CompSc (defScope s_law_same) ["_law_found","_law_due"] _ [] [] from ⟨rfl,by decide +kernel,by decide +kernel,by decide +kernel,rfl,by decide +kernel⟩) rfl (Zn8 K rfl (mb "zip" (by decide)) (Zaa (pv 0) (Zaa (pv 1) Zad))) (fun _ _ _ _ _=>(gtupK (n:=2) K rfl (Zbq (Zas (i:=0) (show List.Nodup (["_law_one","_law_other"]:List Str) from by decide) rfl (Or.inl rfl)) (Zbq (Zas (i:=1) (show List.Nodup (["_law_one","_law_other"]:List Str) from by decide) rfl (Or.inl rfl)) Zed)))) (fun _ _ _ _ _=>Zcz) (fun _ _ _ _ _=>(Zaz C__law_same (hr.mono (by first|decide|omega)) (Zaa (pv 0) (Zaa (pv 1) Zad))))) Zad)))))) Za1) (Zaf (Zbt (PW.pt (pw_or (Zay Zcv (Zah (isiUK K) rfl (mb "isinstance" (by decide)) Zan (Zaa (pv 0) (Zaa (Za5 rfl (mb "bool" (by decide)) Zfd (show RelV (.ty "bool") _ from rfl)) Zad))) (Zah (isiUK K) rfl (mb "isinstance" (by decide)) Zan (Zaa (pv 1) (Zaa (Za5 rfl (mb "bool" (by decide)) Zfd (show RelV (.ty "bool") _ from rfl)) Zad))) (nomark _)) (pw_or1 (Zay Zcv (Zah (isiUK K) rfl (mb "isinstance" (by decide)) Zan (Zaa (pv 0) (Zaa (Za5 rfl (mb "str" (by decide)) Zl1 (show RelV (.ty "str") _ from rfl)) Zad))) (Zah (isiUK K) rfl (mb "isinstance" (by decide)) Zan (Zaa (pv 1) (Zaa (Za5 rfl (mb "str" (by decide)) Zl1 (show RelV (.ty "str") _ from rfl)) Zad))) (nomark _))))) (Zai (Zat Zc4)) Za1) (Zai (Zat (Ziq (Ze2 Zcp (Zah (isiUK K) rfl (mb "isinstance" (by decide)) Zan (Zaa (pv 0) (Zaa (Za5 rfl (mb "int" (by decide)) Zhi (show RelV (.ty "int") _ from rfl)) Zad))) (Zah (isiUK K) rfl (mb "isinstance" (by decide)) Zan (Zaa (pv 1) (Zaa (Za5 rfl (mb "int" (by decide)) Zhi (show RelV (.ty "int") _ from rfl)) Zad))) (nomark _)) (Zjs (Ze2 Zcp (pv 0) (pv 1) (nomark _)))))))),Zcu (fun ds Post hf=>?_) h⟩
 obtain ⟨d,rfl,hd,q⟩:=hf
 refine ⟨by simp,?_⟩
 dsimp only [startD,List.tail,List.map,List.length]
 cases d with
 | int i=>
  refine Zal (Zbh (Zbi (Zaw (Zab (Zac rfl (Zab (Zcx (Zab (Zbm (Zab (Zbm (Zae ⟨Zfp,?_⟩))))))))))))
  refine Zae (Zd4 (ns:=["list","tuple"]) (T:="int") (b:=false) rfl (fun _=>by rfl) ⟨_,rfl,iteF (Zax ?_)⟩)
  refine Zal (Zbh (Zdj (Zav (Zaq (Zaw (Zab (Zac rfl (Zab (Zbm (Zae (Zba (T:="int") (b:=false) rfl (fun _=>by rfl) ?_)))))))))))
  refine Zaw (Zab (Zac rfl (Zab (Zbm (Zae (Zba (T:="int") (b:=false) rfl (fun _=>by rfl) (Zem ⟨_,rfl,iteF ?_⟩)))))))
  refine Zav (Zaq (Zaw (Zab (Zac rfl (Zab (Zbm (Zae (Zba (T:="int") (b:=false) rfl (fun _=>by rfl) ?_))))))))
  refine Zaw (Zab (Zac rfl (Zab (Zbm (Zae (Zba (T:="int") (b:=false) rfl (fun _=>by rfl) (Zem ⟨_,rfl,iteF (Zax ?_)⟩)))))))
  refine Za6 (Zfa (Zaq (Zaw (Zab (Zac rfl (Zab (Zbm (Zae (Zba (T:="int") (b:=true) rfl (fun _=>by rfl) ?_)))))))))
  refine Zaw (Zab (Zac rfl (Zab (Zbm (Zae (Zba (T:="int") (b:=true) rfl (fun _=>by rfl) (Zo2 ⟨_,rfl,iteT ?_⟩)))))))
  refine Zaq (Zac rfl (Zac rfl (Zga ?_)))
  rw [decide_eq_true rfl]; exact q
 | lst ds=>
  obtain ⟨hl,hd⟩:=hd
  refine Zal (Zbh (Zbi (Zaw (Zab (Zac rfl (Zab (Zcx (Zab (Zbm (Zab (Zbm (Zae ⟨Zfp,?_⟩))))))))))))
  refine Zae (Zd4 (ns:=["list","tuple"]) (T:="list") (b:=true) rfl (fun _=>by rfl) ⟨_,rfl,iteT ?_⟩)
  refine Zal (Zbh (Zdj (Zbw (Zbi (Zaw (Zab (Zac rfl (Zab (Zcx (Zab (Zbm (Zab (Zbm (Zae ⟨Zfp,?_⟩))))))))))))))
  refine Zae (Zd4 (ns:=["list","tuple"]) (T:="list") (b:=true) rfl (fun _=>by rfl) ⟨_,rfl,iteF ?_⟩)
  refine Zav (Zaq (Zaw (Zab (Zac rfl (Zab (Zbm (Zae (Zba (T:="list") (b:=true) rfl (fun _=>by rfl) ?_))))))))
  refine Zaw (Zab (Zac rfl (Zab (Zbm (Zae (Zba (T:="list") (b:=true) rfl (fun _=>by rfl) (Zem ⟨_,rfl,iteF (Zax ?_)⟩)))))))
  refine Zal (Zbh (Zav (Zaq (Zaw (Zab (Zac rfl (Zae (Zbb (Or.inl rfl) (Zaw (Zab (Zac rfl (Zae (Zbb (Or.inl rfl) (Zgm ⟨_,rfl,?_⟩))))))))))))))
  rw [decide_eq_true rfl]
  refine iteF (Zax (Za6 (Zaw (Zab (Zh6 (by decide) (Zo9 (Zab (Zac rfl (Zab (Zac rfl (Zae ⟨ds,ds,rfl,rfl,?_,fun _=>true,fun _=>.bl true,fun i d hd'=>?_,?_⟩)))))))))))
  ·rw [List.length_map,List.length_zip]; exact small1000 (by omega)
  ·obtain ⟨e,he,rfl⟩:=Zf8 hd'
   exact ⟨_,_,rfl,Zcm ⟨rfl,Zap (Zab (Zac rfl (Zab (Zac rfl (Zae ⟨e,rfl,hd _ he,rfl,_,_,rfl⟩)))))⟩⟩
  ·refine Zae ?_
   rw [Zhn]
   refine Zjl ?_
   rw [Ze4]
   exact q
 | tup ds=>
  obtain ⟨hl,hd⟩:=hd
  refine Zal (Zbh (Zbi (Zaw (Zab (Zac rfl (Zab (Zcx (Zab (Zbm (Zab (Zbm (Zae ⟨Zfp,?_⟩))))))))))))
  refine Zae (Zd4 (ns:=["list","tuple"]) (T:="tuple") (b:=true) rfl (fun _=>by rfl) ⟨_,rfl,iteT ?_⟩)
  refine Zal (Zbh (Zdj (Zbw (Zbi (Zaw (Zab (Zac rfl (Zab (Zcx (Zab (Zbm (Zab (Zbm (Zae ⟨Zfp,?_⟩))))))))))))))
  refine Zae (Zd4 (ns:=["list","tuple"]) (T:="tuple") (b:=true) rfl (fun _=>by rfl) ⟨_,rfl,iteF ?_⟩)
  refine Zav (Zaq (Zaw (Zab (Zac rfl (Zab (Zbm (Zae (Zba (T:="tuple") (b:=false) rfl (fun _=>by rfl) ?_))))))))
  refine Zaw (Zab (Zac rfl (Zab (Zbm (Zae (Zba (T:="tuple") (b:=false) rfl (fun _=>by rfl) (Zem ⟨_,rfl,iteF (Zax ?_)⟩)))))))
  refine Zal (Zbh (Zav (Zaq (Zaw (Zab (Zac rfl (Zae (Zbb (Or.inr rfl) (Zaw (Zab (Zac rfl (Zae (Zbb (Or.inr rfl) (Zgm ⟨_,rfl,?_⟩))))))))))))))
  rw [decide_eq_true rfl]
  refine iteF (Zax (Za6 (Zaw (Zab (Zh6 (by decide) (Zna (Zab (Zac rfl (Zab (Zac rfl (Zae ⟨ds,ds,rfl,rfl,?_,fun _=>true,fun _=>.bl true,fun i d hd'=>?_,?_⟩)))))))))))
  ·rw [List.length_map,List.length_zip]; exact small1000 (by omega)
  ·obtain ⟨e,he,rfl⟩:=Zf8 hd'
   exact ⟨_,_,rfl,Zcm ⟨rfl,Zap (Zab (Zac rfl (Zab (Zac rfl (Zae ⟨e,rfl,hd _ he,rfl,_,_,rfl⟩)))))⟩⟩
  ·refine Zae ?_
   rw [Zhn]
   refine Zjl ?_
   rw [Ze4]
   exact q
 | _=>exact hd.elim
theorem Zi4 (mb:Mb mg) (F:Fun K "_law_same" "_law_same" s_law_same f fd) (b:Binds K fd ["_law_found","_law_due"] []) (kp:PySem.W.keepIn K (.ref f)=true) (hm:mg "_law_same" = some (.ref f)):∀ m:Nat,FnOk P w K mg base CX0 m f fd ["_law_found","_law_due"] (spD K (fSame m))
 | 0=>by
  have no:∀ vs H Q E,¬ spD K (fSame 0) vs H Q E:=fun vs H Q E ⟨_,_,_,_,_,⟨_,_,hd,_⟩,_⟩=>hd
  exact ⟨fun vs H Q E h=>absurd h (no vs H Q E),fun A outer s H args us vs Q E _ _ _ _ h=>absurd h (no vs H Q E)⟩
 | m + 1=>Zkw mb ⟨⟨f,fd,Zi4 mb F b kp hm m,b,kp,hm⟩⟩ F
theorem Zn6 {o:List (List Int)} (h1:o.length<=1000) (h2:∀ r ∈ o,r.length<=1000):Lv 3 (encOrd o):=by
 refine ⟨by rw [List.length_map]; exact h1,fun d hd=>?_⟩
 obtain ⟨r,hr,rfl⟩:=List.mem_map.mp hd
 refine ⟨by rw [List.length_map]; exact h2 r hr,fun d hd=>?_⟩
 obtain ⟨x,_,rfl⟩:=List.mem_map.mp hd
 trivial
end
section
variable {P:Program} {w:World} {K:PySem.W.Frag} {mg:Str->Option Value} {base:Heap} {f:Addr} {fd:FuncData}
def fEnds:NSp:=fun ds Post=>∃ n ts,∃ p:Int,ds=[encWeb n ts,.int p]/\ts.length<=24/\Post ((endsBelow ts (2 * ts.length) p).map .int)
theorem Zd5 (ts:List (Int × Int)) (m:Nat) (p:Int) (q:D->Bool) (hq:∀ k:Nat,q (.int (0 + (k:Int)))=decide (placeAt ts k=p)):(rngD 0 m).filter q=(endsBelow ts m p).map .int:=by
 unfold rngD endsBelow
 rw [List.filter_map,List.map_map]
 have e:(q ∘ fun i:Nat=>D.int (0 + (i:Int)))=fun e=>decide (placeAt ts e=p):=by
  funext k; exact hq k
 rw [e]
 apply List.map_congr_left
 intro k _
 show D.int (0 + (k:Int))=D.int (k:Int)
 rw [Int.zero_add]
theorem Zic (mb:Mb mg) (C_place_of:Callee P w K mg base 1 "place_of" ["web","end"] (spD K fPlace)) (F:Fun K "ends_at" "ends_at" s_ends_at f fd):FnOk P w K mg base CX0 2 f fd ["web","place"] (spN K fEnds):=by
 refine F.ok sc_ends_at (Zg9 fun ds Post h=>by obtain ⟨_,_,_,rfl,_⟩:=h; rfl) (fun cdv A outer s H vs Q E hr h=>?_)
 have hu:=Zb5 hr
 refine ⟨_,(Zai (Zat (Zbp ["end"] (show CompSc (defScope s_ends_at) ["web","place"] _ ["web","place"] [0,1] from ⟨rfl,by decide +kernel,by decide +kernel,by decide +kernel,rfl,by decide +kernel⟩) rfl (Zb3 rfl (mb "range" (by decide)) (Zaa (Zau Zdg Zag (Zah (lenK K) rfl (mb "len" (by decide)) Zbk (Zaa (Zbg (ixK K hu) (pv 0) Zag (fun _ _=>rfl)) Zad))) Zad)) (fun _ _ _ _ _=>(Zas (i:=0) (show List.Nodup (["end","web","place"]:List Str) from by decide) rfl (Or.inl rfl))) (fun _ _ _ _ _=>(Ze3 (Zay Zcp (Zaz C_place_of (hr.mono (by decide)) (Zaa (pv 1) (Zaa (pv 0) Zad))) (pv 2) (nomark _)))) (fun _ _ _ _ _=>(pv 0))))),Znu (fun ds Post hf=>?_) h⟩
 obtain ⟨n,ts,p,rfl,hl,q⟩:=hf
 refine ⟨by simp,?_⟩
 dsimp only [startD,List.tail,List.map,List.length]
 refine Zg6 (Zh5 (by decide) (Zb2 ?_))
 refine Zab (Zaq (Zao (Zaw ?_)))
 refine Zab (Zaq (Zac rfl (Zao (Zbj (d:=.tup (ts.map encTie)) rfl ?_))))
 refine Zae (Zbb (Or.inr rfl) ?_)
 rw [List.length_map]
 refine jr_I (Or.inl ⟨by omega,by omega⟩) (Zae ⟨_,rfl,by omega,by omega,?_⟩)
 have eL:((2:Int) * (ts.length:Int)).toNat=2 * ts.length:=by omega
 rw [eL]
 refine ⟨by rw [Za8]; exact small1000 (by omega),fun d=>match d with | .int e=>decide (placeAt ts e.toNat=p) | _=>false,fun d=>d,fun i d hd=>?_,?_⟩
 ·obtain ⟨hi,rfl⟩:=Zbx hd
  refine Zav (Zaq (Zap (Zab (Zac rfl (Zab (Zac rfl (Zae ⟨n,ts,i,by rw [Int.zero_add],hi,?_⟩)))))))
  refine Zac rfl (Zga ⟨_,rfl,?_,?_⟩)
  ·show _=decide (placeAt ts (0 + (i:Int)).toNat=p)
   rw [Int.zero_add,Int.toNat_natCast]
  ·by_cases hp:placeAt ts i=p
   ·rw [decide_eq_true hp,if_pos rfl]; exact Zac rfl ⟨rfl,_,rfl⟩
   ·rw [decide_eq_false hp,if_neg Bool.false_ne_true]; exact ⟨_,rfl⟩
 ·rw [List.map_id',Zd5 ts _ p _ fun k=>by show decide (placeAt ts (0 + (k:Int)).toNat=p)=_; rw [Int.zero_add,Int.toNat_natCast]]
  exact ⟨_,rfl,q⟩
theorem Zk3 (mb:Mb mg) (F:Fun K "_law_ends" "_law_ends" s_law_ends f fd):FnOk P w K mg base CX0 1 f fd ["_law_web_here","_law_place"] (spN K fEnds):=by
 refine F.ok sc_law_ends (Zg9 fun ds Post h=>by obtain ⟨_,_,_,rfl,_⟩:=h; rfl) (fun cdv A outer s H vs Q E hr h=>?_)
 have hu:=Zb5 hr
 refine ⟨_,(Zai (Zat (Zbp ["_law_k"] (show CompSc (defScope s_law_ends) ["_law_web_here","_law_place"] _ ["_law_web_here","_law_place"] [0,1] from ⟨rfl,by decide +kernel,by decide +kernel,by decide +kernel,rfl,by decide +kernel⟩) rfl (Zb3 rfl (mb "range" (by decide)) (Zaa (Zau Zdg Zag (Zah (lenK K) rfl (mb "len" (by decide)) Zbk (Zaa (Zbg (ixK K hu) (pv 0) Zag (fun _ _=>rfl)) Zad))) Zad)) (fun _ _ _ _ _=>(Zas (i:=0) (show List.Nodup (["_law_k","_law_web_here","_law_place"]:List Str) from by decide) rfl (Or.inl rfl))) (fun _ _ _ _ _=>(Ze3 (Zay Zcp (Zbg (ixK K hu) (Zbg (ixK K hu) (Zbg (ixK K hu) (pv 1) Zag (fun _ _=>rfl)) (Zau Zfj (pv 0) Zag) (fun _ _=>rfl)) (Zau Zbv (pv 0) Zag) (fun _ _=>rfl)) (pv 2) (nomark _)))) (fun _ _ _ _ _=>(pv 0))))),Znu (fun ds Post hf=>?_) h⟩
 obtain ⟨n,ts,p,rfl,hl,q⟩:=hf
 refine ⟨by simp,?_⟩
 dsimp only [startD,List.tail,List.map,List.length]
 refine Zg6 (Zh5 (by decide) (Zb2 ?_))
 refine Zab (Zaq (Zao (Zaw ?_)))
 refine Zab (Zaq (Zac rfl (Zao (Zbj (d:=.tup (ts.map encTie)) rfl ?_))))
 refine Zae (Zbb (Or.inr rfl) ?_)
 rw [List.length_map]
 refine jr_I (Or.inl ⟨by omega,by omega⟩) (Zae ⟨_,rfl,by omega,by omega,?_⟩)
 have eL:((2:Int) * (ts.length:Int)).toNat=2 * ts.length:=by omega
 rw [eL]
 refine ⟨by rw [Za8]; exact small1000 (by omega),fun d=>match d with | .int e=>decide (placeAt ts e.toNat=p) | _=>false,fun d=>d,fun i d hd=>?_,?_⟩
 ·obtain ⟨hi,rfl⟩:=Zbx hd
  obtain ⟨t,h1,h2,h3⟩:=Ziz hi
  refine Zav (Zaq (Zaq (Zaq (Zaq (Zac rfl (Zao (Zbj (d:=.tup (ts.map encTie)) rfl ?_)))))))
  refine Zaq (Zac rfl (Zao (jr_I ⟨by omega,by omega⟩ (Zbj h2 ?_))))
  refine Zaq (Zac rfl (Zao (jr_I (by show (0:Int) < 2; omega) (Zbj h3 ?_))))
  refine Zac rfl (Zga ⟨_,rfl,?_,?_⟩)
  ·show _=decide (placeAt ts (0 + (i:Int)).toNat=p)
   rw [Int.zero_add,Int.toNat_natCast]
  ·by_cases hp:placeAt ts i=p
   ·rw [decide_eq_true hp,if_pos rfl]; exact Zac rfl ⟨rfl,_,rfl⟩
   ·rw [decide_eq_false hp,if_neg Bool.false_ne_true]; exact ⟨_,rfl⟩
 ·rw [List.map_id',Zd5 ts _ p _ fun k=>by show decide (placeAt ts (0 + (k:Int)).toNat=p)=_; rw [Int.zero_add,Int.toNat_natCast]]
  exact ⟨_,rfl,q⟩
end
def rm:Nat->Nat
 | 0=>1
 | 1=>1
 | n + 2=>rm (n + 1) * (n + 1)
theorem Zde:∀ n,1<=rm n
 | 0=>Nat.le_refl 1
 | 1=>Nat.le_refl 1
 | n + 2=>Nat.mul_pos (Zde (n + 1)) (Nat.succ_pos n)
theorem Zjd {n m:Nat} (h:n<=m):rm n<=rm m:=by
 induction h with
 | refl=>exact Nat.le_refl _
 | @step m _ ih=>
  refine Nat.le_trans ih ?_
  cases m with
  | zero=>exact Nat.le_refl _
  | succ m=>exact Nat.le_mul_of_pos_right _ (Nat.succ_pos m)
def rowGo:Nat->List Int->Nat->List Int
 | 0,_,_=>[]
 | k + 1,rest,num=>rest.getD (num / rm (k + 1)) 0 :: rowGo k (rest.eraseIdx (num / rm (k + 1))) (num % rm (k + 1))
def seqs:Nat->List Int->List (List Int)
 | 0,_=>[[]]
 | k + 1,rest=>rest.flatMap fun e=>(seqs k (rest.erase e)).map (e :: ·)
theorem Zhk {α β:Type} {f g:α -> List β}:∀ {l:List α},(∀ a ∈ l,f a=g a)->l.flatMap f=l.flatMap g
 | [],_=>rfl
 | a :: l,h=>by rw [List.flatMap_cons,List.flatMap_cons,h a (by simp),Zhk fun b hb=>h b (List.mem_cons_of_mem _ hb)]
theorem Zkb (a b:Nat):List.range (a * b)=(List.range a).flatMap fun i=>(List.range b).map fun j=>i * b + j:=by
 induction a with
 | zero=>rw [Nat.zero_mul]; rfl
 | succ a ih=>
  rw [Nat.succ_mul,List.range_add,ih,List.range_succ,List.flatMap_append,List.flatMap_cons,List.flatMap_nil,List.append_nil]
theorem Zej (rest:List Int):(List.range rest.length).map (fun i=>rest.getD i 0)=rest:=by
 refine List.ext_getElem (by simp) fun i h1 h2=>?_
 simp [List.getD_eq_getElem?_getD,List.getElem?_eq_getElem h2]
theorem Zj3 (rest:List Int) (F:Int->List (List Int)):(List.range rest.length).flatMap (fun i=>F (rest.getD i 0))=rest.flatMap F:=by
 have e:rest.flatMap F=((List.range rest.length).map (fun i=>rest.getD i 0)).flatMap F:=by rw [Zej]
 rw [e,List.flatMap_map]
theorem Zec:∀ (k:Nat) (rest:List Int),rest.length=k->rest.Nodup->(List.range (rm (k + 1))).map (rowGo k rest)=seqs k rest
 | 0,_,_,_=>rfl
 | k + 1,rest,hl,hn=>by
  have e1:rm (k + 1 + 1)=rest.length * rm (k + 1):=by rw [hl,Nat.mul_comm]; rfl
  have hp:=Zde (k + 1)
  rw [e1,Zkb,List.map_flatMap]
  have e2:∀ i ∈ List.range rest.length,List.map (rowGo (k + 1) rest) ((List.range (rm (k + 1))).map fun j=>i * rm (k + 1) + j)=(seqs k (rest.erase (rest.getD i 0))).map (rest.getD i 0 :: ·):=by
   intro i hi
   have hi:i < rest.length:=List.mem_range.mp hi
   have ee:rest.getD i 0=rest[i]:=by rw [List.getD_eq_getElem?_getD,List.getElem?_eq_getElem hi]; rfl
   have er:rest.erase rest[i]=rest.eraseIdx i:=by rw [List.erase_eq_eraseIdx_of_idxOf]; exact List.Nodup.idxOf_getElem hn i hi
   have el:(rest.eraseIdx i).length=k:=by rw [List.length_eraseIdx_of_lt hi]; omega
   rw [ee,er,<- Zec k _ el (List.Nodup.sublist (List.eraseIdx_sublist _ _) hn),List.map_map,List.map_map]
   refine List.map_congr_left fun j hj=>?_
   have hj:j < rm (k + 1):=List.mem_range.mp hj
   have d1:(i * rm (k + 1) + j) / rm (k + 1)=i:=by rw [Nat.mul_comm,Nat.mul_add_div hp,Nat.div_eq_of_lt hj,Nat.add_zero]
   have d2:(i * rm (k + 1) + j) % rm (k + 1)=j:=by rw [Nat.mul_comm,Nat.mul_add_mod,Nat.mod_eq_of_lt hj]
   show rowGo (k + 1) rest (i * rm (k + 1) + j)=_
   unfold rowGo
   rw [d1,d2,ee]
   rfl
  rw [Zhk e2]
  exact Zj3 rest fun e=>(seqs k (rest.erase e)).map (e :: ·)
theorem Zdz:∀ (k:Nat) (rest:List Int),rest.length=k->∀ s ∈ seqs k rest,s.Perm rest
 | 0,rest,hl,s,hs=>by
  have e1:rest=[]:=List.eq_nil_of_length_eq_zero hl
  have e2:s=[]:=by simpa [seqs] using hs
  rw [e1,e2]
 | k + 1,rest,hl,s,hs=>by
  unfold seqs at hs
  obtain ⟨e,he,hs⟩:=List.mem_flatMap.mp hs
  obtain ⟨s',hs',rfl⟩:=List.mem_map.mp hs
  have el:(rest.erase e).length=k:=by rw [List.length_erase_of_mem he]; omega
  exact ((Zdz k _ el s' hs').cons e).trans (List.perm_cons_erase he).symm
def rowNo (E:List Int) (num:Nat):List Int:=E.take 1 ++ rowGo (E.length - 1) (E.drop 1) num
def rowsA (E:List Int):List (List Int):=(List.range (rm E.length)).map (rowNo E)
theorem Zia {a:Int} {l:List Int} (hn:(a :: l).Nodup):rowsA (a :: l)=(seqs l.length l).map ([a] ++ ·):=by
 unfold rowsA
 rw [<- Zec l.length l rfl (List.nodup_cons.mp hn).2,List.map_map]
 rfl
theorem Zh9 {E:List Int} (hn:E.Nodup):∀ r ∈ rowsA E,r.Perm E/\r.head? = E.head?:=by
 cases E with
 | nil=>
  intro r hr
  have:r=[]:=by simpa [rowsA,rm,rowNo,rowGo] using hr
  rw [this]
  exact ⟨List.Perm.refl _,rfl⟩
 | cons a l=>
  intro r hr
  rw [Zia hn] at hr
  obtain ⟨s,hs,rfl⟩:=List.mem_map.mp hr
  exact ⟨(Zdz l.length l rfl s hs).cons a,rfl⟩
def wayN (g:Nat->Nat):Nat->Nat
 | 0=>1
 | n + 1=>wayN g n * g n
def endsP (ts:List (Int × Int)) (p:Nat):List Int:=endsBelow ts (2 * ts.length) (p:Int)
def degW (ts:List (Int × Int)) (p:Nat):Nat:=rm (endsP ts p).length
def ways (N:Nat) (ts:List (Int × Int)):Nat:=wayN (degW ts) N
section
variable {P:Program} {w:World} {K:PySem.W.Frag} {mg:Str->Option Value} {base:Heap} {f:Addr} {fd:FuncData}
def fRm:DSp:=fun ds Post=>∃ n:Nat,ds=[.int (n:Int)]/\n<=1000/\Post (.int (rm n:Nat))
theorem Znx (ds:List D):cutD ds none (some 1)=ds.take 1:=by
 cases ds with
 | nil=>rfl
 | cons d ds=>exact Zi1 (d :: ds) (j:=1) (by simp)
theorem Zdy (ds:List D):cutD ds (some 1) none=ds.drop 1:=by
 cases ds with
 | nil=>rfl
 | cons d ds=>exact Zdw (d :: ds) (j:=1) (by simp)
theorem Zen {R:List Int} {k m:Nat} (h:R.length=k + 1):rowGo R.length R m=R.getD (m / rm R.length) 0 :: rowGo k (R.eraseIdx (m / rm R.length)) (m % rm R.length):=by rw [h]; rfl
theorem Zch:∀ (R:List Int) (i:Nat),(R.eraseIdx i).map D.int=(R.map D.int).eraseIdx i
 | [],_=>rfl
 | _ :: _,0=>rfl
 | a :: R,i + 1=>congrArg (D.int a :: ·) (Zch R i)
theorem Zc3 (ts:List (Int × Int)) (p:Nat):(endsP ts p).length<=2 * ts.length:=Zdf ts _ _
theorem Zp5 (mb:Mb mg) (F:Fun K "rows_many" "rows_many" s_rows_many f fd):FnOk P w K mg base CX0 1 f fd ["many"] (spD K fRm):=by
 refine F.ok sc_rows_many (Zbc fun ds Post h=>by obtain ⟨_,rfl,_⟩:=h; rfl) (fun cdv A outer s H vs Q E hr h=>?_)
 have hu:=Zb5 hr
 refine ⟨_,(Zaf (Zar (i:=1) sc_rows_many.nd rfl (Or.inl rfl) Zag) (Zaf (Zcf PassesOwn.never rfl (Zft rfl (mb "range" (by decide)) (Zaa Zag (Zaa (pv 0) Zad))) (Zas (i:=2) sc_rows_many.nd rfl (Or.inl rfl)) (Zai (Zjj (i:=1) sc_rows_many.nd rfl (Or.inl rfl) (pv 2) Zot))) (Zai (Zat (pv 1))))),Zcu (fun ds Post hf=>?_) h⟩
 obtain ⟨n,rfl,hn,q⟩:=hf
 refine ⟨by simp,?_⟩
 dsimp only [startD,List.tail,List.map,List.length,List.replicate]
 refine Zal (Za0 (Zao ?_))
 refine Za9 (fun Δ=>∃ x:L2.Slot,Δ = [.val (.int (n:Int)),.val (.int (rm n:Nat)),x]) ?_ ?_
 ·refine Zce (Zf0 (Zab (Zao (Zab (Zac rfl (Zae ⟨2,n,rfl,by omega,fun i Δ=>∃ x:L2.Slot,Δ = [.val (.int (n:Int)),.val (.int (rm (i + 2):Nat)),x],⟨_,rfl⟩,?_,?_⟩))))))
  ·rintro i d Δ2 hd ⟨x,rfl⟩
   obtain ⟨hi,rfl⟩:=Zbx hd
   refine Zbf (Zjq rfl (Zac rfl ⟨rfl,Zo0 (Or.inr ⟨by omega,by omega⟩) ⟨.val (.int (2 + (i:Int))),?_⟩⟩))
   have e:((rm (i + 2):Nat):Int) * (2 + (i:Int))=((rm (i + 1 + 2):Nat):Int):=by
    show _=((rm (i + 2) * (i + 2):Nat):Int)
    rw [Int.natCast_mul]
    congr 1
    omega
   rw [e]
   rfl
  ·rintro Δ2 ⟨x,rfl⟩
   rw [Za8]
   refine ⟨x,?_⟩
   have e:rm (((n:Int) - 2).toNat + 2)=rm n:=by
    by_cases h2:2<=n
    ·rw [show ((n:Int) - 2).toNat + 2=n by omega]
    ·rw [show ((n:Int) - 2).toNat + 2=2 by omega]
     match n,h2 with
     | 0,_=>rfl
     | 1,_=>rfl
     | n + 2,h2=>omega
   rw [e]
 rintro Δ1 ⟨x,rfl⟩
 exact Za6 (Zac rfl q)
end
def rowNum:List Int->List Int->Nat
 | _,[]=>0
 | rest,x :: r=>rest.idxOf x * rm rest.length + rowNum (rest.eraseIdx (rest.idxOf x)) r
theorem Zd8:∀ (r rest:List Int),r.Perm rest->rowNum rest r < rm (rest.length + 1)
 | [],rest,h=>by
  rw [h.symm.eq_nil]; exact Nat.one_pos
 | x :: r,rest,h=>by
  have hx:x ∈ rest:=h.mem_iff.mp (by simp)
  obtain ⟨i1,i2,_⟩:=Ze6 hx
  have e:rest.eraseIdx (rest.idxOf x)=rest.erase x:=(List.erase_eq_eraseIdx_of_idxOf rfl).symm
  have hp:r.Perm (rest.eraseIdx (rest.idxOf x)):=by rw [e]; exact List.Perm.cons_inv (h.trans (List.perm_cons_erase hx))
  have ih:=Zd8 r _ hp
  have hl:(rest.eraseIdx (rest.idxOf x)).length + 1=rest.length:=by rw [List.length_eraseIdx_of_lt i1]; omega
  rw [hl] at ih
  show rest.idxOf x * rm rest.length + _ < _
  obtain ⟨k,hk⟩:∃ k,rest.length=k + 1:=⟨rest.length - 1,by omega⟩
  have e2:rm (rest.length + 1)=rest.length * rm rest.length:=by rw [hk,Nat.mul_comm]; rfl
  rw [e2]
  have:(rest.idxOf x + 1) * rm rest.length<=rest.length * rm rest.length:=Nat.mul_le_mul_right _ (by omega)
  rw [Nat.succ_mul] at this
  omega
theorem Zdl {a b n:Nat} (h:b < n):(a * n + b) / n=a/\(a * n + b) % n=b:=by
 have hn:0 < n:=by omega
 exact ⟨by rw [Nat.mul_comm,Nat.mul_add_div hn,Nat.div_eq_of_lt h,Nat.add_zero],by rw [Nat.mul_comm,Nat.mul_add_mod,Nat.mod_eq_of_lt h]⟩
theorem Zl9:∀ (r rest:List Int),r.Perm rest->rowGo rest.length rest (rowNum rest r)=r
 | [],rest,h=>by rw [h.symm.eq_nil]; rfl
 | x :: r,rest,h=>by
  have hx:x ∈ rest:=h.mem_iff.mp (by simp)
  obtain ⟨i1,i2,_⟩:=Ze6 hx
  have e:rest.eraseIdx (rest.idxOf x)=rest.erase x:=(List.erase_eq_eraseIdx_of_idxOf rfl).symm
  have hp:r.Perm (rest.eraseIdx (rest.idxOf x)):=by rw [e]; exact List.Perm.cons_inv (h.trans (List.perm_cons_erase hx))
  have hl:(rest.eraseIdx (rest.idxOf x)).length + 1=rest.length:=by rw [List.length_eraseIdx_of_lt i1]; omega
  have lt:=Zd8 r _ hp
  rw [hl] at lt
  have ih:=Zl9 r _ hp
  rw [Zen hl.symm]
  show rest.getD ((rest.idxOf x * rm rest.length + _) / rm rest.length) 0 :: _=_
  obtain ⟨d1,d2⟩:=Zdl (a:=rest.idxOf x) lt
  have u:rowNum rest (x :: r)=rest.idxOf x * rm rest.length + rowNum (rest.eraseIdx (rest.idxOf x)) r:=rfl
  rw [u,d1,d2,ih,List.getD_eq_getElem?_getD,i2]
  rfl
theorem Zma:∀ (k:Nat) (rest:List Int),rest.length=k->rest.Nodup->∀ n,n < rm (k + 1)->rowNum rest (rowGo k rest n)=n
 | 0,rest,hl,_,n,hn=>by
  have:n=0:=by have:n < 1:=hn; omega
  subst this
  rfl
 | k + 1,rest,hl,nd,n,hn=>by
  have hp:=Zde (k + 1)
  have hn2:n < rm (k + 1) * (k + 1):=hn
  have hat:n / rm (k + 1) < rest.length:=by rw [hl]; exact Nat.div_lt_of_lt_mul hn2
  have hi:rest.idxOf (rest.getD (n / rm (k + 1)) 0)=n / rm (k + 1):=by
   rw [List.getD_eq_getElem?_getD,List.getElem?_eq_getElem hat]
   exact List.Nodup.idxOf_getElem nd _ hat
  show rowNum rest (rest.getD (n / rm (k + 1)) 0 :: rowGo k (rest.eraseIdx (n / rm (k + 1))) (n % rm (k + 1)))=n
  unfold rowNum
  rw [hi,hl,Zma k _ (by rw [List.length_eraseIdx_of_lt hat]; omega) (List.Nodup.sublist (List.eraseIdx_sublist _ _) nd) _ (Nat.mod_lt _ hp),Nat.mul_comm]
  exact Nat.div_add_mod n (rm (k + 1))
theorem Zha:∀ (k:Nat) (rest:List Int),rest.length=k->rowGo k rest 0=rest
 | 0,rest,hl=>(List.eq_nil_of_length_eq_zero hl).symm
 | k + 1,rest,hl=>by
  cases rest with
  | nil=>cases hl
  | cons a l=>
   show (a :: l).getD (0 / rm (k + 1)) 0 :: rowGo k ((a :: l).eraseIdx (0 / rm (k + 1))) (0 % rm (k + 1))=_
   rw [Nat.zero_div,Nat.zero_mod]
   show a :: rowGo k l 0=_
   rw [Zha k l (by simpa using hl)]
section
variable (E:Nat->List Int)
def numN (o:List (List Int)):Nat->Nat
 | 0=>0
 | k + 1=>numN o k * rm (E k).length + rowNum ((E k).drop 1) ((o.getD k []).drop 1)
def ordN:Nat->Nat->List (List Int)
 | 0,_=>[]
 | k + 1,n=>ordN k (n / rm (E k).length) ++ [rowNo (E k) (n % rm (E k).length)]
theorem Zbn:∀ (k n:Nat),(ordN E k n).length=k
 | 0,_=>rfl
 | k + 1,n=>by
  show (ordN E k _ ++ [_]).length=_
  rw [List.length_append,Zbn k]; rfl
theorem Zhy:∀ (k n p:Nat) (r:List Int),(ordN E k n)[p]? = some r->r ∈ rowsA (E p)
 | 0,_,p,r,h=>by simp [ordN] at h
 | k + 1,n,p,r,h=>by
  have h:(ordN E k (n / rm (E k).length) ++ [rowNo (E k) (n % rm (E k).length)])[p]? = some r:=h
  by_cases hp:p < k
  ·rw [List.getElem?_append_left (by rw [Zbn]; exact hp)] at h
   exact Zhy k _ p r h
  ·rw [List.getElem?_append_right (by rw [Zbn]; omega),Zbn] at h
   have h0:p - k=0:=by have:=(List.getElem?_eq_some_iff.mp h).1; simpa using this
   rw [h0] at h
   have e:rowNo (E k) (n % rm (E k).length)=r:=by simpa using h
   rw [show p=k by omega,<- e]
   exact List.mem_map.mpr ⟨_,List.mem_range.mpr (Nat.mod_lt _ (Zde _)),rfl⟩
end
theorem Zhj {E r:List Int} (hp:r.Perm E) (hh:r.head? = E.head?):(r.drop 1).Perm (E.drop 1)/\r.take 1=E.take 1:=by
 cases E with
 | nil=>rw [hp.eq_nil]; exact ⟨List.Perm.refl _,rfl⟩
 | cons a l=>
  cases r with
  | nil=>cases hh
  | cons b t=>
   have e:b=a:=Option.some.inj hh
   subst e
   exact ⟨List.Perm.cons_inv hp,rfl⟩
theorem Znf (E:List Int):rm ((E.drop 1).length + 1)=rm E.length:=by
 cases E with
 | nil=>rfl
 | cons a l=>rfl
theorem Zja {E r:List Int} (hp:r.Perm E) (hh:r.head? = E.head?):rowNo E (rowNum (E.drop 1) (r.drop 1))=r/\rowNum (E.drop 1) (r.drop 1) < rm E.length:=by
 obtain ⟨h1,h2⟩:=Zhj hp hh
 refine ⟨?_,by rw [<- Znf]; exact Zd8 _ _ h1⟩
 unfold rowNo
 rw [<- h2,show E.length - 1=(E.drop 1).length by rw [List.length_drop],Zl9 _ _ h1,List.take_append_drop]
theorem Zke {E:List Int} (nd:E.Nodup) {n:Nat} (hn:n < rm E.length):rowNum (E.drop 1) ((rowNo E n).drop 1)=n:=by
 cases E with
 | nil=>
  have:n=0:=by have:n < 1:=hn; omega
  subst this; rfl
 | cons a l=>exact Zma l.length l rfl (List.nodup_cons.mp nd).2 n hn
theorem Zeh (E:List Int):rowNo E 0=E:=by
 unfold rowNo
 rw [Zha _ _ (by rw [List.length_drop]),List.take_append_drop]
theorem Zio {E:Nat->List Int} (nd:∀ p,(E p).Nodup):∀ (k n:Nat),n < wayN (fun p=>rm (E p).length) k->∀ o,(∀ p,p < k->o.getD p []=(ordN E k n).getD p [])->numN E o k=n
 | 0,n,h,o,_=>by have:n < 1:=h; show 0=n; omega
 | k + 1,n,h,o,ho=>by
  have hw:n < wayN (fun p=>rm (E p).length) k * rm (E k).length:=h
  have hp:=Zde (E k).length
  have hd:n / rm (E k).length < wayN (fun p=>rm (E p).length) k:=Nat.div_lt_of_lt_mul (by rw [Nat.mul_comm]; exact hw)
  have at1:o.getD k []=rowNo (E k) (n % rm (E k).length):=by
   rw [ho k (Nat.lt_succ_self k)]
   show (ordN E k _ ++ [_]).getD k []=_
   rw [List.getD_eq_getElem?_getD,List.getElem?_append_right (by rw [Zbn]; exact Nat.le_refl _),Zbn,Nat.sub_self]
   rfl
  have pre:∀ p,p < k->o.getD p []=(ordN E k (n / rm (E k).length)).getD p []:=fun p hp=>by
   rw [ho p (by omega)]
   show (ordN E k _ ++ [_]).getD p []=_
   rw [List.getD_eq_getElem?_getD,List.getElem?_append_left (by rw [Zbn]; exact hp),<- List.getD_eq_getElem?_getD]
  show numN E o k * rm (E k).length + rowNum ((E k).drop 1) ((o.getD k []).drop 1)=n
  rw [Zio nd k _ hd o pre,at1,Zke (nd k) (Nat.mod_lt _ hp),Nat.mul_comm]
  exact Nat.div_add_mod n _
theorem Zgo {E:Nat->List Int} {o:List (List Int)} (ho:∀ p r,o[p]? = some r->r.Perm (E p)/\r.head? = (E p).head?):∀ k,k<=o.length->numN E o k < wayN (fun p=>rm (E p).length) k/\ordN E k (numN E o k)=o.take k
 | 0,_=>⟨Nat.one_pos,by rw [List.take_zero]; rfl⟩
 | k + 1,hk=>by
  obtain ⟨i1,i2⟩:=Zgo ho k (by omega)
  have hr:o[k]? = some (o.getD k []):=by rw [List.getD_eq_getElem?_getD,List.getElem?_eq_getElem (by omega)]; rfl
  obtain ⟨p1,p2⟩:=ho k _ hr
  obtain ⟨q1,q2⟩:=Zja p1 p2
  obtain ⟨d1,d2⟩:=Zdl (a:=numN E o k) q2
  constructor
  ·show numN E o k * rm (E k).length + _ < wayN (fun p=>rm (E p).length) k * rm (E k).length
   have:(numN E o k + 1) * rm (E k).length<=wayN (fun p=>rm (E p).length) k * rm (E k).length:=Nat.mul_le_mul_right _ (by omega)
   rw [Nat.succ_mul] at this
   omega
  ·show ordN E k ((numN E o k * rm (E k).length + _) / rm (E k).length) ++ [rowNo (E k) ((numN E o k * rm (E k).length + _) % rm (E k).length)]=_
   rw [d1,d2,i2,q1,List.take_add_one,hr]
   rfl
theorem Zmf {k:Nat} {rest:List Int} (hl:rest.length=k) (nd:rest.Nodup) {n:Nat} (hn:n < rm (k + 1)):(rowGo k rest n).Perm rest:=by
 refine Zdz k rest hl _ ?_
 rw [<- Zec k rest hl nd]
 exact List.mem_map.mpr ⟨n,List.mem_range.mpr hn,rfl⟩
structure Nxt (pre:List Int) (x:Int) (suf:List Int) (m:Int) (ms:List Int):Prop where
 down:suf.Pairwise (fun a b=>b<=a)
 mem:m ∈ suf
 lt:x < m
 le:∀ e ∈ suf,x < e->m<=e
 perm:ms.Perm ((x :: suf).erase m)
 up:ms.Pairwise (· < ·)
theorem Zea {l:List Int} (h:l.Pairwise (· < ·)) {i j:Nat} (hi:i < l.length) (hj:j < l.length) (hij:i < j):l[i] < l[j]:=List.pairwise_iff_getElem.mp h i j hi hj hij
theorem Zdq {l:List Int} (h:l.Pairwise (· < ·)):l.Nodup:=h.imp fun z=>by omega
theorem Zkl:∀ (k:Nat) (rest:List Int),rest.length=k->rest.Pairwise (· < ·)->∀ n,n < rm (k + 1) →
  (n + 1=rm (k + 1)/\(rowGo k rest n).Pairwise (fun a b=>b<=a))\/(n + 1 < rm (k + 1)/\∃ pre x suf m ms,rowGo k rest n=pre ++ x :: suf/\Nxt pre x suf m ms/\rowGo k rest (n + 1)=pre ++ m :: ms)
 | 0,rest,hl,_,n,hn=>by
  have h1:rm (0 + 1)=1:=rfl
  rw [h1] at hn ⊢
  refine .inl ⟨by omega,?_⟩
  show ([]:List Int).Pairwise _
  exact .nil
 | k + 1,rest,hl,up,n,hn=>by
  have nd:=Zdq up
  have hb:=Zde (k + 1)
  have eR:rm (k + 1 + 1)=rm (k + 1) * (k + 1):=rfl
  rw [eR] at hn ⊢
  have hd:n / rm (k + 1) < k + 1:=Nat.div_lt_of_lt_mul hn
  have hr:n % rm (k + 1) < rm (k + 1):=Nat.mod_lt _ hb
  have hdm:=Nat.div_add_mod n (rm (k + 1))
  have u:∀ q,rowGo (k + 1) rest q=rest.getD (q / rm (k + 1)) 0 :: rowGo k (rest.eraseIdx (q / rm (k + 1))) (q % rm (k + 1)):=fun _=>rfl
  have gx:∀ i (hi:i < rest.length),rest.getD i 0=rest[i]:=fun i hi=>by rw [List.getD_eq_getElem?_getD,List.getElem?_eq_getElem hi]; rfl
  have hl':∀ i,i < k + 1->(rest.eraseIdx i).length=k:=fun i hi=>by rw [List.length_eraseIdx_of_lt (by omega)]; omega
  have up':∀ i,(rest.eraseIdx i).Pairwise (· < ·):=fun i=>List.Pairwise.sublist (List.eraseIdx_sublist _ _) up
  rw [u n]
  generalize hD:n / rm (k + 1)=d at *
  generalize hRr:n % rm (k + 1)=r at *
  have hdl:d < rest.length:=by omega
  rcases Zkl k (rest.eraseIdx d) (hl' d hd) (up' d) r hr with ⟨a1,a2⟩ | ⟨a1,pre,x,suf,m,ms,b1,b2,b3⟩
  ·have tp:=Zmf (hl' d hd) (Zdq (up' d)) hr
   have er:∀ i (hi:i < rest.length),rest.erase rest[i]=rest.eraseIdx i:=fun i hi=>by rw [List.erase_eq_eraseIdx_of_idxOf]; exact List.Nodup.idxOf_getElem nd i hi
   have whole:(rest[d] :: rowGo k (rest.eraseIdx d) r).Perm rest:=by
    refine (tp.cons _).trans ?_
    rw [<- er d hdl]
    exact (List.perm_cons_erase (List.getElem_mem hdl)).symm
   have inR:∀ e ∈ rowGo k (rest.eraseIdx d) r,∃ j,∃ hj:j < rest.length,rest[j]=e/\j ≠ d:=fun e he=>by
    obtain ⟨j,hj,ej⟩:=List.mem_iff_getElem.mp (whole.mem_iff.mp (List.mem_cons_of_mem _ he))
    refine ⟨j,hj,ej,fun z=>?_⟩
    subst z
    have:=(whole.nodup_iff.mpr nd)
    rw [ej] at this
    exact (List.nodup_cons.mp this).1 he
   rw [gx d hdl]
   by_cases hk:d=k
   ·left
    refine ⟨?_,List.pairwise_cons.mpr ⟨fun e he=>?_,a2⟩⟩
    ·rw [hk] at hdm
     rw [Nat.mul_succ]
     omega
    ·obtain ⟨j,hj,ej,jd⟩:=inR e he
     have:=Zea up hj hdl (by omega)
     omega
   ·right
    have hd1:d + 1 < rest.length:=by omega
    have e1:n + 1=(d + 1) * rm (k + 1) + 0:=by rw [Nat.succ_mul,Nat.mul_comm d]; omega
    obtain ⟨q1,q2⟩:=Zdl (a:=d + 1) hb
    refine ⟨?_,[],rest[d],rowGo k (rest.eraseIdx d) r,rest[d + 1],rest.eraseIdx (d + 1),rfl,⟨a2,?_,Zea up hdl hd1 (by omega),fun e he hx=>?_,?_,up' _⟩,?_⟩
    ·rw [e1,Nat.add_zero,Nat.mul_comm (rm (k + 1))]
     exact Nat.mul_lt_mul_of_pos_right (by omega) hb
    ·rcases List.mem_cons.mp (whole.mem_iff.mpr (List.getElem_mem hd1)) with z | z
     ·have:=Zea up hdl hd1 (by omega); omega
     ·exact z
    ·obtain ⟨j,hj,ej,jd⟩:=inR e he
     by_cases hjd:j < d
     ·have:=Zea up hj hdl hjd; omega
     ·by_cases h1:j=d + 1
      ·subst h1; omega
      ·have:=Zea up hd1 hj (by omega); omega
    ·rw [<- er (d + 1) hd1]
     exact (whole.erase _).symm
    ·rw [u (n + 1),e1,q1,q2,gx _ hd1,Zha _ _ (hl' _ (by omega))]
     rfl
  ·right
   have e1:n + 1=d * rm (k + 1) + (r + 1):=by rw [Nat.mul_comm d]; omega
   obtain ⟨q1,q2⟩:=Zdl (a:=d) a1
   refine ⟨?_,rest.getD d 0 :: pre,x,suf,m,ms,by rw [b1]; rfl,⟨b2.down,b2.mem,b2.lt,b2.le,b2.perm,b2.up⟩,?_⟩
   ·have:(d + 1) * rm (k + 1)<=rm (k + 1) * (k + 1):=by rw [Nat.mul_comm (rm (k + 1))]; exact Nat.mul_le_mul_right _ (by omega)
    rw [Nat.succ_mul] at this
    omega
   ·rw [u (n + 1),e1,q1,q2,b3]
    rfl
theorem Zln {E:List Int} (up:E.Pairwise (· < ·)) {n:Nat} (hn:n < rm E.length):(n + 1=rm E.length/\((rowNo E n).drop 1).Pairwise (fun a b=>b<=a))\/(n + 1 < rm E.length/\∃ pre x suf m ms,pre ≠ []/\rowNo E n=pre ++ x :: suf/\Nxt pre x suf m ms/\rowNo E (n + 1)=pre ++ m :: ms):=by
 cases E with
 | nil=>
  have h1:rm ([]:List Int).length=1:=rfl
  rw [h1] at hn ⊢
  refine .inl ⟨by omega,?_⟩
  show ([]:List Int).Pairwise _
  exact .nil
 | cons a l=>
  rcases Zkl l.length l rfl (List.pairwise_cons.mp up).2 n hn with ⟨h1,h2⟩ | ⟨h1,pre,x,suf,m,ms,b1,b2,b3⟩
  ·exact .inl ⟨h1,h2⟩
  ·refine .inr ⟨h1,a :: pre,x,suf,m,ms,by simp,?_,⟨b2.down,b2.mem,b2.lt,b2.le,b2.perm,b2.up⟩,?_⟩
   ·show a :: rowGo l.length l n=_
    rw [b1]; rfl
   ·show a :: rowGo l.length l (n + 1)=_
    rw [b3]; rfl
theorem Zhd {E:Nat->List Int} (up:∀ p,(E p).Pairwise (· < ·)):∀ (k n:Nat),n < wayN (fun p=>rm (E p).length) k →
  (n + 1=wayN (fun p=>rm (E p).length) k/\∀ q,q < k->(((ordN E k n).getD q []).drop 1).Pairwise (fun a b=>b<=a)) ∨
  (n + 1 < wayN (fun p=>rm (E p).length) k/\∃ p pre x suf m ms,p < k/\pre ≠ []/\(ordN E k n).getD p []=pre ++ x :: suf/\Nxt pre x suf m ms/\(∀ q,p < q->q < k->(((ordN E k n).getD q []).drop 1).Pairwise (fun a b=>b<=a))/\ordN E k (n + 1)=(ordN E k n).take p ++ (pre ++ m :: ms) :: (List.range' (p + 1) (k - (p + 1))).map E)
 | 0,n,h=>by
  have:n < 1:=h
  refine .inl ⟨?_,fun q hq=>by omega⟩
  show n + 1=1
  omega
 | k + 1,n,h=>by
  have hb:=Zde (E k).length
  have eW:wayN (fun p=>rm (E p).length) (k + 1)=wayN (fun p=>rm (E p).length) k * rm (E k).length:=rfl
  rw [eW] at h ⊢
  have hd:n / rm (E k).length < wayN (fun p=>rm (E p).length) k:=Nat.div_lt_of_lt_mul (by rw [Nat.mul_comm]; exact h)
  have hr:n % rm (E k).length < rm (E k).length:=Nat.mod_lt _ hb
  have hdm:=Nat.div_add_mod n (rm (E k).length)
  have u:∀ q,ordN E (k + 1) q=ordN E k (q / rm (E k).length) ++ [rowNo (E k) (q % rm (E k).length)]:=fun _=>rfl
  have last:∀ (A:List (List Int)) (r:List Int),A.length=k->(A ++ [r]).getD k []=r:=fun A r hA=>by
   rw [List.getD_eq_getElem?_getD,List.getElem?_append_right (by omega),hA,Nat.sub_self]; rfl
  have pre1:∀ (A:List (List Int)) (r:List Int) (q:Nat),A.length=k->q < k->(A ++ [r]).getD q []=A.getD q []:=fun A r q hA hq=>by
   rw [List.getD_eq_getElem?_getD,List.getElem?_append_left (by omega),<- List.getD_eq_getElem?_getD]
  rw [u n]
  generalize hD:n / rm (E k).length=d at *
  generalize hRr:n % rm (E k).length=r at *
  have hA:=Zbn E k d
  rcases Zln (up k) hr with ⟨a1,a2⟩ | ⟨a1,pre,x,suf,m,ms,b0,b1,b2,b3⟩
  ·have e1:n + 1=(d + 1) * rm (E k).length + 0:=by rw [Nat.succ_mul,Nat.mul_comm d]; omega
   obtain ⟨q1,q2⟩:=Zdl (a:=d + 1) hb
   rcases Zhd up k d hd with ⟨c1,c2⟩ | ⟨c1,p,pre,x,suf,m,ms,p1,p2,p3,p4,p5,p6⟩
   ·left
    refine ⟨by rw [e1,c1]; rfl,fun q hq=>?_⟩
    by_cases hqk:q=k
    ·subst hqk; rw [last _ _ hA]; exact a2
    ·rw [pre1 _ _ q hA (by omega)]; exact c2 q (by omega)
   ·right
    refine ⟨?_,p,pre,x,suf,m,ms,by omega,p2,by rw [pre1 _ _ p hA p1]; exact p3,p4,fun q hpq hq=>?_,?_⟩
    ·rw [e1,Nat.add_zero]; exact Nat.mul_lt_mul_of_pos_right c1 hb
    ·by_cases hqk:q=k
     ·subst hqk; rw [last _ _ hA]; exact a2
     ·rw [pre1 _ _ q hA (by omega)]; exact p5 q hpq (by omega)
    ·rw [u (n + 1),e1,q1,q2,Zeh,p6,List.take_append_of_le_length (by omega),List.append_assoc]
     congr 1
     show (pre ++ m :: ms) :: (_ ++ [E k])=_
     congr 1
     have e2:k + 1 - (p + 1)=(k - (p + 1)) + 1:=by omega
     rw [e2,List.range'_concat,List.map_append]
     congr 1
     show [E k]=[E (p + 1 + 1 * (k - (p + 1)))]
     rw [show p + 1 + 1 * (k - (p + 1))=k by omega]
  ·right
   have e1:n + 1=d * rm (E k).length + (r + 1):=by rw [Nat.mul_comm d]; omega
   obtain ⟨q1,q2⟩:=Zdl (a:=d) a1
   refine ⟨?_,k,pre,x,suf,m,ms,Nat.lt_succ_self k,b0,by rw [last _ _ hA]; exact b1,b2,fun q hpq hq=>by omega,?_⟩
   ·have:(d + 1) * rm (E k).length<=wayN (fun p=>rm (E p).length) k * rm (E k).length:=Nat.mul_le_mul_right _ (by omega)
    rw [Nat.succ_mul] at this
    omega
   ·rw [u (n + 1),e1,q1,q2,b3,List.take_append_of_le_length (by omega),List.take_of_length_le (by omega),Nat.sub_self]
    rfl
section
variable {P:Program} {w:World} {K:PySem.W.Frag} {mg:Str->Option Value} {base:Heap} {f:Addr} {fd:FuncData}
theorem Znc (mb:Mb mg) (F:Fun K "is_whole" "is_whole" s_is_whole f fd):FnOk P w K mg base CX0 1 f fd ["thing"] (spD K fWhole):=by
 refine F.ok sc_is_whole (Zbc fun ds Post h=>by obtain ⟨_,rfl,_⟩:=h; rfl) (fun cdv A outer s H vs Q E hr h=>?_)
 have hu:=Zb5 hr
 refine ⟨_,(Zai (Zat (Ziq (Zah (isiUK K) rfl (mb "isinstance" (by decide)) Zan (Zaa (pv 0) (Zaa (Za5 rfl (mb "int" (by decide)) Zhi (show RelV (.ty "int") _ from rfl)) Zad))) (Zjs (Zlz (Zah (isiUK K) rfl (mb "isinstance" (by decide)) Zan (Zaa (pv 0) (Zaa (Za5 rfl (mb "bool" (by decide)) Zfd (show RelV (.ty "bool") _ from rfl)) Zad)))))))),Zcu (fun ds Post hf=>?_) h⟩
 obtain ⟨e,rfl,q⟩:=hf
 refine ⟨by simp,?_⟩
 dsimp only [startD,List.tail,List.map,List.length]
 refine Za6 (Zfa (Zaw (Zab (Zac rfl (Zab (Zbm (Zae (Zba (T:="int") (b:=true) rfl (fun _=>by rfl) ⟨_,rfl,?_⟩))))))))
 rw [if_pos rfl]
 refine Zg5 (Zaw (Zab (Zac rfl (Zab (Zbm (Zae (Zba (T:="int") (b:=false) rfl (fun _=>by rfl) ⟨_,rfl,?_⟩)))))))
 exact q
end
theorem Zl3 (a:Nat):∀ b,rm a * rm b<=rm (a + b)
 | 0=>by rw [Nat.add_zero]; exact Nat.le_of_eq (Nat.mul_one _)
 | 1=>by
  rw [show rm 1=1 from rfl,Nat.mul_one]
  exact Zjd (Nat.le_succ a)
 | b + 2=>by
  have ih:=Zl3 a (b + 1)
  have e1:rm (b + 2)=rm (b + 1) * (b + 1):=rfl
  have e2:rm (a + (b + 2))=rm (a + (b + 1)) * (a + (b + 1)):=by
   rw [show a + (b + 2)=a + b + 2 by omega,show a + (b + 1)=a + b + 1 by omega]; rfl
  rw [e1,e2,<- Nat.mul_assoc]
  exact Nat.mul_le_mul ih (by omega)
def sumE (ts:List (Int × Int)):Nat->Nat
 | 0=>0
 | k + 1=>sumE ts k + (endsP ts k).length
theorem Zj8 (ts:List (Int × Int)):∀ k,wayN (degW ts) k<=rm (sumE ts k)
 | 0=>Nat.le_refl 1
 | k + 1=>Nat.le_trans (Nat.mul_le_mul_right _ (Zj8 ts k)) (Zl3 _ _)
theorem Zf9 (ts:List (Int × Int)):∀ k,((List.range k).flatMap (endsP ts)).Nodup/\((List.range k).flatMap (endsP ts)).length=sumE ts k/\∀ x ∈ (List.range k).flatMap (endsP ts),0<=x/\x < ((2 * ts.length:Nat):Int)/\placeAt ts x.toNat < (k:Int)
 | 0=>⟨by simp,rfl,fun x hx=>by simp at hx⟩
 | k + 1=>by
  obtain ⟨a,b,c⟩:=Zf9 ts k
  have m:∀ x ∈ endsP ts k,0<=x/\x < ((2 * ts.length:Nat):Int)/\placeAt ts x.toNat=(k:Int):=fun x hx=>by
   obtain ⟨e,he,hp,rfl⟩:=Zfb.mp hx
   exact ⟨by omega,by omega,by rw [Int.toNat_natCast]; exact hp⟩
  rw [List.range_succ,List.flatMap_append,List.flatMap_cons,List.flatMap_nil,List.append_nil]
  refine ⟨List.nodup_append.mpr ⟨a,Zb0 ts _ _,fun x hx y hy z=>?_⟩,by rw [List.length_append,b]; rfl,fun x hx=>?_⟩
  ·have h1:=(c x hx).2.2
   have h2:=(m y hy).2.2
   rw [z] at h1
   omega
  ·rcases List.mem_append.mp hx with h | h
   ·have:=c x h; exact ⟨this.1,this.2.1,by omega⟩
   ·have:=m x h; exact ⟨this.1,this.2.1,by omega⟩
theorem Zmi (ts:List (Int × Int)) (k:Nat):sumE ts k<=2 * ts.length:=by
 obtain ⟨a,b,c⟩:=Zf9 ts k
 have:=Zeg (m:=(List.range (2 * ts.length)).map fun e:Nat=>(e:Int)) a fun x hx=>by
  have h:=c x hx
  exact List.mem_map.mpr ⟨x.toNat,List.mem_range.mpr (by omega),by omega⟩
 rw [List.length_map,List.length_range] at this
 omega
theorem Zds {n:Nat} (h:n<=48):rm n<=258623241511168180642964355153611979969197632389120000000000:=Nat.le_trans (Zjd h) (by decide +kernel)
theorem Zes {ts:List (Int × Int)} (h:ts.length<=24) (k:Nat):wayN (degW ts) k<=258623241511168180642964355153611979969197632389120000000000:=Nat.le_trans (Zj8 ts k) (Zds (Nat.le_trans (Zmi ts k) (by omega)))
theorem Zb9 {n:Nat} (h:n<=258623241511168180642964355153611979969197632389120000000000):(n:Int) < 2 ^ 500:=by
 have h2:(n:Int)<=258623241511168180642964355153611979969197632389120000000000:=by omega
 exact Int.lt_of_le_of_lt h2 (by decide +kernel)
def fOmB:DSp:=fun ds Post=>∃ (N:Nat) (ts:List (Int × Int)),ds=[encWeb (N:Int) ts]/\WebOk (N:Int) ts/\Post (.int (ways N ts:Nat))
def fRowAtB:DSp:=fun ds Post=>∃ (E:List Int) (num:Nat),ds=[.lst (E.map .int),.int (num:Int)]/\E.length<=48/\num < rm E.length/\Post (encRow (rowNo E num))
def fOrdAt:DSp:=fun ds Post=>∃ (N:Nat) (ts:List (Int × Int)) (n:Nat),ds=[encWeb (N:Int) ts,.int (n:Int)]/\WebOk (N:Int) ts/\n < ways N ts/\Post (encOrd (ordN (endsP ts) N n))
def fRowNum:DSp:=fun ds Post=>∃ E r:List Int,ds=[.lst (E.map .int),encRow r]/\r.Perm E/\r.head? = E.head? /\ E.length<=48/\Post (.int (rowNum (E.drop 1) (r.drop 1):Nat))
def fNumOf:DSp:=fun ds Post=>∃ (N:Nat) (ts:List (Int × Int)) (o:List (List Int)),ds=[encWeb (N:Int) ts,encOrd o]/\WebOk (N:Int) ts/\OrdOk (N:Int) ts o/\Post (.int (numN (endsP ts) o N:Nat))
section
variable {P:Program} {w:World} {K:PySem.W.Frag} {mg:Str->Option Value} {base:Heap} {f:Addr} {fd:FuncData}
theorem Zov (mb:Mb mg) (C_rows_many:Callee P w K mg base 1 "rows_many" ["many"] (spD K fRm)) (C_ends_at:Callee P w K mg base 2 "ends_at" ["web","place"] (spN K fEnds)) (F:Fun K "orders_many" "orders_many" s_orders_many f fd):FnOk P w K mg base CX0 3 f fd ["web"] (spD K fOmB):=by
 refine F.ok sc_orders_many (Zbc fun ds Post h=>by obtain ⟨_,_,rfl,_⟩:=h; rfl) (fun cdv A outer s H vs Q E hr h=>?_)
 have hu:=Zb5 hr
 refine ⟨_,(Zaf (Zar (i:=1) sc_orders_many.nd rfl (Or.inl rfl) Zag) (Zaf (Zcf PassesOwn.never rfl (Zb3 rfl (mb "range" (by decide)) (Zaa (Zbg (ixK K hu) (pv 0) Zag (fun _ _=>rfl)) Zad)) (Zas (i:=2) sc_orders_many.nd rfl (Or.inl rfl)) (Zai (Zjj (i:=1) sc_orders_many.nd rfl (Or.inl rfl) (Zaz C_rows_many (hr.mono (by decide)) (Zaa (Zah (lenK K) rfl (mb "len" (by decide)) Zbk (Zaa (Zaz C_ends_at (hr.mono (by decide)) (Zaa (pv 0) (Zaa (pv 2) Zad))) Zad)) Zad)) Znk))) (Zai (Zat (pv 1))))),Zcu (fun ds Post hf=>?_) h⟩
 obtain ⟨N,ts,rfl,hW,q⟩:=hf
 refine ⟨by simp,?_⟩
 dsimp only [startD,List.tail,List.map,List.length,List.replicate]
 have hn:=hW.lo
 have hn2:=hW.hi
 have hts:=hW.len
 refine Zal (Za0 (Zao ?_))
 refine Za9 (fun Δ=>∃ x:L2.Slot,Δ = [.val (encWeb (N:Int) ts),.val (.int (ways N ts:Nat)),x]) ?_ ?_
 ·refine Zce (Zb2 (Zab (Ze7 (Zf3 (d:=.int (N:Int)) rfl rfl) (Zae ⟨_,rfl,by omega,by omega,fun i Δ=>∃ x:L2.Slot,Δ = [.val (encWeb (N:Int) ts),.val (.int (wayN (degW ts) i:Nat)),x],⟨_,rfl⟩,?_,?_⟩))))
  ·rintro i d Δ2 hd ⟨x,rfl⟩
   obtain ⟨hi,rfl⟩:=Zbx hd
   have hel:=Zc3 ts i
   have h1:=Zb9 (Zes hts i)
   have h2:=Zb9 (Zds (n:=(endsP ts i).length) (by omega))
   refine Zbf (Zjq rfl (Zap (Zab (Zaw (Zab (Zbo (Zdp (Zab (Zac rfl (Zab (Zac rfl (Zae ⟨(N:Int),ts,0 + (i:Int),rfl,hts,_,rfl,Zae (Zbb (Or.inl rfl) (Zae ⟨(endsP ts i).length,?_,by omega,rfl,Znt ⟨⟨by omega,h1⟩,by omega,h2⟩ ⟨.val (.int (0 + (i:Int))),?_⟩⟩))⟩))))))))))))
   ·rw [List.length_map,Int.zero_add]
    rfl
   rw [<- Int.natCast_mul]
   rfl
  ·rintro Δ2 ⟨x,rfl⟩
   rw [Za8,Int.toNat_natCast]
   exact ⟨x,rfl⟩
 rintro Δ1 ⟨x,rfl⟩
 exact Za6 (Zac rfl q)
theorem Zi0 (mb:Mb mg) (C_rows_many:Callee P w K mg base 1 "rows_many" ["many"] (spD K fRm)) (F:Fun K "row_at" "row_at" s_row_at f fd):FnOk P w K mg base CX0 2 f fd ["ends","number"] (spD K fRowAtB):=by
 refine F.ok sc_row_at (Zbc fun ds Post h=>by obtain ⟨_,_,rfl,_⟩:=h; rfl) (fun cdv A outer s H vs Q E hr h=>?_)
 have hu:=Zb5 hr
 refine ⟨_,(Zaf (Zar (i:=2) sc_row_at.nd rfl (Or.inl rfl) (Zbe (slK K) (pv 0) Zbs (Zbl Zag))) (Zaf (Zar (i:=3) sc_row_at.nd rfl (Or.inl rfl) (Zbe (slK K) (pv 0) (Zbl Zag) Zbs)) (Zaf (Zlg PassesOwn.never (truK K (pv 3) (fun _=>rfl)) (Zaf (Zfo (Zah Zh2 rfl (mb "divmod" (by decide)) Zfy (Zaa (pv 1) (Zaa (Zaz C_rows_many (hr.mono (by decide)) (Zaa (Zah (lenK K) rfl (mb "len" (by decide)) Zbk (Zaa (pv 3) Zad)) Zad)) Zad))) (gtupK (n:=2) K rfl (Zbq (Zas (i:=4) sc_row_at.nd rfl (Or.inl rfl)) (Zbq (Zas (i:=1) sc_row_at.nd rfl (Or.inl rfl)) Zed)))) (Zai (Zef (bmK K PySem.F.plainAttrs_list PySem.F.slot_list_append PySem.F.type_list_append Zc9 (pv 2) (Zaa (bmK K PySem.F.plainAttrs_list PySem.F.slot_list_pop PySem.F.type_list_pop Zhx (pv 3) (Zaa (pv 4) Zad)) Zad)))))) (Zai (Zat (Za7 (tupK K) rfl (mb "tuple" (by decide)) Za4 (Zaa (pv 2) Zad))))))),Zcu (fun ds Post hf=>?_) h⟩
 obtain ⟨E,num,rfl,hE,hnum,q⟩:=hf
 refine ⟨by simp,?_⟩
 dsimp only [startD,List.tail,List.map,List.length,List.replicate]
 refine Zal (Zdm (Zni (Zac rfl (Zbu (Zbr (Zao ⟨_,rfl,E.map D.int,rfl,?_⟩))))))
 rw [Znx]
 refine Zal (Zdm (Zni (Zac rfl (Zbr (Zao ⟨_,rfl,Zbu ⟨E.map D.int,rfl,?_⟩⟩)))))
 rw [Zdy,<- List.map_take,<- List.map_drop]
 refine Za9 (fun Δ=>∃ (m:Int) (x y:L2.Slot),Δ = [.val (.lst (E.map D.int)),.val (.int m),.own (.lst ((rowNo E num).map D.int)),x,y]) ?_ ?_
 ·refine Zle (fun μ Δ=>∃ (r R:List Int) (m:Nat) (x:L2.Slot),μ = R.length/\r ++ rowGo R.length R m=rowNo E num/\m < rm (R.length + 1)/\r.length + R.length=E.length /\ Δ = [.val (.lst (E.map D.int)),.val (.int (m:Int)),.own (.lst (r.map D.int)),.own (.lst (R.map D.int)),x]) ⟨_,E.take 1,E.drop 1,num,.any,rfl,?_,?_,?_,rfl⟩ ?_
  ·rw [List.length_drop]; rfl
  ·cases E with
   | nil=>exact hnum
   | cons a l=>exact hnum
  ·rw [List.length_take,List.length_drop]; omega
  rintro μ Δ1 ⟨r,R,m,x,rfl,hrow,hm,hl,rfl⟩
  cases hR:R with
  | nil=>
   subst hR
   refine Zj0 (i:=3) rfl rfl (Zbi (Zac rfl ⟨false,rfl,iteF ⟨m,.own (.lst []),x,?_⟩⟩))
   rw [<- hrow]
   show _=[_,_,Slot.own (OD.lst ((r ++ []).map D.int)),_,_]
   rw [List.append_nil]
   rfl
  | cons b R'=>
   rw [<- hR]
   have hk:R.length=R'.length + 1:=by rw [hR]; rfl
   refine Zj0 (i:=3) rfl rfl (Zbi (Zac rfl ⟨true,by rw [hR]; rfl,?_⟩))
   have hp:=Zde R.length
   have hmul:m < rm R.length * R.length:=by rw [hk] at hm ⊢; exact hm
   have hat:m / rm R.length < R.length:=Nat.div_lt_of_lt_mul hmul
   have hbig:=Zb9 (Zds (n:=R.length) (by omega))
   refine iteT (Zal (Zl4 (Zaw (Zab (Zac rfl (Zab (Zap (Zab (Ze1 rfl rfl (Zae ⟨R.length,by rw [List.length_map],by omega,Zae (Zl8 (by omega) hbig ?_)⟩))))))))))
   rw [<- Int.natCast_ediv,<- Int.natCast_emod]
   refine Zh4 rfl (Zb6 (Zbf (Zb6 (Zbf (Ze8 ?_)))))
   refine Zjg rfl rfl (Zjf rfl rfl (Zac rfl ⟨_,_,m / rm R.length,.int (R.getD (m / rm R.length) 0),rfl,rfl,rfl,?_,?_,_,_,rfl,rfl,?_,?_⟩))
   ·rw [List.getElem?_map,List.getD_eq_getElem?_getD,List.getElem?_eq_getElem hat]; rfl
   ·rw [List.length_map]; omega
   ·rw [List.length_map]; exact small1000 (by omega)
   refine ⟨R'.length,by omega,r ++ [R.getD (m / rm R.length) 0],R.eraseIdx (m / rm R.length),m % rm R.length,.val (.int ((m / rm R.length:Nat):Int)),?_,?_,?_,?_,?_⟩
   ·rw [List.length_eraseIdx_of_lt hat]; omega
   ·rw [<- hrow,Zen hk,List.length_eraseIdx_of_lt hat,show R.length - 1=R'.length by omega,List.append_assoc]
    rfl
   ·rw [List.length_eraseIdx_of_lt hat,show R.length - 1 + 1=R.length by omega]
    exact Nat.mod_lt _ hp
   ·rw [List.length_eraseIdx_of_lt hat,List.length_append,List.length_singleton]; omega
   ·rw [List.map_append,Zch]
    rfl
 rintro Δ1 ⟨m,x,y,rfl⟩
 exact Za6 (Zaw (Zab (Zgu rfl (Zae (Zca (Or.inl rfl) q)))))
end
theorem Zfr (E:Nat->List Int) (k n:Nat):ordN E (k + 1) n=ordN E k (n / rm (E k).length) ++ [rowNo (E k) (n % rm (E k).length)]:=rfl
theorem Zgs (rest:List Int) (x:Int) (r:List Int):rowNum rest (x :: r)=rest.idxOf x * rm rest.length + rowNum (rest.eraseIdx (rest.idxOf x)) r:=rfl
section
variable {P:Program} {w:World} {K:PySem.W.Frag} {mg:Str->Option Value} {base:Heap} {f:Addr} {fd:FuncData}
theorem Zkr (mb:Mb mg) (C_is_whole:Callee P w K mg base 1 "is_whole" ["thing"] (spD K fWhole)) (C_orders_many:Callee P w K mg base 3 "orders_many" ["web"] (spD K fOmB)) (C_ends_at:Callee P w K mg base 2 "ends_at" ["web","place"] (spN K fEnds)) (C_rows_many:Callee P w K mg base 1 "rows_many" ["many"] (spD K fRm)) (C_row_at:Callee P w K mg base 2 "row_at" ["ends","number"] (spD K fRowAtB)) (F:Fun K "order_at" "order_at" s_order_at f fd):FnOk P w K mg base CX0 4 f fd ["web","number"] (spD K fOrdAt):=by
 refine F.ok sc_order_at (Zbc fun ds Post h=>by obtain ⟨_,_,_,rfl,_⟩:=h; rfl) (fun cdv A outer s H vs Q E hr h=>?_)
 have hu:=Zb5 hr
 refine ⟨_,(Zaf (Zbt (PW.pt (pw_or (Zb7 (truK K (Zaz C_is_whole (hr.mono (by decide)) (Zaa (pv 1) Zad)) (fun _=>rfl))) (pw_or1 (Zb7 (Zht Zom Zm5 Zag (pv 1) (Zaz C_orders_many (hr.mono (by decide)) (Zaa (pv 0) Zad))))))) Zj4 Za1) (Zaf (Zar (i:=2) sc_order_at.nd rfl (Or.inl rfl) (Zd9 Zad)) (Zaf (Zcf PassesOwn.never rfl (Zgq rfl (mb "reversed" (by decide)) rfl (mb "range" (by decide)) (Zaa (Zbg (ixK K hu) (pv 0) Zag (fun _ _=>rfl)) Zad)) (Zas (i:=3) sc_order_at.nd rfl (Or.inl rfl)) (Zaf (Zar (i:=4) sc_order_at.nd rfl (Or.inl rfl) (Zaz C_ends_at (hr.mono (by decide)) (Zaa (pv 0) (Zaa (pv 3) Zad)))) (Zaf (Zfo (Zah Zh2 rfl (mb "divmod" (by decide)) Zfy (Zaa (pv 1) (Zaa (Zaz C_rows_many (hr.mono (by decide)) (Zaa (Zah (lenK K) rfl (mb "len" (by decide)) Zbk (Zaa (pv 4) Zad)) Zad)) Zad))) (gtupK (n:=2) K rfl (Zbq (Zas (i:=1) sc_order_at.nd rfl (Or.inl rfl)) (Zbq (Zas (i:=5) sc_order_at.nd rfl (Or.inl rfl)) Zed)))) (Zai (Zef (bmK K PySem.F.plainAttrs_list PySem.F.slot_list_append PySem.F.type_list_append Zc9 (pv 2) (Zaa (Zaz C_row_at (hr.mono (by decide)) (Zaa (pv 4) (Zaa (pv 5) Zad))) Zad))))))) (Zai (Zat (Za7 (tupK K) rfl (mb "tuple" (by decide)) Za4 (Zaa (slRLK K (pv 2)) Zad))))))),Zcu (fun ds Post hf=>?_) h⟩
 obtain ⟨N,ts,n,rfl,hW,hn,q⟩:=hf
 refine ⟨by simp,?_⟩
 dsimp only [startD,List.tail,List.map,List.length,List.replicate]
 have hlo:=hW.lo
 have hhi:=hW.hi
 have hts:=hW.len
 refine Zal (Zbh (Zdj (Zbw (Zbi (Zap (Zab (Zac rfl (Zae ⟨_,rfl,true,rfl,iteF ?_⟩))))))))
 refine Zbw (Zav (Zh1 (Zao (Zac rfl (Zij ⟨_,rfl,?_⟩)))))
 rw [if_pos (by simp)]
 refine Zap (Zab (Zac rfl (Zae ⟨N,ts,rfl,hW,Zij ⟨_,rfl,?_⟩⟩)))
 rw [decide_eq_true (show (n:Int) < (ways N ts:Nat) by omega)]
 refine iteF (Zax ?_)
 refine Zal (Zdm (Zhu (Zae ⟨by decide,?_⟩)))
 refine Za9 (fun Δ=>∃ x y z u:L2.Slot,Δ = [.val (encWeb (N:Int) ts),x,.own (.lst ((ordN (endsP ts) N n).reverse.map encRow)),y,z,u]) ?_ ?_
 ·refine Zce (Zg3 (Zab (Ze7 (Zf3 (d:=.int (N:Int)) rfl rfl) (Zae ⟨N,rfl,by omega,fun i Δ=>∃ (m:Nat) (R:List (List Int)) (y z u:L2.Slot),i<=N/\R.length=i/\m < wayN (degW ts) (N - i)/\ordN (endsP ts) N n=ordN (endsP ts) (N - i) m ++ R.reverse /\ Δ = [.val (encWeb (N:Int) ts),.val (.int (m:Int)),.own (.lst (R.map encRow)),y,z,u],⟨n,[],_,_,_,Nat.zero_le _,rfl,hn,by rw [Nat.sub_zero,List.reverse_nil,List.append_nil],rfl⟩,?_,?_⟩))))
  ·rintro i d Δ2 hd ⟨m,R,y,z,u,hiN,hR,hm,ho,rfl⟩
   obtain ⟨hi,rfl⟩:=Zdv hd
   obtain ⟨k,hk⟩:∃ k,N - i=k + 1:=⟨N - i - 1,by omega⟩
   rw [hk] at hm ho
   have hp:((N:Int) - 1 + (i:Int) * -1)=(k:Int):=by omega
   rw [hp]
   have hel:=Zc3 ts k
   have hpos:=Zde (endsP ts k).length
   have hbig:=Zb9 (Zds (n:=(endsP ts k).length) (by omega))
   refine Zbf (Zal (Za0 (Zbo (Zdp (Zab (Zac rfl (Zab (Zac rfl (Zae ⟨(N:Int),ts,(k:Int),rfl,hts,_,rfl,?_⟩)))))))))
   refine Zal (Zl4 (Zaw (Zab (Zac rfl (Zab (Zap (Zab (Zaw (Zab (Zac rfl (Zae (Zbb (Or.inl rfl) (Zae ⟨(endsP ts k).length,?_,by omega,Zae (Zl8 (by omega) hbig ?_)⟩)))))))))))))
   ·rw [List.length_map]; rfl
   rw [<- Int.natCast_ediv,<- Int.natCast_emod]
   refine Zh4 rfl (Zb6 (Zbf (Zb6 (Zbf (Ze8 ?_)))))
   refine Zjg rfl rfl (Zap (Zab (Zac rfl (Zab (Zac rfl (Zae ⟨endsP ts k,m % rm (endsP ts k).length,rfl,by omega,Nat.mod_lt _ hpos,_,_,rfl,rfl,?_,?_⟩))))))
   ·rw [List.length_map]; exact small1000 (by omega)
   refine ⟨m / rm (endsP ts k).length,R ++ [rowNo (endsP ts k) (m % rm (endsP ts k).length)],.val (.int (k:Int)),.val (.lst ((endsP ts k).map D.int)),.val (.int ((m % rm (endsP ts k).length:Nat):Int)),by omega,by rw [List.length_append,hR]; rfl,?_,?_,?_⟩
   ·rw [show N - (i + 1)=k by omega]
    exact Nat.div_lt_of_lt_mul (by rw [Nat.mul_comm]; exact hm)
   ·rw [show N - (i + 1)=k by omega,ho,Zfr,List.reverse_append,List.append_assoc]
    rfl
   ·rw [List.map_append]
    rfl
  ·rintro Δ2 ⟨m,R,y,z,u,hiN,hR,hm,ho,rfl⟩
   rw [Zdu,Nat.sub_self] at ho
   refine ⟨.val (.int (m:Int)),y,z,u,?_⟩
   rw [ho]
   show _=[_,_,Slot.own (OD.lst ((([]:List (List Int)) ++ R.reverse).reverse.map encRow)),_,_,_]
   rw [List.nil_append,List.reverse_reverse]
 rintro Δ1 ⟨x,y,z,u,rfl⟩
 refine Za6 (Zaw (Zab (Znh (Zgu rfl ⟨_,rfl,Zae (Zca (Or.inl rfl) ?_)⟩))))
 rw [<- List.map_reverse,List.reverse_reverse]
 exact q
theorem Zit (mb:Mb mg) (C_rows_many:Callee P w K mg base 1 "rows_many" ["many"] (spD K fRm)) (F:Fun K "row_number" "row_number" s_row_number f fd):FnOk P w K mg base CX0 2 f fd ["ends","row"] (spD K fRowNum):=by
 refine F.ok sc_row_number (Zbc fun ds Post h=>by obtain ⟨_,_,rfl,_⟩:=h; rfl) (fun cdv A outer s H vs Q E hr h=>?_)
 have hu:=Zb5 hr
 refine ⟨_,(Zaf (Zar (i:=2) sc_row_number.nd rfl (Or.inl rfl) Zag) (Zaf (Zar (i:=3) sc_row_number.nd rfl (Or.inl rfl) (Zbe (slK K) (pv 0) (Zbl Zag) Zbs)) (Zaf (Zcf PassesOwn.never rfl (seqK K (Zbe (slK K) (pv 1) (Zbl Zag) Zbs)) (Zas (i:=4) sc_row_number.nd rfl (Or.inl rfl)) (Zaf (Zar (i:=5) sc_row_number.nd rfl (Or.inl rfl) (bmK K PySem.F.plainAttrs_list PySem.F.slot_list_index PySem.F.type_list_index (idxLK K) (pv 3) (Zaa (pv 4) Zad))) (Zaf (Zjj (i:=2) sc_row_number.nd rfl (Or.inl rfl) (Zau Ze5 (pv 5) (Zaz C_rows_many (hr.mono (by decide)) (Zaa (Zah (lenK K) rfl (mb "len" (by decide)) Zbk (Zaa (pv 3) Zad)) Zad))) Zpa) (Zai (Zef (bmK K PySem.F.plainAttrs_list PySem.F.slot_list_pop PySem.F.type_list_pop Zhx (pv 3) (Zaa (pv 5) Zad))))))) (Zai (Zat (pv 2)))))),Zcu (fun ds Post hf=>?_) h⟩
 obtain ⟨E,r,rfl,hp,hh,hE,q⟩:=hf
 refine ⟨by simp,?_⟩
 dsimp only [startD,List.tail,List.map,List.length,List.replicate]
 have hl:=hp.length_eq
 refine Zal (Za0 (Zao ?_))
 refine Zal (Zdm (Zni (Zac rfl (Zbr (Zao ⟨_,rfl,Zbu ⟨E.map D.int,rfl,?_⟩⟩)))))
 rw [Zdy,<- List.map_drop]
 refine Za9 (fun Δ=>∃ x y z:L2.Slot,Δ = [.val (.lst (E.map D.int)),.val (encRow r),.val (.int (rowNum (E.drop 1) (r.drop 1):Nat)),x,y,z]) ?_ ?_
 ·refine Zce (Zdn (Zeu (Zac rfl (Zbr (Zao ⟨_,rfl,Zbu ⟨.tup ((r.drop 1).map D.int),?_,_,rfl,fun i Δ=>∃ (m:Nat) (R:List Int) (y z:L2.Slot),((r.drop 1).drop i).Perm R/\m + rowNum R ((r.drop 1).drop i)=rowNum (E.drop 1) (r.drop 1) /\ Δ = [.val (.lst (E.map D.int)),.val (encRow r),.val (.int (m:Int)),.own (.lst (R.map D.int)),y,z],⟨0,E.drop 1,_,_,(Zhj hp hh).1,Nat.zero_add _,rfl⟩,?_,?_⟩⟩)))))
  ·show some (D.tup (cutD (r.map D.int) (some 1) none))=_
   rw [Zdy,List.map_drop]
  ·rintro i d Δ2 hd ⟨m,R,y,z,hR,hm,rfl⟩
   rw [List.getElem?_map] at hd
   cases hx:(r.drop 1)[i]? with
   | none=>rw [hx] at hd; cases hd
   | some x=>
    rw [hx] at hd; cases hd
    have hi:=(List.getElem?_eq_some_iff.mp hx).1
    have e1:(r.drop 1).drop i=x :: (r.drop 1).drop (i + 1):=by
     rw [List.drop_eq_getElem_cons hi,(List.getElem?_eq_some_iff.mp hx).2]
    rw [e1] at hR hm
    rw [Zgs] at hm
    have hxR:x ∈ R:=hR.mem_iff.mp (by simp)
    obtain ⟨i1,i2,_⟩:=Ze6 hxR
    have hRl:R.length<=48:=by rw [<- hR.length_eq,<- e1,List.length_drop,List.length_drop]; omega
    have hbig:=Zb9 (Zds (n:=R.length) (by omega))
    refine Zbf (Zal (Za0 (Zmj (i:=3) rfl rfl (Ziu (Zac rfl ⟨R,rfl,by omega,Zac rfl ⟨x,rfl,hxR,trivial,?_⟩⟩)))))
    refine Zal (Zjq rfl (Zaq (Zac rfl (Zap (Zab (Ze1 rfl rfl (Zae ⟨R.length,by rw [List.length_map],by omega,jr_I ⟨⟨by omega,?_⟩,by omega,hbig⟩ ⟨rfl,Zod ?_⟩⟩)))))))
    ·exact Int.lt_of_le_of_lt (show _<=(1000:Int) by omega) (by decide +kernel)
    refine Znm (Zjf rfl rfl (Zac rfl ⟨_,_,R.idxOf x,.int x,rfl,rfl,rfl,?_,?_,?_⟩))
    ·rw [List.getElem?_map,i2]; rfl
    ·rw [List.length_map]; omega
    have er:R.eraseIdx (R.idxOf x)=R.erase x:=(List.erase_eq_eraseIdx_of_idxOf rfl).symm
    refine ⟨m + R.idxOf x * rm R.length,R.eraseIdx (R.idxOf x),.val (.int x),.val (.int (R.idxOf x:Nat)),?_,by omega,?_⟩
    ·rw [er]; exact List.Perm.cons_inv (hR.trans (List.perm_cons_erase hxR))
    ·rw [Zch,<- Int.natCast_mul,<- Int.natCast_add]
     rfl
  ·rintro Δ2 ⟨m,R,y,z,hR,hm,rfl⟩
   have e0:(r.drop 1).drop ((r.drop 1).map D.int).length=[]:=by rw [List.length_map,List.drop_length]
   rw [e0] at hR hm
   have:m=rowNum (E.drop 1) (r.drop 1):=by
    rw [<- hm]; rfl
   rw [this]
   exact ⟨_,_,_,rfl⟩
 rintro Δ1 ⟨x,y,z,rfl⟩
 exact Za6 (Zac rfl q)
theorem Zky (mb:Mb mg) (C_rows_many:Callee P w K mg base 1 "rows_many" ["many"] (spD K fRm)) (C_row_number:Callee P w K mg base 2 "row_number" ["ends","row"] (spD K fRowNum)) (C_ends_at:Callee P w K mg base 2 "ends_at" ["web","place"] (spN K fEnds)) (F:Fun K "number_of" "number_of" s_number_of f fd):FnOk P w K mg base CX0 3 f fd ["web","order"] (spD K fNumOf):=by
 refine F.ok sc_number_of (Zbc fun ds Post h=>by obtain ⟨_,_,_,rfl,_⟩:=h; rfl) (fun cdv A outer s H vs Q E hr h=>?_)
 have hu:=Zb5 hr
 refine ⟨_,(Zaf (Zar (i:=2) sc_number_of.nd rfl (Or.inl rfl) Zag) (Zaf (Zcf PassesOwn.never rfl (Zdr K rfl (mb "enumerate" (by decide)) (Zaa (pv 1) Zad)) (gtupK (n:=2) K rfl (Zbq (Zas (i:=3) sc_number_of.nd rfl (Or.inl rfl)) (Zbq (Zas (i:=4) sc_number_of.nd rfl (Or.inl rfl)) Zed))) (Zai (Zar (i:=2) sc_number_of.nd rfl (Or.inl rfl) (Zau (addK K) (Zau Ze5 (pv 2) (Zaz C_rows_many (hr.mono (by decide)) (Zaa (Zah (lenK K) rfl (mb "len" (by decide)) Zbk (Zaa (pv 4) Zad)) Zad))) (Zaz C_row_number (hr.mono (by decide)) (Zaa (Zaz C_ends_at (hr.mono (by decide)) (Zaa (pv 0) (Zaa (pv 3) Zad))) (Zaa (pv 4) Zad))))))) (Zai (Zat (pv 2))))),Zcu (fun ds Post hf=>?_) h⟩
 obtain ⟨N,ts,o,rfl,hW,hO,q⟩:=hf
 refine ⟨by simp,?_⟩
 dsimp only [startD,List.tail,List.map,List.length,List.replicate]
 have hlo:=hW.lo
 have hhi:=hW.hi
 have hts:=hW.len
 have hol:=hO.len
 refine Zal (Za0 (Zao ?_))
 refine Za9 (fun Δ=>∃ x y:L2.Slot,Δ = [.val (encWeb (N:Int) ts),.val (encOrd o),.val (.int (numN (endsP ts) o N:Nat)),x,y]) ?_ ?_
 ·refine Zce (Ziy (Zab (Zac rfl (Zae ⟨_,Or.inr rfl,fun i Δ=>∃ x y:L2.Slot,Δ = [.val (encWeb (N:Int) ts),.val (encOrd o),.val (.int (numN (endsP ts) o i:Nat)),x,y],⟨_,_,rfl⟩,?_,?_⟩))))
  ·rintro i d Δ2 hd ⟨x,y,rfl⟩
   obtain ⟨d1,hd1,rfl⟩:=Zgr hd
   rw [List.getElem?_map] at hd1
   cases hx:o[i]? with
   | none=>rw [hx] at hd1; cases hd1
   | some r=>
    rw [hx] at hd1; cases hd1
    have hi:=(List.getElem?_eq_some_iff.mp hx).1
    have R:=hO.row i r hx
    have hgd:o.getD i []=r:=by rw [List.getD_eq_getElem?_getD,hx]; rfl
    have hle:=R.perm.length_eq
    have hel:=Zc3 ts i
    have hb:=Zgo (E:=endsP ts) (o:=o) (fun p r h=>⟨(hO.row p r h).perm,(hO.row p r h).first⟩) i (by omega)
    have h1:=Zb9 (Nat.le_trans (Nat.le_of_lt hb.1) (Zes hts i))
    have hrl:r.length=(endsP ts i).length:=hle
    have h2:=Zb9 (Zds (n:=r.length) (by omega))
    refine Zh4 rfl (Zb6 (Zbf (Zb6 (Zbf (Ze8 ?_)))))
    refine Za0 (Zaq (Zaq (Zac rfl (Zap (Zab (Zaw (Zab (Zac rfl (Zae (Zbb (Or.inr rfl) (Zae ⟨r.length,?_,by omega,jr_I ⟨⟨by omega,h1⟩,by omega,h2⟩ ?_⟩)))))))))))
    ·rw [List.length_map]
    refine Zap (Zab (Zbo (Zdp (Zab (Zac rfl (Zab (Zac rfl (Zae ⟨(N:Int),ts,(i:Int),rfl,hts,_,rfl,Zab (Zac rfl (Zae ⟨endsP ts i,r,rfl,R.perm,R.first,by omega,Zck ?_⟩))⟩))))))))
    refine ⟨.val (.int (i:Int)),.val (encRow r),?_⟩
    show _=[_,_,Slot.val (D.int ((numN (endsP ts) o i * rm (endsP ts i).length + rowNum ((endsP ts i).drop 1) ((o.getD i []).drop 1):Nat):Int)),_,_]
    rw [hgd,<- hrl,Int.natCast_add,Int.natCast_mul]
    rfl
  ·rintro Δ2 ⟨x,y,rfl⟩
   refine ⟨x,y,?_⟩
   rw [Zjc,List.length_map,show o.length=N by omega]
 rintro Δ1 ⟨x,y,rfl⟩
 exact Za6 (Zac rfl q)
end
section
variable {P:Program} {w:World} {K:PySem.W.Frag} {mg:Str->Option Value} {base:Heap} {f:Addr} {fd:FuncData}
def rowIx (d:D):List Int:=match d with
 | .tup es=>es.map fun x=>match x with | .int i=>i | _=>0
 | _=>[]
theorem Zc7 (r:List Int):rowIx (encRow r)=r:=by
 show (r.map D.int).map _=r
 rw [List.map_map]
 conv=>rhs; rw [<- List.map_id r]
 exact List.map_congr_left fun x _=>rfl
end
section
variable {P:Program} {w:World} {K:PySem.W.Frag} {mg:Str->Option Value} {base:Heap} {f:Addr} {fd:FuncData}
noncomputable def srtI (l:List Int):List Int:=by
 classical exact if h:∃ ms:List Int,ms.Perm l/\ms.Pairwise (· <= ·) then Classical.choose h else l
theorem Zgy {l ms:List Int} (h1:ms.Perm l) (h2:ms.Pairwise (· <= ·)):ms=srtI l:=by
 unfold srtI
 have h:∃ ms:List Int,ms.Perm l/\ms.Pairwise (· <= ·):=⟨ms,h1,h2⟩
 rw [dif_pos h]
 have hc:=Classical.choose_spec h
 exact List.Perm.eq_of_pairwise (le:=fun a b=>a<=b) (fun a b _ _ h1 h2=>by omega) h2 hc.2 (h1.trans hc.1.symm)
end
section
variable {P:Program} {w:World} {K:PySem.W.Frag} {mg:Str->Option Value} {base:Heap} {f:Addr} {fd:FuncData}
theorem Zgw {K:PySem.W.Frag} {Δ:Evt} {Pd:D->Evt->Prop} {i:Int} (p:Pd (.int (-i)) Δ):JR1 K (rU fun i=>.int (-i)) (.int i) Δ Pd:=fun g G H σ Q x k r c=>by
 cases r
 exact ⟨i,rfl,c _ _ G H Δ k (Same.refl _) (.int _) p⟩
end
section
variable {P:Program} {w:World} {K:PySem.W.Frag} {mg:Str->Option Value} {base:Heap} {f:Addr} {fd:FuncData}
def fIsO:DSp:=fun ds Post=>∃ n ts o,ds=[encWeb n ts,encOrd o]/\WebOk n ts/\OrdOk n ts o/\Post (.bl true)
theorem Zjh {r L:List Int} (h:r.head? = L.head?):r.take 1=L.take 1:=by
 cases r <;> cases L <;> simp_all
theorem Zjk {ts:List (Int × Int)} {m:Nat} {p:Int} {r ms:List Int} (h:RowOk ts m p r) (h1:ms.Perm r) (h2:ms.Pairwise (· <= ·)):ms=endsBelow ts m p:=
 List.Perm.eq_of_pairwise (le:=fun a b=>a<=b) (fun a b _ _ h1 h2=>by omega) h2 ((Zb8 ts m p).imp fun h=>Int.le_of_lt h) (h1.trans h.perm)
theorem Zkd (ds:List D):cutD ds none (some 1)=ds.take 1:=by
 unfold cutD
 show (ds.drop 0).take (min (Int.toNat 1) ds.length - 0)=_
 rw [List.drop_zero,Nat.sub_zero]
 cases ds with
 | nil=>rfl
 | cons x t=>rfl
end
def fLWays:DSp:=fun ds Post=>∃ k:Nat,ds=[.int (k:Int)]/\k<=48/\Post (.int (rm k:Nat))
def fLBeh:DSp:=fun ds Post=>∃ (r:List Int) (p:Nat),ds=[encRow r]/\r.length<=48/\r.Nodup/\(r.drop (p + 1)).Pairwise (fun a b=>b<=a)/\(p=0->Post .non)/\(p ≠ 0->∃ pre x suf m ms,pre.length=p/\r=pre ++ x :: suf/\Nxt pre x suf m ms/\Post (encRow (pre ++ m :: ms)))
def fLLat:DSp:=fun ds Post=>∃ (o:List (List Int)) (E:Nat->List Int) (s:Nat),ds=[encOrd o]/\o.length<=25/\(∀ (q:Nat) r,o[q]? = some r->r.Perm (E q)/\(E q).Pairwise (· < ·)/\r.length<=48)/\s<=o.length/\(∀ q,s<=q->q < o.length->((o.getD q []).drop 1).Pairwise (fun a b=>b<=a))/\(s=0->Post .non)/\(∀ p,s=p + 1->∃ pre x suf m ms,pre ≠ []/\o.getD p []=pre ++ x :: suf/\Nxt pre x suf m ms/\Post (encOrd (o.take p ++ (pre ++ m :: ms) :: (List.range' (p + 1) (o.length - (p + 1))).map E)))
theorem Znq {r:List Int} {a:Nat} (ha:a < r.length) (hd:(r.drop a).Pairwise (fun a b=>b<=a)):(r.drop (a + 1)).filter (fun e=>decide (r.getD a 0 < e))=[]:=by
 rw [List.drop_eq_getElem_cons ha] at hd
 have h:=(List.pairwise_cons.mp hd).1
 refine List.filter_eq_nil_iff.mpr fun e he=>?_
 have:=h e he
 have g:r.getD a 0=r[a]:=by rw [List.getD_eq_getElem?_getD,List.getElem?_eq_getElem ha]; rfl
 rw [g]
 simpa using this
theorem Zje {r:List Int} {a b:Nat} (hab:a<=b) (hd:(r.drop a).Pairwise (fun a b=>b<=a)):(r.drop b).Pairwise (fun a b=>b<=a):=by
 have e:r.drop b=(r.drop a).drop (b - a):=by rw [List.drop_drop,show a + (b - a)=b by omega]
 rw [e]
 exact hd.sublist (List.drop_sublist _ _)
theorem Zh3 {o:List (List Int)} {E:Nat->List Int} (h:∀ (q:Nat) r,o[q]? = some r->r.Perm (E q)/\(E q).Pairwise (· < ·)/\r.length<=48) (a:Nat):(o.drop a).map srtI=(List.range' a (o.length - a)).map E:=by
 refine List.ext_getElem? fun i=>?_
 rw [List.getElem?_map,List.getElem?_map,List.getElem?_drop]
 by_cases hi:a + i < o.length
 ·obtain ⟨h1,h2,_⟩:=h (a + i) _ (List.getElem?_eq_getElem hi)
  rw [List.getElem?_eq_getElem hi,List.getElem?_range' (by omega),Nat.one_mul]
  show some (srtI o[a + i])=some (E (a + i))
  rw [<- Zgy h1.symm (h2.imp fun z=>Int.le_of_lt z)]
 ·rw [List.getElem?_eq_none (by omega),List.getElem?_eq_none (by rw [List.length_range']; omega)]
  rfl
section
variable {K:PySem.W.Frag} {Δ:Evt} {P:D->Evt->Prop}
theorem Zh8 {ds:List D} (p:P (.bl true) Δ):JR2 K (fun x y H Q=>y=.non/\Q (.bl (!decide (x=.non))) H) (.tup ds) .non Δ P:=fun g G H σ Q u v k rx ry c=>by
 obtain ⟨a,vs,rfl,_,_⟩:=rx.inv
 cases ry.inv
 refine ⟨rfl,?_⟩
 rw [decide_eq_false (fun z=>by cases z)]
 exact c _ _ G H Δ k (Same.refl _) (.bl true) p
end
theorem Zlx {r pre suf:List Int} {x:Int} {a:Nat} (e:r=pre ++ x :: suf) (h:pre.length=a):r.drop a=x :: suf/\r.drop (a + 1)=suf/\r.getD a 0=x/\r.take a=pre:=by
 subst e
 subst h
 refine ⟨List.drop_left,?_,?_,List.take_left⟩
 ·rw [<- List.drop_drop,List.drop_left]; rfl
 ·rw [List.getD_eq_getElem?_getD,List.getElem?_append_right (Nat.le_refl _),Nat.sub_self]; rfl
def gtD (x:Int) (d:D):Bool:=match d with | .int e=>decide (x < e) | _=>false
def neqD (x:Int) (d:D):Bool:=match d with | .int e=>!decide (e=x) | _=>false
theorem Zm3 (x:Int) (l:List Int):(((l.map D.int).filter (gtD x)).map fun d=>d)=(l.filter fun e=>decide (x < e)).map D.int:=by
 rw [List.map_id',List.filter_map]; rfl
theorem Zlq (x:Int) (l:List Int):(((l.map D.int).filter (neqD x)).map fun d=>d)=(l.filter fun e=>!decide (e=x)).map D.int:=by
 rw [List.map_id',List.filter_map]; rfl
theorem Zlv {l:List Int} (nd:l.Nodup) (m:Int):(l.filter fun e=>!decide (e=m))=l.erase m:=by
 rw [List.Nodup.erase_eq_filter nd]
 refine List.filter_congr fun e _=>?_
 by_cases h:e=m <;> simp [h]
section
variable {P:Program} {w:World} {K:PySem.W.Frag} {mg:Str->Option Value} {base:Heap} {f:Addr} {fd:FuncData}
theorem Zkt (mb:Mb mg) (F:Fun K "_law_ways" "_law_ways" s_law_ways f fd):FnOk P w K mg base CX0 1 f fd ["_law_many_here"] (spD K fLWays):=by
 refine F.ok sc_law_ways (Zbc fun ds Post h=>by obtain ⟨_,rfl,_⟩:=h; rfl) (fun cdv A outer s H vs Q E hr h=>?_)
 have hu:=Zb5 hr
 refine ⟨_,(Zaf (Zar (i:=1) sc_law_ways.nd rfl (Or.inl rfl) Zag) (Zaf (Zcf PassesOwn.never rfl (Zft rfl (mb "range" (by decide)) (Zaa Zag (Zaa (pv 0) Zad))) (Zas (i:=2) sc_law_ways.nd rfl (Or.inl rfl)) (Zai (Zar (i:=1) sc_law_ways.nd rfl (Or.inl rfl) (Zau Ze5 (pv 1) (pv 2))))) (Zai (Zat (pv 1))))),Zcu (fun ds Post hf=>?_) h⟩
 obtain ⟨k,rfl,hk,q⟩:=hf
 refine ⟨by simp,?_⟩
 dsimp only [startD,List.tail,List.map,List.length,List.replicate]
 refine Zal (Za0 (Zao ?_))
 refine Za9 (fun Δ=>∃ x:L2.Slot,Δ = [.val (.int (k:Int)),.val (.int (rm k:Nat)),x]) ?_ ?_
 ·refine Zce (Zf0 (Zab (Zao (Zab (Zac rfl (Zae ⟨2,(k:Int),rfl,by omega,fun i Δ=>∃ x:L2.Slot,Δ = [.val (.int (k:Int)),.val (.int (rm (i + 2):Nat)),x],⟨_,rfl⟩,?_,?_⟩))))))
  ·rintro i d Δ2 hd ⟨x,rfl⟩
   obtain ⟨hi,rfl⟩:=Zbx hd
   have h1:=Zb9 (Zds (n:=i + 2) (by omega))
   refine Zbf (Za0 (Zaq (Zac rfl (Zac rfl (jr_I ⟨⟨by omega,h1⟩,by omega,?_⟩ ⟨.val (.int (2 + (i:Int))),?_⟩)))))
   ·exact Int.lt_of_le_of_lt (show _<=(1000:Int) by omega) (by decide +kernel)
   have e:rm (i + 1 + 2)=rm (i + 2) * (i + 2):=rfl
   rw [e,Int.natCast_mul,show ((i + 2:Nat):Int)=2 + (i:Int) by omega]
   rfl
  ·rintro Δ2 ⟨x,rfl⟩
   refine ⟨x,?_⟩
   rw [Za8]
   by_cases h2:2<=k
   ·rw [show ((k:Int) - 2).toNat + 2=k by omega]
   ·rw [show ((k:Int) - 2).toNat=0 by omega]
    have:rm k=1:=by
     rcases (by omega:k=0\/k=1) with rfl | rfl <;> rfl
    rw [this]
    rfl
 rintro Δ1 ⟨x,rfl⟩
 exact Za6 (Zac rfl q)
theorem Zks (mb:Mb mg) (C__law_ways:Callee P w K mg base 1 "_law_ways" ["_law_many_here"] (spD K fLWays)) (C__law_ends:Callee P w K mg base 1 "_law_ends" ["_law_web_here","_law_place"] (spN K fEnds)) (F:Fun K "_law_many" "_law_many" s_law_many f fd):FnOk P w K mg base CX0 2 f fd ["_law_web_here"] (spD K fOmB):=by
 refine F.ok sc_law_many (Zbc fun ds Post h=>by obtain ⟨_,_,rfl,_⟩:=h; rfl) (fun cdv A outer s H vs Q E hr h=>?_)
 have hu:=Zb5 hr
 refine ⟨_,(Zaf (Zar (i:=1) sc_law_many.nd rfl (Or.inl rfl) Zag) (Zaf (Zcf PassesOwn.never rfl (Zb3 rfl (mb "range" (by decide)) (Zaa (Zbg (ixK K hu) (pv 0) Zag (fun _ _=>rfl)) Zad)) (Zas (i:=2) sc_law_many.nd rfl (Or.inl rfl)) (Zai (Zar (i:=1) sc_law_many.nd rfl (Or.inl rfl) (Zau Ze5 (pv 1) (Zaz C__law_ways (hr.mono (by decide)) (Zaa (Zah (lenK K) rfl (mb "len" (by decide)) Zbk (Zaa (Zaz C__law_ends (hr.mono (by decide)) (Zaa (pv 0) (Zaa (pv 2) Zad))) Zad)) Zad)))))) (Zai (Zat (pv 1))))),Zcu (fun ds Post hf=>?_) h⟩
 obtain ⟨N,ts,rfl,hW,q⟩:=hf
 refine ⟨by simp,?_⟩
 dsimp only [startD,List.tail,List.map,List.length,List.replicate]
 have hn:=hW.lo
 have hn2:=hW.hi
 have hts:=hW.len
 refine Zal (Za0 (Zao ?_))
 refine Za9 (fun Δ=>∃ x:L2.Slot,Δ = [.val (encWeb (N:Int) ts),.val (.int (ways N ts:Nat)),x]) ?_ ?_
 ·refine Zce (Zb2 (Zab (Ze7 (Zf3 (d:=.int (N:Int)) rfl rfl) (Zae ⟨_,rfl,by omega,by omega,fun i Δ=>∃ x:L2.Slot,Δ = [.val (encWeb (N:Int) ts),.val (.int (wayN (degW ts) i:Nat)),x],⟨_,rfl⟩,?_,?_⟩))))
  ·rintro i d Δ2 hd ⟨x,rfl⟩
   obtain ⟨hi,rfl⟩:=Zbx hd
   have hel:=Zc3 ts i
   have h1:=Zb9 (Zes hts i)
   have h2:=Zb9 (Zds (n:=(endsP ts i).length) (by omega))
   refine Zbf (Za0 (Zaq (Zac rfl (Zap (Zab (Zaw (Zab (Zbo (Zdp (Zab (Zac rfl (Zab (Zac rfl (Zae ⟨(N:Int),ts,0 + (i:Int),rfl,hts,_,rfl,Zae (Zbb (Or.inl rfl) (Zae ⟨(endsP ts i).length,?_,by omega,jr_I ⟨⟨by omega,h1⟩,by omega,h2⟩ ⟨.val (.int (0 + (i:Int))),?_⟩⟩))⟩))))))))))))))
   ·rw [List.length_map,Int.zero_add]
    rfl
   rw [<- Int.natCast_mul]
   rfl
  ·rintro Δ2 ⟨x,rfl⟩
   rw [Za8,Int.toNat_natCast]
   exact ⟨x,rfl⟩
 rintro Δ1 ⟨x,rfl⟩
 exact Za6 (Zac rfl q)
theorem Znw (mb:Mb mg) (F:Fun K "_law_behind" "_law_behind" s_law_behind f fd):FnOk P w K mg base CX0 1 f fd ["_law_row"] (spD K fLBeh):=by
 refine F.ok sc_law_behind (Zbc fun ds Post h=>by obtain ⟨_,_,rfl,_⟩:=h; rfl) (fun cdv A outer s H vs Q E hr h=>?_)
 have hu:=Zb5 hr
 have hv:=Zk7 hr
 refine ⟨_,(Zaf (Zcf PassesOwn.never rfl (Zfv rfl (mb "range" (by decide)) (Zaa (Zau Zfu (Zah (lenK K) rfl (mb "len" (by decide)) Zbk (Zaa (pv 0) Zad)) Zag) (Zaa Zag (Zaa (Zk6 Zhq Zag) Zad)))) (Zas (i:=1) sc_law_behind.nd rfl (Or.inr rfl)) (Zaf (Zar (i:=2) sc_law_behind.nd rfl (Or.inr rfl) (Zbp ["_law_end"] (show CompSc (defScope s_law_behind) ["_law_row","_law_at","_law_greater","_law_rest"] _ ["_law_row","_law_at"] [0,1] from ⟨rfl,by decide +kernel,by decide +kernel,by decide +kernel,rfl,by decide +kernel⟩) rfl (seqK K (Zbe (slK K) (pv 0) (Zbl (Zau (addK K) (pv 1) Zag)) Zbs)) (fun _ _ _ _ _=>(Zas (i:=0) (show List.Nodup (["_law_end","_law_row","_law_at"]:List Str) from by decide) rfl (Or.inl rfl))) (fun _ _ _ _ _=>(Ze3 (Zay Zne (pv 0) (Zbg (ixK K hu) (pv 1) (pv 2) (fun _ _=>rfl)) (nomark _)))) (fun _ _ _ _ _=>(pv 0)))) (Zai (Zbt (Zay (neL0K K hu) (pv 2) (Zd9 Zad) (nomark _)) (Zaf (Zar (i:=3) sc_law_behind.nd rfl (Or.inl rfl) (Zah (sortIK K) rfl (mb "sorted" (by decide)) Zdh (Zaa (Zbp ["_law_end"] (show CompSc (defScope s_law_behind) ["_law_row","_law_at","_law_greater","_law_rest"] _ ["_law_greater"] [2] from ⟨rfl,by decide +kernel,by decide +kernel,by decide +kernel,rfl,by decide +kernel⟩) rfl (seqK K (Zbe (slK K) (pv 0) (Zbl (pv 1)) Zbs)) (fun _ _ _ _ _=>(Zas (i:=0) (show List.Nodup (["_law_end","_law_greater"]:List Str) from by decide) rfl (Or.inl rfl))) (fun _ _ _ _ _=>(Ze3 (Zay Zcv (pv 0) (Zah (minK K rfl) rfl (mb "min" (by decide)) Zhr (Zaa (pv 1) Zad)) (nomark _)))) (fun _ _ _ _ _=>(pv 0))) Zad))) (Zai (Zat (Zau (addK K) (Zau (addK K) (Zbe (slK K) (pv 0) Zbs (Zbl (pv 1))) (Zei (Zaa (Zah (minK K rfl) rfl (mb "min" (by decide)) Zhr (Zaa (pv 2) Zad)) Zad))) (Za7 (tupK K) rfl (mb "tuple" (by decide)) Za4 (Zaa (pv 3) Zad)))))) Za1)))) (Zai (Zat Zge))),Zcu (fun ds Post hf=>?_) h⟩
 obtain ⟨r,p,rfl,hl,nd,hdown,hz,hs⟩:=hf
 refine ⟨by simp,?_⟩
 dsimp only [startD,List.tail,List.map,List.length,List.replicate]
 have hst:stepN ((r.length:Int) - 2) 0 (-1)=r.length - 2:=by
  unfold stepN
  rw [Zfe]
  by_cases h2:(r.length:Int) - 2 > 0
  ·rw [if_pos h2]; omega
  ·rw [if_neg h2]; omega
 refine Za9 (fun _=>p=0) ?_ (fun Δ1 h0=>Za6 (Zdd (hz h0)))
 refine Zce (Zgg (Zab (Zaq (Zaw (Zab (Zac rfl (Zae (Zbb (Or.inr rfl) (Zao (Zgt ?_))))))))))
 rw [List.length_map]
 refine Zab (Zao (Zab (Zla (Zao (Zgw (Zae ⟨_,_,_,rfl,⟨by omega,by omega,by omega,by omega,Or.inr rfl⟩,?_⟩))))))
 rw [hst]
 refine ⟨fun i Δ=>∃ x y z:L2.Slot,(p=0\/i + p + 2<=r.length) /\ Δ = [.val (encRow r),x,y,z],⟨_,_,_,?_,rfl⟩,?_,?_⟩
 ·by_cases h0:p=0
  ·exact .inl h0
  ·obtain ⟨pre,x,suf,m,ms,h1,rfl,h2,_⟩:=hs h0
   have:=List.length_pos_of_mem h2.mem
   refine .inr ?_
   rw [List.length_append,List.length_cons]
   omega
 ·rintro i d Δ2 hd ⟨x,y,z,hi,rfl⟩
  obtain ⟨hi2,rfl⟩:=Zdv hd
  obtain ⟨a,ha⟩:∃ a,a=r.length - 2 - i:=⟨_,rfl⟩
  have hat:((r.length:Int) - 2 + (i:Int) * -1)=(a:Int):=by omega
  rw [hat]
  have hal:a + 1 < r.length:=by omega
  have hx:(r.map D.int)[a]? = some (.int (r.getD a 0)):=by rw [List.getElem?_map,List.getD_eq_getElem?_getD,List.getElem?_eq_getElem (by omega)]; rfl
  refine Zbf (Zal (Za0 (Zci (by decide) (Zdn (Zeu (Zac rfl (Zbr (Zaq (Zac rfl (Zao (Zck ⟨_,rfl,Zbu ⟨.tup ((r.drop (a + 1)).map D.int),?_,_,rfl,?_,gtD (r.getD a 0),fun d=>d,fun j d hd=>?_,?_⟩⟩)))))))))))
  ·show some (D.tup (cutD (r.map D.int) (some ((a:Int) + 1)) none))=_
   rw [show (a:Int) + 1=((a + 1:Nat):Int) by omega,Zdw _ (by rw [List.length_map]; omega),List.map_drop]
  ·rw [List.length_map,List.length_drop]; exact small1000 (by omega)
  ·rw [List.getElem?_map] at hd
   cases hq:(r.drop (a + 1))[j]? with
   | none=>rw [hq] at hd; cases hd
   | some e=>
    rw [hq] at hd; cases hd
    refine Zav (Zaq (Zac rfl (Zaq (Zac rfl (Zac rfl (Zbj (Zdi hx) (Zij ⟨_,rfl,rfl,?_⟩)))))))
    by_cases hp:r.getD a 0 < e
    ·rw [decide_eq_true hp,if_pos rfl]; exact Zac rfl ⟨rfl,_,rfl⟩
    ·rw [decide_eq_false hp,if_neg Bool.false_ne_true]; exact ⟨_,rfl⟩
  rw [Zm3]
  refine Zbh (Zav (Zaq (Zac rfl (Zjt (Zae ⟨by decide,Znn ⟨_,rfl,?_⟩⟩)))))
  by_cases hap:a=p
  ·have h0:p ≠ 0:=by omega
   obtain ⟨pre,x0,suf,m,ms,h1,e,X,q⟩:=hs h0
   have hpl:pre.length=a:=by omega
   obtain ⟨e0,e1,e2,e3⟩:=Zlx e hpl
   rw [e1,e2]
   have hm:m ∈ suf.filter fun e=>decide (x0 < e):=List.mem_filter.mpr ⟨X.mem,decide_eq_true X.lt⟩
   have hle:∀ y ∈ suf.filter fun e=>decide (x0 < e),m<=y:=fun y hy=>X.le y (List.mem_filter.mp hy).1 (of_decide_eq_true (List.mem_filter.mp hy).2)
   have hne:(!((suf.filter fun e=>decide (x0 < e)).map D.int).isEmpty)=true:=by
    cases hq:suf.filter fun e=>decide (x0 < e) with
    | nil=>rw [hq] at hm; cases hm
    | cons _ _=>rfl
   rw [hne]
   have ndA:(x0 :: suf).Nodup:=by rw [<- e0]; exact nd.sublist (List.drop_sublist _ _)
   have lA:(x0 :: suf).length<=48:=by rw [<- e0,List.length_drop]; omega
   have lP:pre.length + (x0 :: suf).length=r.length:=by rw [e,List.length_append]
   refine iteT (Zal (Za0 (Zbo (Zlb (Zab (Zci (by decide) (Zdn (Zeu (Zac rfl (Zbr (Zac rfl ⟨_,rfl,Zbu ⟨.tup ((x0 :: suf).map D.int),?_,_,rfl,?_,neqD m,fun d=>d,fun j d hd=>?_,?_⟩⟩)))))))))))
   ·show some (D.tup (cutD (r.map D.int) (some (a:Int)) none))=_
    rw [Zdw _ (by rw [List.length_map]; omega),<- List.map_drop,e0]
   ·rw [List.length_map]; exact small1000 (by omega)
   ·rw [List.getElem?_map] at hd
    cases hq:(x0 :: suf)[j]? with
    | none=>rw [hq] at hd; cases hd
    | some e=>
     rw [hq] at hd; cases hd
     refine Zav (Zaq (Zac rfl (Zaw (Zab (Zac rfl (Zae (Zjm (Or.inl rfl) hm hle (Zgm ⟨_,rfl,rfl,?_⟩))))))))
     by_cases hp:e=m
     ·rw [decide_eq_true hp,if_neg (by decide)]; exact ⟨_,rfl⟩
     ·rw [decide_eq_false hp,if_pos (by rfl)]; exact Zac rfl ⟨rfl,_,rfl⟩
   rw [Zlq,Zlv ndA]
   refine Zae ⟨_,rfl,Nat.lt_of_le_of_lt (List.length_erase_le) (by omega),fun ns n1 n2=>?_⟩
   have en:ns=ms:=List.Perm.eq_of_pairwise (le:=fun a b=>a<=b) (fun a b _ _ h1 h2=>by omega) n2 (X.up.imp fun h=>Int.le_of_lt h) (n1.trans X.perm.symm)
   subst en
   have lM:ns.length<=48:=by rw [X.perm.length_eq]; exact Nat.le_trans List.length_erase_le lA
   refine ⟨_,rfl,Za6 (Zaq (Zaq (Zeu (Zac rfl (Zbu (Zbr (Zac rfl ⟨_,rfl,.tup (pre.map D.int),?_,?_⟩)))))))⟩
   ·show some (D.tup (cutD (r.map D.int) none (some (a:Int))))=_
    rw [Zi1 _ (by rw [List.length_map]; omega),<- List.map_take,e3]
   refine Zcx (Zab (Zaw (Zab (Zac rfl (Zae (Zjm (Or.inl rfl) hm hle (Zae ⟨by show 1<=sizeLine; decide,Zez ?_ ?_⟩)))))))
   ·rw [List.length_map]; exact Nat.le_of_lt (small1000 (by show pre.length + 1<=1000; omega))
   refine Zaw (Zab (Zac rfl (Zae (Zca (Or.inl rfl) (Zez ?_ ?_)))))
   ·rw [List.length_append,List.length_map,List.length_map]; exact Nat.le_of_lt (small1000 (by show pre.length + 1 + ns.length<=1000; omega))
   have eq:D.tup (pre.map D.int ++ [D.int m] ++ ns.map D.int)=encRow (pre ++ m :: ns):=by
    show _=D.tup ((pre ++ m :: ns).map D.int)
    rw [List.map_append,List.append_assoc]
    rfl
   rw [eq]
   exact q
  ·have hd:(r.drop a).Pairwise (fun a b=>b<=a):=Zje (by omega) hdown
   rw [Znq (by omega) hd]
   exact iteF (Zax ⟨_,_,_,by omega,rfl⟩)
 ·rintro Δ2 ⟨x,y,z,hi,rfl⟩
  rw [Zdu] at hi
  omega
theorem Zmv (mb:Mb mg) (C__law_behind:Callee P w K mg base 1 "_law_behind" ["_law_row"] (spD K fLBeh)) (F:Fun K "_law_later" "_law_later" s_law_later f fd):FnOk P w K mg base CX0 2 f fd ["_law_order_here"] (spD K fLLat):=by
 refine F.ok sc_law_later (Zbc fun ds Post h=>by obtain ⟨_,_,_,rfl,_⟩:=h; rfl) (fun cdv A outer s H vs Q E hr h=>?_)
 have hu:=Zb5 hr
 have hv:=Zk7 hr
 refine ⟨_,(Zaf (Zcf PassesOwn.never rfl (Zfv rfl (mb "range" (by decide)) (Zaa (Zau Zfu (Zah (lenK K) rfl (mb "len" (by decide)) Zbk (Zaa (pv 0) Zad)) Zag) (Zaa (Zk6 Zhq Zag) (Zaa (Zk6 Zhq Zag) Zad)))) (Zas (i:=1) sc_law_later.nd rfl (Or.inl rfl)) (Zaf (Zar (i:=2) sc_law_later.nd rfl (Or.inl rfl) (Zaz C__law_behind (hr.mono (by decide)) (Zaa (Zbg (ixK K hu) (pv 0) (pv 1) (fun _ _=>rfl)) Zad))) (Zai (Zbt (Zay Zjx (pv 2) Zge (nomark _)) (Zai (Zat (Zau (addK K) (Zau (addK K) (Zbe (slK K) (pv 0) Zbs (Zbl (pv 1))) (Zei (Zaa (pv 2) Zad))) (Za7 (tupK K) rfl (mb "tuple" (by decide)) Za4 (Zaa (Zbp ["_law_other"] (show CompSc (defScope s_law_later) ["_law_order_here","_law_at","_law_row"] _ [] [] from ⟨rfl,by decide +kernel,by decide +kernel,by decide +kernel,rfl,by decide +kernel⟩) rfl (seqK K (Zbe (slK K) (pv 0) (Zbl (Zau (addK K) (pv 1) Zag)) Zbs)) (fun _ _ _ _ _=>(Zas (i:=0) (show List.Nodup (["_law_other"]:List Str) from by decide) rfl (Or.inl rfl))) (fun _ _ _ _ _=>Zcz) (fun _ _ _ _ _=>(Za7 (tupK K) rfl (mb "tuple" (by decide)) Za4 (Zaa (Zah (sortTK K) rfl (mb "sorted" (by decide)) Zdh (Zaa (pv 0) Zad)) Zad)))) Zad))))) Za1)))) (Zai (Zat Zge))),Zcu (fun ds Post hf=>?_) h⟩
 obtain ⟨o,E,st,rfl,hl,hrow,hso,hdown,hz,hs⟩:=hf
 refine ⟨by simp,?_⟩
 dsimp only [startD,List.tail,List.map,List.length,List.replicate]
 have hst:stepN ((o.length:Int) - 1) (-1) (-1)=o.length:=by
  unfold stepN
  rw [Zfe]
  by_cases h2:(o.length:Int) - 1 > -1
  ·rw [if_pos h2]; omega
  ·rw [if_neg h2]; omega
 refine Za9 (fun _=>st=0) ?_ (fun Δ1 h0=>Za6 (Zdd (hz h0)))
 refine Zce (Zgg (Zab (Zaq (Zaw (Zab (Zac rfl (Zae (Zbb (Or.inr rfl) (Zao (Zgt ?_))))))))))
 rw [List.length_map]
 refine Zab (Zla (Zao (Zgw (Zab (Zla (Zao (Zgw (Zae ⟨_,_,_,rfl,⟨by omega,by omega,by omega,by omega,Or.inr rfl⟩,?_⟩))))))))
 rw [hst]
 refine ⟨fun i Δ=>∃ x y:L2.Slot,i + st<=o.length /\ Δ = [.val (encOrd o),x,y],⟨_,_,by omega,rfl⟩,?_,?_⟩
 ·rintro i d Δ2 hd ⟨x,y,hi,rfl⟩
  obtain ⟨hi2,rfl⟩:=Zdv hd
  obtain ⟨a,ha⟩:∃ a,a=o.length - 1 - i:=⟨_,rfl⟩
  have hat:((o.length:Int) - 1 + (i:Int) * -1)=(a:Int):=by omega
  rw [hat]
  have hal:a < o.length:=by omega
  have ho:o[a]? = some (o.getD a []):=by rw [List.getD_eq_getElem?_getD,List.getElem?_eq_getElem hal]; rfl
  have hx:(o.map encRow)[a]? = some (encRow (o.getD a [])):=by rw [List.getElem?_map,ho]; rfl
  obtain ⟨R1,R2,R3⟩:=hrow a _ ho
  have ndR:(o.getD a []).Nodup:=R1.nodup_iff.mpr (Zdq R2)
  refine Zbf (Zal (Za0 (Zap (Zab (Zaq (Zac rfl (Zac rfl (Zbj (Zdi hx) ?_))))))))
  by_cases hap:st=a + 1
  ·obtain ⟨pre,x0,suf,m,ms,h1,e,X,q⟩:=hs a hap
   obtain ⟨e0,e1,e2,e3⟩:=Zlx e rfl
   refine Zae ⟨o.getD a [],pre.length,rfl,R3,ndR,by rw [e1]; exact X.down,fun z=>absurd (List.eq_nil_of_length_eq_zero z) h1,fun _=>⟨pre,x0,suf,m,ms,rfl,e,X,?_⟩⟩
   refine Zbh (Zav (Zaq (Zac rfl (Zdd (Zh8 ⟨_,rfl,iteT ?_⟩)))))
   refine Za6 (Zaq (Zaq (Zeu (Zac rfl (Zbu (Zbr (Zac rfl ⟨_,rfl,.tup ((o.take a).map encRow),?_,?_⟩)))))))
   ·show some (D.tup (cutD (o.map encRow) none (some (a:Int))))=_
    rw [Zi1 _ (by rw [List.length_map]; omega),List.map_take]
   refine Zcx (Zab (Zac rfl (Zae ⟨by show 1<=sizeLine; decide,Zez ?_ ?_⟩)))
   ·rw [List.length_map,List.length_take]; exact Nat.le_of_lt (small1000 (by show min a o.length + 1<=1000; omega))
   refine Zaw (Zab (Zci (by decide) (Zdn (Zeu (Zac rfl (Zbr (Zaq (Zac rfl (Zao (Zck ⟨_,rfl,Zbu ⟨.tup ((o.drop (a + 1)).map encRow),?_,_,rfl,?_,fun _=>true,fun d=>encRow (srtI (rowIx d)),fun j d hd=>?_,?_⟩⟩))))))))))
   ·show some (D.tup (cutD (o.map encRow) (some ((a:Int) + 1)) none))=_
    rw [show (a:Int) + 1=((a + 1:Nat):Int) by omega,Zdw _ (by rw [List.length_map]; omega),List.map_drop]
   ·rw [List.length_map,List.length_drop]; exact small1000 (by omega)
   ·rw [List.getElem?_map,List.getElem?_drop] at hd
    cases hq:o[a + 1 + j]? with
    | none=>rw [hq] at hd; cases hd
    | some t=>
     rw [hq] at hd; cases hd
     obtain ⟨T1,T2,T3⟩:=hrow _ _ hq
     refine Zcm ⟨rfl,Zaw (Zab (Zbo (Zfc (Zab (Zac rfl (Zae ⟨t,rfl,by omega,fun ns m1 m2=>⟨_,rfl,Zae (Zca (Or.inl rfl) ⟨?_,_,rfl⟩)⟩⟩))))))⟩
     show encRow ns=encRow (srtI (rowIx (encRow t)))
     rw [Zc7,<- Zgy m1 m2]
   have eS:(((o.drop (a + 1)).map encRow).filter fun _=>true).map (fun d=>encRow (srtI (rowIx d)))=((List.range' (a + 1) (o.length - (a + 1))).map E).map encRow:=by
    rw [List.filter_eq_self.mpr (by simp),<- Zh3 hrow,List.map_map,List.map_map]
    exact List.map_congr_left fun r _=>by show encRow (srtI (rowIx (encRow r)))=encRow (srtI r); rw [Zc7]
   rw [eS]
   refine Zae (Zca (Or.inl rfl) (Zez ?_ ?_))
   ·rw [List.length_append,List.length_map,List.length_map,List.length_map,List.length_range',List.length_take]; exact Nat.le_of_lt (small1000 (by show min a o.length + 1 + (o.length - (a + 1))<=1000; omega))
   have eq:D.tup ((o.take a).map encRow ++ [encRow (pre ++ m :: ms)] ++ ((List.range' (a + 1) (o.length - (a + 1))).map E).map encRow)=encOrd (o.take a ++ (pre ++ m :: ms) :: (List.range' (a + 1) (o.length - (a + 1))).map E):=by
    show _=D.tup (List.map encRow _)
    rw [List.map_append,List.append_assoc]
    rfl
   rw [eq]
   exact q
  ·refine Zae ⟨o.getD a [],0,rfl,R3,ndR,hdown a (by omega) hal,fun _=>?_,fun z=>absurd rfl z⟩
   exact Zbh (Zav (Zaq (Zac rfl (Zdd (Zi2 ⟨_,rfl,iteF (Zax ⟨_,_,by omega,rfl⟩)⟩)))))
 ·rintro Δ2 ⟨x,y,hi,rfl⟩
  rw [Zdu] at hi
  omega
theorem Zm8 (mb:Mb mg) (C__law_ends:Callee P w K mg base 1 "_law_ends" ["_law_web_here","_law_place"] (spN K fEnds)) (C__law_whole:Callee P w K mg base 1 "_law_whole" ["_law_found"] (spD K fWhole)) (F:Fun K "_law_is_order" "_law_is_order" s_law_is_order f fd):FnOk P w K mg base CX0 2 f fd ["_law_web_here","_law_order_here"] (spD K fIsO):=by
 refine F.ok sc_law_is_order (Zbc fun ds Post h=>by obtain ⟨_,_,_,rfl,_⟩:=h; rfl) (fun cdv A outer s H vs Q E hr h=>?_)
 have hu:=Zb5 hr
 have hv:=Zk7 hr
 refine ⟨_,(Zaf (Zbt (PW.pt (pw_or (Zb7 (truK K (Zah (isiUK K) rfl (mb "isinstance" (by decide)) Zan (Zaa (pv 1) (Zaa (Za5 rfl (mb "tuple" (by decide)) Za4 (show RelV (.ty "tuple") _ from rfl)) Zad))) (fun _=>rfl))) (pw_or1 (Zay Zcv (Zah (lenK K) rfl (mb "len" (by decide)) Zbk (Zaa (pv 1) Zad)) (Zbg (ixK K hu) (pv 0) Zag (fun _ _=>rfl)) (nomark _))))) (Zai (Zat Zc4)) Za1) (Zaf (Zcf PassesOwn.never rfl (Zdr K rfl (mb "enumerate" (by decide)) (Zaa (pv 1) Zad)) (gtupK (n:=2) K rfl (Zbq (Zas (i:=2) sc_law_is_order.nd rfl (Or.inl rfl)) (Zbq (Zas (i:=3) sc_law_is_order.nd rfl (Or.inl rfl)) Zed))) (Zaf (Zar (i:=4) sc_law_is_order.nd rfl (Or.inl rfl) (Zaz C__law_ends (hr.mono (by decide)) (Zaa (pv 0) (Zaa (pv 2) Zad)))) (Zaf (Zbt (PW.pt (pw_or (Zb7 (truK K (Zah (isiUK K) rfl (mb "isinstance" (by decide)) Zan (Zaa (pv 3) (Zaa (Za5 rfl (mb "tuple" (by decide)) Za4 (show RelV (.ty "tuple") _ from rfl)) Zad))) (fun _=>rfl))) (pw_or1 (Zb7 (truK K (Zah (allK K rfl) rfl (mb "all" (by decide)) Zl5 (Zaa (Zbp ["_law_end"] (show CompSc (defScope s_law_is_order) ["_law_web_here","_law_order_here","_law_place","_law_row","_law_ends_here"] _ [] [] from ⟨rfl,by decide +kernel,by decide +kernel,by decide +kernel,rfl,by decide +kernel⟩) rfl (seqK K (pv 3)) (fun _ _ _ _ _=>(Zas (i:=0) (show List.Nodup (["_law_end"]:List Str) from by decide) rfl (Or.inl rfl))) (fun _ _ _ _ _=>Zcz) (fun _ _ _ _ _=>(Zaz C__law_whole (hr.mono (by decide)) (Zaa (pv 0) Zad)))) Zad)) (fun _=>rfl)))))) (Zai (Zat Zc4)) Za1) (Zai (Zbt (PW.pt (pw_or (Zay (neIK K hv) (Zah (sortTK K) rfl (mb "sorted" (by decide)) Zdh (Zaa (pv 3) Zad)) (pv 4) (nomark _)) (pw_or1 (Zay (neFK K hv) (Zbe (slK K) (pv 3) Zbs (Zbl Zag)) (Za7 (tupK K) rfl (mb "tuple" (by decide)) Za4 (Zaa (Zbe (slK K) (pv 4) Zbs (Zbl Zag)) Zad)) (nomark _))))) (Zai (Zat Zc4)) Za1))))) (Zai (Zat Zc4)))),Zcu (fun ds Post hf=>?_) h⟩
 obtain ⟨n,ts,o,rfl,hW,hO,q⟩:=hf
 refine ⟨by simp,?_⟩
 dsimp only [startD,List.tail,List.map,List.length,List.replicate]
 have hl:=hW.len
 have ho:=hO.len
 have hn:=hW.hi
 refine Zal (Zbh (Zdj (Zbw (Zbi (Zaw (Zab (Zac rfl (Zab (Zbm (Zae (Zba (T:="tuple") (b:=true) rfl (fun _=>by rfl) ⟨_,rfl,iteF ?_⟩)))))))))))
 refine Zav (Zaq (Zaw (Zab (Zac rfl (Zae (Zbb (Or.inr rfl) (Zaq (Zac rfl (Zao (Zbj (d:=.int n) rfl (Zgm ⟨_,rfl,?_⟩)))))))))))
 rw [List.length_map,decide_eq_true ho]
 refine iteF (Zax ?_)
 refine Za9 (fun _=>True) ?_ (fun Δ1 _=>Za6 (Zpp q))
 refine Zce (Ziy (Zab (Zac rfl (Zae ⟨_,Or.inr rfl,fun i Δ=>∃ x1 x2 x3:L2.Slot,Δ = [.val (encWeb n ts),.val (encOrd o),x1,x2,x3],⟨_,_,_,rfl⟩,?_,fun _ _=>trivial⟩))))
 rintro i d Δ2 hd ⟨x1,x2,x3,rfl⟩
 obtain ⟨d1,hd1,rfl⟩:=Zgr hd
 rw [List.getElem?_map] at hd1
 cases hg:o[i]? with
 | none=>rw [hg] at hd1; cases hd1
 | some r=>
  rw [hg] at hd1; cases hd1
  have R:=hO.row i r hg
  have rl:=R.len
  refine Zh4 rfl (Zb6 (Zbf (Zb6 (Zbf (Ze8 ?_)))))
  refine Zal (Za0 (Zbo (Zdp (Zab (Zac rfl (Zab (Zac rfl (Zae ⟨n,ts,(i:Int),rfl,hl,_,rfl,?_⟩))))))))
  refine Zal (Zbh (Zdj (Zbw (Zbi (Zaw (Zab (Zac rfl (Zab (Zbm (Zae (Zba (T:="tuple") (b:=true) rfl (fun _=>by rfl) ⟨_,rfl,iteF ?_⟩)))))))))))
  refine Zbw (Zbi (Zaw (Zab (Zci (by decide) (Zdn (Zac rfl ⟨_,rfl,?_,fun _=>true,fun _=>.bl true,fun j d hd=>?_,?_⟩))))))
  ·rw [List.length_map]; exact small1000 (by omega)
  ·rw [List.getElem?_map] at hd
   cases z:r[j]? with
   | none=>rw [z] at hd; cases hd
   | some x=>
    rw [z] at hd; cases hd
    exact Zcm ⟨rfl,Zap (Zab (Zac rfl (Zae ⟨_,rfl,rfl,_,rfl⟩)))⟩
  have eA:((r.map D.int).filter fun _=>true).map (fun _=>D.bl true)=(List.replicate r.length true).map D.bl:=by
   rw [List.filter_eq_self.mpr (by simp),List.map_const',List.map_replicate,List.length_map]
  refine Zae ?_
  rw [eA]
  refine Zjl ⟨_,rfl,?_⟩
  rw [Ze4]
  refine iteF (Zax ?_)
  refine Zbh (Zdj (Zav (Zaq (Zbo (Zfc (Zab (Zac rfl (Zae ⟨_,rfl,by omega,fun ms m1 m2=>⟨_,rfl,Zac rfl ?_⟩⟩))))))))
  rw [Zjk R m1 m2]
  refine Zob ⟨_,rfl,iteF ?_⟩
  refine Zav (Zaq (Zeu (Zac rfl (Zbu (Zbr (Zao ⟨_,rfl,.tup ((r.take 1).map D.int),?_,?_⟩))))))
  ·show some (D.tup (cutD (r.map D.int) none (some 1)))=_
   rw [Zkd,List.map_take]
  refine Zaw (Zab (Zeu (Zac rfl (Zbu (Zbr (Zao ⟨_,rfl,.lst ((r.take 1).map D.int),?_,Zae (Zca (Or.inl rfl) ?_)⟩))))))
  ·show some (D.lst (cutD ((endsBelow ts (2 * ts.length) i).map D.int) none (some 1)))=_
   rw [Zkd,Zjh R.first,List.map_take]
  refine Zmp (fun d hd=>?_) ⟨_,rfl,iteF (Zax ⟨_,_,_,rfl⟩)⟩
  obtain ⟨y,_,rfl⟩:=List.mem_map.mp hd
  rfl
end
section
variable {P:Program} {w:World} {K:PySem.W.Frag} {mg:Str->Option Value} {base:Heap} {f:Addr} {fd:FuncData}
theorem Zdb {n:Int} {ts:List (Int × Int)} {o:List (List Int)} (hW:WebOk n ts) (hO:OrdOk n ts o):Lv 3 (encOrd o):=by
 have h1:=hO.len
 have h2:=hW.hi
 have h3:=hW.len
 refine Zn6 (by omega) fun r hr=>?_
 obtain ⟨p,hp,e⟩:=List.mem_iff_getElem.mp hr
 have:=(hO.row p r (by rw [List.getElem?_eq_getElem hp,e])).len
 omega
end
theorem Zgn {N:Nat} {ts:List (Int × Int)} (n:Nat):OrdOk (N:Int) ts (ordN (endsP ts) N n):=by
 refine ⟨by rw [Zbn],fun p r h=>?_⟩
 obtain ⟨h1,h2⟩:=Zh9 (Zb0 ts _ _) r (Zhy (endsP ts) N n p r h)
 exact ⟨h1,h2⟩
theorem Zf7 (E:Nat->List Int):∀ k,ordN E k 0=(List.range' 0 k).map E
 | 0=>rfl
 | k + 1=>by
  rw [Zfr,Nat.zero_div,Nat.zero_mod,Zeh,Zf7 E k,List.range'_concat,List.map_append,Nat.one_mul,Nat.zero_add]
  rfl
theorem Zhz {N:Nat} {ts:List (Int × Int)} {o:List (List Int)} (hO:OrdOk (N:Int) ts o):numN (endsP ts) o N < ways N ts/\ordN (endsP ts) N (numN (endsP ts) o N)=o:=by
 have hl:=hO.len
 obtain ⟨h1,h2⟩:=Zgo (E:=endsP ts) (o:=o) (fun p r h=>⟨(hO.row p r h).perm,(hO.row p r h).first⟩) N (by omega)
 exact ⟨h1,by rw [h2,List.take_of_length_le (by omega)]⟩
theorem Zld {N:Nat} {ts:List (Int × Int)} {n:Nat} (h:n < ways N ts):numN (endsP ts) (ordN (endsP ts) N n) N=n:=Zio (fun p=>Zb0 ts _ _) N n h _ fun _ _=>rfl
def k7S (ns:List Int) (ps:List D) (N:Nat) (ts:List (Int × Int)) (o:List (List Int)) (k:Nat) (x7 x8 x9 x10 x11:L2.Slot):Evt:=[.val (.scr (ns.map .int)),.own (.lst ps),.val (encWeb (N:Int) ts),.val (encOrd o),.val (.int (ways N ts:Nat)),.val (.int (numN (endsP ts) o N:Nat)),.val (.int (k:Nat)),x7,x8,x9,x10,x11]
section
variable {P:Program} {w:World} {K:PySem.W.Frag} {mg:Str->Option Value} {base:Heap} {f:Addr} {fd:FuncData}
theorem ok_law (mb:Mb mg) (C__law_pen:Callee P w K mg base 1 "_law_pen" ["_law_script"] (spN K fPen)) (C__law_web:Callee P w K mg base 2 "_law_web" ["_law_pen_here","_law_places","_law_ties"] (spB K fWeb))
  (C__law_order:Callee P w K mg base 2 "_law_order" ["_law_pen_here","_law_web_here"] (spB K fOrder)) (C_orders_many:Callee P w K mg base 3 "orders_many" ["web"] (spD K fOmB)) (C__law_whole:Callee P w K mg base 1 "_law_whole" ["_law_found"] (spD K fWhole))
  (C__law_many:Callee P w K mg base 2 "_law_many" ["_law_web_here"] (spD K fOmB)) (C_number_of:Callee P w K mg base 3 "number_of" ["web","order"] (spD K fNumOf)) (C__law_same:Callee P w K mg base 3 "_law_same" ["_law_found","_law_due"] (spD K (fSame 3)))
  (C_order_at:Callee P w K mg base 4 "order_at" ["web","number"] (spD K fOrdAt)) (C__law_draw:Callee P w K mg base 1 "_law_draw" ["_law_pen_here","_law_many_here"] (spB K fDraw))
  (C__law_is_order:Callee P w K mg base 2 "_law_is_order" ["_law_web_here","_law_order_here"] (spD K fIsO)) (C__law_later:Callee P w K mg base 2 "_law_later" ["_law_order_here"] (spD K fLLat))
  (F:Fun K "law" "law" s_law f fd):FnOk P w K mg base CX0 5 f fd ["_law_script"] (spD K fLaw):=by
 refine F.ok sc_law (Zbc fun ds Post h=>by obtain ⟨_,rfl,_⟩:=h; rfl) (fun cdv A outer s H vs Q E hr h=>?_)
 have hu:=Zb5 hr
 have hv:=Zk7 hr
 refine ⟨_,(Zaf (Zar (i:=1) sc_law.nd rfl (Or.inl rfl) (Zaz C__law_pen (hr.mono (by decide)) (Zaa (pv 0) Zad))) (Zaf (Zar (i:=2) sc_law.nd rfl (Or.inl rfl) (Zaz C__law_web (hr.mono (by decide)) (Zaa (pv 1) (Zaa Zag (Zaa Zag Zad))))) (Zaf (Zar (i:=3) sc_law.nd rfl (Or.inl rfl) (Zaz C__law_order (hr.mono (by decide)) (Zaa (pv 1) (Zaa (pv 2) Zad)))) (Zaf (Zar (i:=4) sc_law.nd rfl (Or.inl rfl) (Zaz C_orders_many (hr.mono (by decide)) (Zaa (pv 2) Zad))) (Zaf (Zbt (PW.pt (pw_or (Zb7 (truK K (Zaz C__law_whole (hr.mono (by decide)) (Zaa (pv 4) Zad)) (fun _=>rfl))) (pw_or1 (Zay Zcv (pv 4) (Zaz C__law_many (hr.mono (by decide)) (Zaa (pv 2) Zad)) (nomark _))))) (Zai (Zat Zc4)) Za1) (Zaf (Zar (i:=5) sc_law.nd rfl (Or.inl rfl) (Zaz C_number_of (hr.mono (by decide)) (Zaa (pv 2) (Zaa (pv 3) Zad)))) (Zaf (Zbt (PW.pt (pw_or (Zb7 (truK K (Zaz C__law_whole (hr.mono (by decide)) (Zaa (pv 5) Zad)) (fun _=>rfl))) (pw_or (Zb7 (Zht Zom Zm5 Zag (pv 5) (pv 4))) (pw_or1 (Zb7 (truK K (Zaz C__law_same (hr.mono (by decide)) (Zaa (Zaz C_order_at (hr.mono (by decide)) (Zaa (pv 2) (Zaa (pv 5) Zad))) (Zaa (pv 3) Zad))) (fun _=>rfl))))))) (Zai (Zat Zc4)) Za1) (Zaf (Zar (i:=6) sc_law.nd rfl (Or.inl rfl) (Zbg (ixK K hu) (Zd9 (Zaa (Zaz C__law_draw (hr.mono (by decide)) (Zaa (pv 1) (Zaa (pv 4) Zad))) (Zaa Zag (Zaa (Zau Zfu (pv 4) Zag) (Zaa (Zau Zbv (Zaz C__law_draw (hr.mono (by decide)) (Zaa (pv 1) (Zaa Zag Zad))) (pv 4)) Zad))))) (Zaz C__law_draw (hr.mono (by decide)) (Zaa (pv 1) (Zaa Zag Zad))) (fun _ _=>rfl))) (Zaf (Zcf PassesOwn.never rfl (seqK K (Zd9 (Zaa (pv 6) (Zaa (pv 5) Zad)))) (Zas (i:=7) sc_law.nd rfl (Or.inl rfl)) (Zaf (Zar (i:=8) sc_law.nd rfl (Or.inl rfl) (Zaz C_order_at (hr.mono (by decide)) (Zaa (pv 2) (Zaa (pv 7) Zad)))) (Zaf (Zbt (PW.pt (pw_or (Zb7 (truK K (Zaz C__law_is_order (hr.mono (by decide)) (Zaa (pv 2) (Zaa (pv 8) Zad))) (fun _=>rfl))) (pw_or1 (Zay Zcv (Zaz C_number_of (hr.mono (by decide)) (Zaa (pv 2) (Zaa (pv 8) Zad))) (pv 7) (nomark _))))) (Zai (Zat Zc4)) Za1) (Zaf (Zar (i:=9) sc_law.nd rfl (Or.inl rfl) (Zaz C__law_later (hr.mono (by decide)) (Zaa (pv 8) Zad))) (Zaf (Zbt (Zay Zcv (Ze2 Zo4 (pv 9) Zge (nomark _)) (Ze2 Zcp (pv 7) (Zau Zfu (pv 4) Zag) (nomark _)) (nomark _)) (Zai (Zat Zc4)) Za1) (Zai (Zbt (PW.pt (pw_and (Zay Zjx (pv 9) Zge (nomark _)) (pw_and1 (Zb7 (truK K (Zaz C__law_same (hr.mono (by decide)) (Zaa (Zaz C_order_at (hr.mono (by decide)) (Zaa (pv 2) (Zaa (Zau (addK K) (pv 7) Zag) Zad))) (Zaa (pv 9) Zad))) (fun _=>rfl)))))) (Zai (Zat Zc4)) Za1))))))) (Zaf (Zar (i:=10) sc_law.nd rfl (Or.inl rfl) (Zaz C__law_web (hr.mono (by decide)) (Zaa (pv 1) (Zaa Zag (Zaa Zag Zad))))) (Zaf (Zar (i:=11) sc_law.nd rfl (Or.inl rfl) (Zaz C__law_order (hr.mono (by decide)) (Zaa (pv 1) (Zaa (pv 10) Zad)))) (Zaf (Zbt (PW.pt (pw_or (Zb7 (truK K (Zaz C__law_same (hr.mono (by decide)) (Zaa (Zaz C_order_at (hr.mono (by decide)) (Zaa (pv 10) (Zaa (Zaz C_number_of (hr.mono (by decide)) (Zaa (pv 10) (Zaa (pv 11) Zad))) Zad))) (Zaa (pv 11) Zad))) (fun _=>rfl))) (pw_or1 (Zay Zcv (Zaz C_orders_many (hr.mono (by decide)) (Zaa (pv 10) Zad)) (Zaz C__law_many (hr.mono (by decide)) (Zaa (pv 10) Zad)) (nomark _))))) (Zai (Zat Zc4)) Za1) (Zaf (Zbt (Zb7 (truK K (Zaz C__law_same (hr.mono (by decide)) (Zaa (Zaz C_order_at (hr.mono (by decide)) (Zaa (pv 2) (Zaa (pv 5) Zad))) (Zaa (pv 3) Zad))) (fun _=>rfl))) (Zai (Zat Zc4)) Za1) (Zai (Zat (Zaz C__law_same (hr.mono (by decide)) (Zaa (Zaz C_order_at (hr.mono (by decide)) (Zaa (pv 2) (Zaa Zag Zad))) (Zaa (Za7 (tupK K) rfl (mb "tuple" (by decide)) Za4 (Zaa (Zbp ["_law_row"] (show CompSc (defScope s_law) ["_law_script","_law_pen_here","_law_web_here","_law_order_here","_law_many_here","_law_number","_law_drawn","_law_at","_law_found","_law_later_here","_law_beside","_law_other"] _ [] [] from ⟨rfl,by decide +kernel,by decide +kernel,by decide +kernel,rfl,by decide +kernel⟩) rfl (seqK K (pv 3)) (fun _ _ _ _ _=>(Zas (i:=0) (show List.Nodup (["_law_row"]:List Str) from by decide) rfl (Or.inl rfl))) (fun _ _ _ _ _=>Zcz) (fun _ _ _ _ _=>(Za7 (tupK K) rfl (mb "tuple" (by decide)) Za4 (Zaa (Zah (sortTK K) rfl (mb "sorted" (by decide)) Zdh (Zaa (pv 0) Zad)) Zad)))) Zad)) Zad)))))))))))))))))),Zcu (fun ds Post hf=>?_) h⟩
 obtain ⟨ns,rfl,hl,q⟩:=hf
 refine ⟨by simp,?_⟩
 dsimp only [startD,List.tail,List.map,List.length]
 refine Zal (Zdm (Zdp (Zab (Zac rfl (Zae ⟨ns,rfl,hl,fun ps hp=>?_⟩)))))
 refine Zal (Za0 (Zdt rfl rfl (Zab (Zao (Zab (Zao (Zae (Zly rfl rfl hp (by omega) (by omega) (by omega) (by omega) fun n ts ps1 hp1 hW _ _=>?_))))))))
 obtain ⟨N,rfl⟩:∃ N:Nat,n=(N:Int):=⟨n.toNat,by have:=hW.lo; omega⟩
 refine Zal (Za0 (Zdt rfl rfl (Zab (Zac rfl (Zae (Zhm rfl rfl hp1 hW fun o ps2 hp2 hO=>?_))))))
 have ho1:=hO.len
 have hw1:=hW.hi
 have hw2:=hW.len
 obtain ⟨b1,b2⟩:=Zhz hO
 have hway:ways N ts<=258623241511168180642964355153611979969197632389120000000000:=Zes hw2 N
 refine Zal (Za0 (Zap (Zab (Zac rfl (Zae ⟨N,ts,rfl,hW,?_⟩)))))
 refine Zal (Zbh (Zdj (Zbw (Zbi (Zap (Zab (Zac rfl (Zae ⟨_,rfl,true,rfl,iteF ?_⟩))))))))
 refine Zav (Zaq (Zac rfl (Zap (Zab (Zac rfl (Zae ⟨N,ts,rfl,hW,Zgm ⟨_,rfl,?_⟩⟩))))))
 rw [decide_eq_true rfl]
 refine iteF (Zax ?_)
 refine Zal (Za0 (Zap (Zab (Zac rfl (Zab (Zac rfl (Zae ⟨N,ts,o,rfl,hW,hO,?_⟩)))))))
 refine Zal (Zbh (Zdj (Zbw (Zbi (Zap (Zab (Zac rfl (Zae ⟨_,rfl,true,rfl,iteF ?_⟩))))))))
 refine Zdj (Zbw (Zav (Zh1 (Zao (Zac rfl (Zij ⟨_,rfl,?_⟩))))))
 rw [if_pos (by simp)]
 refine Zac rfl (Zij ⟨_,rfl,?_⟩)
 rw [decide_eq_true (show ((numN (endsP ts) o N:Nat):Int) < (ways N ts:Nat) by omega)]
 refine iteF ?_
 refine Zbw (Zbi (Zap (Zab (Zap (Zab (Zac rfl (Zab (Zac rfl (Zae ⟨N,ts,_,rfl,hW,b1,?_⟩)))))))))
 rw [b2]
 refine Zab (Zac rfl (Zae ⟨_,rfl,Zdb hW hO,true,rfl,iteF (Zax ?_)⟩))
 refine Zal (Za0 (Zo3 (fun d Δ=>∃ (k:Nat) (ps':List D),k < ways N ts/\Pen ps' /\ d=.int (k:Int) /\ Δ = [.val (.scr (ns.map .int)),.own (.lst ps'),.val (encWeb (N:Int) ts),.val (encOrd o),.val (.int (ways N ts:Nat)),.val (.int (numN (endsP ts) o N:Nat)),.any,.any,.any,.any,.any,.any]) ?_ ?_))
 ·refine Zaq (Zjt (Zab (Zdt rfl rfl (Zab (Zac rfl (Zae (Zco rfl rfl hp2 (by omega) (by omega) fun d1 ps3 hp3 a1 a2=>?_)))))))
  refine Zab (Zao (Zab (Zaq (Zac rfl (Zao (Zgt ?_))))))
  refine Zab (Zaq (Zmh rfl rfl hp3 (by decide) (by decide) fun d2 ps4 hp4 c1 c2=>Zac rfl (jr_I (by show (0:Int) < _; omega) (Zae ⟨by show 4<=sizeLine; decide,?_⟩))))
  refine Zmh rfl rfl hp4 (by decide) (by decide) fun d3 ps5 hp5 e1 e2=>?_
  have m1:=Int.emod_nonneg d2 (b:=((ways N ts:Nat):Int)) (by omega)
  have m2:=Int.emod_lt_of_pos d2 (b:=((ways N ts:Nat):Int)) (by omega)
  rcases (by omega:d3=0\/d3=1\/d3=2\/d3=3) with rfl | rfl | rfl | rfl
  ·exact Zc0 (d:=.int d1) rfl ⟨d1.toNat,ps5,by omega,hp5,by rw [Int.toNat_of_nonneg a1],rfl⟩
  ·exact Zc0 (d:=.int 0) rfl ⟨0,ps5,by omega,hp5,rfl,rfl⟩
  ·exact Zc0 (d:=.int ((ways N ts:Nat) - 1:Int)) rfl ⟨ways N ts - 1,ps5,by omega,hp5,by rw [show (((ways N ts - 1:Nat)):Int)=(ways N ts:Nat) - 1 by omega],rfl⟩
  ·exact Zc0 (d:=.int (d2 % (ways N ts:Nat))) rfl ⟨(d2 % (ways N ts:Nat)).toNat,ps5,by omega,hp5,by rw [Int.toNat_of_nonneg m1],rfl⟩
 rintro d Δ1 ⟨k,ps6,hk,hp6,rfl,rfl⟩
 refine Za9 (fun Δ=>∃ x7 x8 x9:L2.Slot,Δ = k7S ns ps6 N ts o k x7 x8 x9 .any .any) ?_ ?_
 ·refine Zce (Zkf (Zjt (Zab (Zac rfl (Zab (Zac rfl (Zae ⟨by show 2<=sizeLine; decide,_,Or.inl rfl,fun i Δ=>∃ x7 x8 x9:L2.Slot,Δ = k7S ns ps6 N ts o k x7 x8 x9 .any .any,⟨_,_,_,rfl⟩,?_,fun Δ h=>h⟩)))))))
  rintro i d Δ2 hd ⟨x7,x8,x9,rfl⟩
  obtain ⟨a,ha,rfl⟩:∃ a:Nat,a < ways N ts/\d=.int (a:Int):=by
   match i,hd with
   | 0,hd=>exact ⟨k,hk,(Option.some.inj hd).symm⟩
   | 1,hd=>exact ⟨_,b1,(Option.some.inj hd).symm⟩
   | _ + 2,hd=>cases hd
  unfold k7S
  have hOa:OrdOk (N:Int) ts (ordN (endsP ts) N a):=Zgn a
  refine Zbf (Zal (Za0 (Zap (Zab (Zac rfl (Zab (Zac rfl (Zae ⟨N,ts,a,rfl,hW,ha,?_⟩))))))))
  refine Zal (Zbh (Zdj (Zbw (Zbi (Zap (Zab (Zac rfl (Zab (Zac rfl (Zae ⟨(N:Int),ts,_,rfl,hW,hOa,true,rfl,iteF ?_⟩))))))))))
  refine Zav (Zaq (Zap (Zab (Zac rfl (Zab (Zac rfl (Zae ⟨N,ts,_,rfl,hW,hOa,Zac rfl (Zgm ⟨_,rfl,?_⟩)⟩)))))))
  rw [Zld ha,decide_eq_true rfl]
  refine iteF (Zax ?_)
  have hrow:∀ (q:Nat) r,(ordN (endsP ts) N a)[q]? = some r->r.Perm (endsP ts q)/\(endsP ts q).Pairwise (· < ·)/\r.length<=48:=fun q r h=>by
   have R:=hOa.row q r h
   have:=R.len
   exact ⟨R.perm,Zb8 ts _ _,by omega⟩
  have hol:=Zbn (endsP ts) N a
  rcases Zhd (E:=endsP ts) (fun p=>Zb8 ts _ _) N a ha with ⟨n1,n2⟩ | ⟨n1,p,pre,x,suf,m,ms,p1,p2,p3,p4,p5,p6⟩
  ·have n1:a + 1=ways N ts:=n1
   refine Zal (Za0 (Zap (Zab (Zac rfl (Zae ⟨_,endsP ts,0,rfl,by omega,hrow,Nat.zero_le _,fun q _ hq=>n2 q (by omega),fun _=>?_,fun p z=>by omega⟩)))))
   refine Zal (Zbh (Zav (Zaq (Zaq (Zac rfl (Zdd (Zo7 ?_)))))))
   refine Zaq (Zac rfl (Zaq (Zac rfl (Zao (Zgt (Zga (Zem ⟨_,rfl,?_⟩)))))))
   rw [decide_eq_true (show ((a:Nat):Int)=((ways N ts:Nat):Int) - 1 by omega)]
   refine iteF (Zax ?_)
   exact Zbh (Zhw (Zav (Zaq (Zac rfl (Zdd (Zi2 ⟨_,rfl,iteF (iteF (Zax ⟨_,_,_,rfl⟩))⟩))))))
  ·have n1:a + 1 < ways N ts:=n1
   refine Zal (Za0 (Zap (Zab (Zac rfl (Zae ⟨_,endsP ts,p + 1,rfl,by omega,hrow,by omega,fun q hpq hq=>p5 q (by omega) (by omega),fun z=>by omega,fun p' z=>?_⟩)))))
   obtain rfl:p=p':=by omega
   refine ⟨pre,x,suf,m,ms,p2,p3,p4,?_⟩
   rw [hol,<- p6]
   refine Zal (Zbh (Zav (Zaq (Zaq (Zac rfl (Zdd (Znd ?_)))))))
   refine Zaq (Zac rfl (Zaq (Zac rfl (Zao (Zgt (Zga (Zem ⟨_,rfl,?_⟩)))))))
   rw [decide_eq_false (show ¬ ((a:Nat):Int)=((ways N ts:Nat):Int) - 1 by omega)]
   refine iteF (Zax ?_)
   refine Zbh (Zhw (Zav (Zaq (Zac rfl (Zdd (Zh8 ⟨_,rfl,iteT ?_⟩))))))
   refine Zbw (Zbi (Zap (Zab (Zap (Zab (Zac rfl (Zab (Zaq (Zac rfl (Zao (Zck (Zae ⟨N,ts,a + 1,by rw [Int.natCast_add]; rfl,hW,n1,?_⟩))))))))))))
   exact Zab (Zac rfl (Zae ⟨_,rfl,Zdb hW (Zgn (a + 1)),true,rfl,iteF (Zax ⟨_,_,_,rfl⟩)⟩))
 rintro Δ1 ⟨x7,x8,x9,rfl⟩
 unfold k7S
 refine Zal (Za0 (Zdt rfl rfl (Zab (Zao (Zab (Zao (Zae (Zly rfl rfl hp6 (by omega) (by omega) (by omega) (by omega) fun n2 us ps7 hp7 hV _ _=>?_))))))))
 obtain ⟨M,rfl⟩:∃ M:Nat,n2=(M:Int):=⟨n2.toNat,by have:=hV.lo; omega⟩
 refine Zal (Za0 (Zdt rfl rfl (Zab (Zac rfl (Zae (Zhm rfl rfl hp7 hV fun v ps8 hp8 hU=>?_))))))
 obtain ⟨c1,c2⟩:=Zhz hU
 refine Zal (Zbh (Zdj (Zbw (Zbi (Zap (Zab (Zap (Zab (Zac rfl (Zab (Zap (Zab (Zac rfl (Zab (Zac rfl (Zae ⟨M,us,v,rfl,hV,hU,Zae ⟨M,us,_,rfl,hV,c1,?_⟩⟩))))))))))))))))
 rw [c2]
 refine Zab (Zac rfl (Zae ⟨_,rfl,Zdb hV hU,true,rfl,iteF ?_⟩))
 refine Zav (Zaq (Zap (Zab (Zac rfl (Zae ⟨M,us,rfl,hV,Zap (Zab (Zac rfl (Zae ⟨M,us,rfl,hV,Zgm ⟨_,rfl,?_⟩⟩)))⟩)))))
 rw [decide_eq_true rfl]
 refine iteF (Zax ?_)
 refine Zal (Zbh (Zbw (Zbi (Zap (Zab (Zap (Zab (Zac rfl (Zab (Zac rfl (Zae ⟨N,ts,_,rfl,hW,b1,?_⟩)))))))))))
 rw [b2]
 refine Zab (Zac rfl (Zae ⟨_,rfl,Zdb hW hO,true,rfl,iteF (Zax ?_)⟩))
 refine Za6 (Zap (Zab (Zap (Zab (Zac rfl (Zab (Zao (Zae ⟨N,ts,0,rfl,hW,by omega,?_⟩))))))))
 refine Zab (Zaw (Zab (Zci (by decide) (Zdn (Zac rfl ⟨_,rfl,?_,fun _=>true,fun d=>encRow (srtI (rowIx d)),fun j d hd=>?_,?_⟩)))))
 ·rw [List.length_map]; exact small1000 (by omega)
 ·rw [List.getElem?_map] at hd
  cases hq:o[j]? with
  | none=>rw [hq] at hd; cases hd
  | some t=>
   rw [hq] at hd; cases hd
   have:=(hO.row j t hq).len
   refine Zcm ⟨rfl,Zaw (Zab (Zbo (Zfc (Zab (Zac rfl (Zae ⟨t,rfl,by omega,fun ms m1 m2=>⟨_,rfl,Zae (Zca (Or.inl rfl) ⟨?_,_,rfl⟩)⟩⟩))))))⟩
   show encRow ms=encRow (srtI (rowIx (encRow t)))
   rw [Zc7,<- Zgy m1 m2]
 have eS:((o.map encRow).filter fun _=>true).map (fun d=>encRow (srtI (rowIx d)))=(ordN (endsP ts) N 0).map encRow:=by
  have hrow:∀ (q:Nat) r,o[q]? = some r->r.Perm (endsP ts q)/\(endsP ts q).Pairwise (· < ·)/\r.length<=48:=fun q r h=>by
   have R:=hO.row q r h
   have:=R.len
   exact ⟨R.perm,Zb8 ts _ _,by omega⟩
  have e0:=Zh3 hrow 0
  rw [List.drop_zero,Nat.sub_zero,show o.length=N by omega] at e0
  rw [Zf7,<- e0,List.filter_eq_self.mpr (by simp),List.map_map,List.map_map]
  exact List.map_congr_left fun r _=>by show encRow (srtI (rowIx (encRow r)))=encRow (srtI r); rw [Zc7]
 rw [eS]
 exact Zae (Zca (Or.inl rfl) (Zae ⟨_,rfl,Zdb hW (Zgn 0),q⟩))
end
theorem lenS {us:List Value} {n:Nat} (h:us.length=n + 1):∃ a t,us=a :: t/\t.length=n:=by
 cases us with
 | nil=>exact absurd h.symm (Nat.succ_ne_zero n)
 | cons a t=>exact ⟨a,t,rfl,Nat.succ.inj h⟩
theorem bK1 {α:Type _} {g r:List Value -> α} (h:∀ a0,g [a0]=r [a0]) (us:List Value) (l:us.length=1):g us=r us:=by
 obtain ⟨a0,u0,rfl,h0⟩:=lenS l
 obtain rfl:=List.eq_nil_of_length_eq_zero h0
 exact h a0
theorem bK2 {α:Type _} {g r:List Value -> α} (h:∀ a0 a1,g [a0,a1]=r [a0,a1]) (us:List Value) (l:us.length=2):g us=r us:=by
 obtain ⟨a0,u0,rfl,h0⟩:=lenS l
 obtain ⟨a1,u1,rfl,h1⟩:=lenS h0
 obtain rfl:=List.eq_nil_of_length_eq_zero h1
 exact h a0 a1
theorem bK3 {α:Type _} {g r:List Value -> α} (h:∀ a0 a1 a2,g [a0,a1,a2]=r [a0,a1,a2]) (us:List Value) (l:us.length=3):g us=r us:=by
 obtain ⟨a0,u0,rfl,h0⟩:=lenS l
 obtain ⟨a1,u1,rfl,h1⟩:=lenS h0
 obtain ⟨a2,u2,rfl,h2⟩:=lenS h1
 obtain rfl:=List.eq_nil_of_length_eq_zero h2
 exact h a0 a1 a2
def FnE (K:PySem.W.Frag) (x:Str) (st:Stmt):Prop:=∃ (f:Addr) (fd:FuncData),PySem.W.nsIn K mainGlobals x=some (some (.ref f))/\Fun K x x st f fd
theorem fnE {K:PySem.W.Frag} {x:Str} {st:Stmt} {f:Addr} {oc kV doc pm cdv ct:Value} {od an:Option Addr} {sl:Array (Option Value)} (a:PySem.W.nsIn K mainGlobals x=some (some (.ref f))) (l:K.lookup f=some ⟨oc,od,.func (PySem.W.fnOf x x (defArgs st) (defBody st) (defScope st) .none kV doc pm an cdv ct),sl⟩) (c:PySem.W.codeIn K cdv x=true) (k:PySem.W.keepIn K (.ref f)=true):FnE K x st:=⟨f,_,a,Zog l c k⟩
theorem Znl {P:Program} {w:World} {K:PySem.W.Frag} {mg:Str->Option Value} {base h:Heap} (X:K.In h) (G:h.Ns mainGlobals mg) {x:Str} {st:Stmt} {ps:List Str} {lv:Nat} {sp:Sp} (e:FnE K x st) (ok:∀ {f:Addr} {fd:FuncData},Fun K x x st f fd->FnOk P w K mg base CX0 lv f fd ps sp) (hb:∀ (kV doc pm:Value) (an:Option Addr) (cdv ct:Value) (us:List Value),us.length=ps.length->bindArgs (PySem.W.fnOf x x (defArgs st) (defBody st) (defScope st) .none kV doc pm an cdv ct) ⟨us,[]⟩ = pure (ps.zip us)):Callee P w K mg base lv x ps sp:=by
 obtain ⟨f,fd,a,F⟩:=e
 exact ⟨⟨f,fd,ok F,F.binds hb,F.kp,PySem.W.mg_of X G a⟩⟩
theorem Zlm {P:Program} {w:World} {K:PySem.W.Frag} {mg:Str->Option Value} {base h:Heap} (X:K.In h) (G:h.Ns mainGlobals mg) {x:Str} {st:Stmt} {ps:List Str} {lv:Nat} {sp:Sp} (e:FnE K x st) (ok:∀ {f:Addr} {fd:FuncData},Fun K x x st f fd->Binds K fd ps []->PySem.W.keepIn K (.ref f)=true->mg x=some (.ref f)->FnOk P w K mg base CX0 lv f fd ps sp) (hb:∀ (kV doc pm:Value) (an:Option Addr) (cdv ct:Value) (us:List Value),us.length=ps.length->bindArgs (PySem.W.fnOf x x (defArgs st) (defBody st) (defScope st) .none kV doc pm an cdv ct) ⟨us,[]⟩ = pure (ps.zip us)):Callee P w K mg base lv x ps sp:=by
 obtain ⟨f,fd,a,F⟩:=e
 exact ⟨⟨f,fd,ok F (F.binds hb) F.kp (PySem.W.mg_of X G a),F.binds hb,F.kp,PySem.W.mg_of X G a⟩⟩
theorem all_mk {l:PySem.W.OpenLaw} {w:World} {K:PySem.W.Frag} {h:Heap} {mg:Str->Option Value} {fa:Addr} (X:K.In h) (G:h.Ns mainGlobals mg) (hfa:mg "law" = some (.ref fa))
  (e1:FnE K "_law_draw" s_law_draw)
  (e2:FnE K "_law_pen" s_law_pen)
  (e3:FnE K "_law_web" s_law_web)
  (e4:FnE K "_law_order" s_law_order)
  (e5:FnE K "place_of" s_place_of)
  (e6:FnE K "ends_at" s_ends_at)
  (e7:FnE K "is_whole" s_is_whole)
  (e8:FnE K "rows_many" s_rows_many)
  (e9:FnE K "orders_many" s_orders_many)
  (e10:FnE K "row_at" s_row_at)
  (e11:FnE K "order_at" s_order_at)
  (e12:FnE K "row_number" s_row_number)
  (e13:FnE K "number_of" s_number_of)
  (e14:FnE K "_law_whole" s_law_whole)
  (e15:FnE K "_law_ends" s_law_ends)
  (e16:FnE K "_law_same" s_law_same)
  (e17:FnE K "_law_ways" s_law_ways)
  (e18:FnE K "_law_many" s_law_many)
  (e19:FnE K "_law_is_order" s_law_is_order)
  (e20:FnE K "_law_behind" s_law_behind)
  (e21:FnE K "_law_later" s_law_later)
  (e22:FnE K "law" s_law)
  (z0:PySem.W.nsIn K mainGlobals "abs" = some none)
  (z1:PySem.W.nsIn K mainGlobals "all" = some none)
  (z2:PySem.W.nsIn K mainGlobals "bool" = some none)
  (z3:PySem.W.nsIn K mainGlobals "divmod" = some none)
  (z4:PySem.W.nsIn K mainGlobals "enumerate" = some none)
  (z5:PySem.W.nsIn K mainGlobals "int" = some none)
  (z6:PySem.W.nsIn K mainGlobals "isinstance" = some none)
  (z7:PySem.W.nsIn K mainGlobals "len" = some none)
  (z8:PySem.W.nsIn K mainGlobals "list" = some none)
  (z9:PySem.W.nsIn K mainGlobals "max" = some none)
  (z10:PySem.W.nsIn K mainGlobals "min" = some none)
  (z11:PySem.W.nsIn K mainGlobals "range" = some none)
  (z12:PySem.W.nsIn K mainGlobals "reversed" = some none)
  (z13:PySem.W.nsIn K mainGlobals "sorted" = some none)
  (z14:PySem.W.nsIn K mainGlobals "str" = some none)
  (z15:PySem.W.nsIn K mainGlobals "tuple" = some none)
  (z16:PySem.W.nsIn K mainGlobals "zip" = some none) :
  ∃ fd:FuncData,(∀ (s:Shared) (v:Value),BindsTo s fd ⟨[v],[]⟩ [("_law_script",v)])/\∀ base:Heap,K.In base->base.Ns mainGlobals mg->FnOk l.prog w K mg base CX0 5 fa fd ["_law_script"] (spD K fLaw):=by
 obtain ⟨f,fd,a,F⟩:=e22
 have e:=hfa.symm.trans (PySem.W.mg_of X G a)
 cases e
 have mb:Mb mg:=by
  intro x hx
  simp only [List.mem_cons,List.not_mem_nil,or_false] at hx
  rcases hx with rfl | rfl | rfl | rfl | rfl | rfl | rfl | rfl | rfl | rfl | rfl | rfl | rfl | rfl | rfl | rfl | rfl
  ·exact PySem.W.mg_none_of X G z0
  ·exact PySem.W.mg_none_of X G z1
  ·exact PySem.W.mg_none_of X G z2
  ·exact PySem.W.mg_none_of X G z3
  ·exact PySem.W.mg_none_of X G z4
  ·exact PySem.W.mg_none_of X G z5
  ·exact PySem.W.mg_none_of X G z6
  ·exact PySem.W.mg_none_of X G z7
  ·exact PySem.W.mg_none_of X G z8
  ·exact PySem.W.mg_none_of X G z9
  ·exact PySem.W.mg_none_of X G z10
  ·exact PySem.W.mg_none_of X G z11
  ·exact PySem.W.mg_none_of X G z12
  ·exact PySem.W.mg_none_of X G z13
  ·exact PySem.W.mg_none_of X G z14
  ·exact PySem.W.mg_none_of X G z15
  ·exact PySem.W.mg_none_of X G z16
 obtain ⟨oc,od,kV,doc,pm,an,cdv,ct,osl,rfl,lk,hcd⟩:=F.ex
 refine ⟨PySem.W.fnOf "law" "law" (defArgs s_law) (defBody s_law) (defScope s_law) .none kV doc pm an cdv ct,fun s v=>.of_eq rfl,fun base _ _=>?_⟩
 have M:=@Znl l.prog w K mg base h X G
 have MR:=@Zlm l.prog w K mg base h X G
 have C1:=M e1 (Zn1 mb) fun _ _ _ _ _ _=>bK2 fun _ _=>rfl
 have C2:=M e2 (Zof mb) fun _ _ _ _ _ _=>bK1 fun _=>rfl
 have C3:=M e3 (Zor mb C1) fun _ _ _ _ _ _=>bK3 fun _ _ _=>rfl
 have C4:=M e4 (Zll mb C1) fun _ _ _ _ _ _=>bK2 fun _ _=>rfl
 have C5:=M e5 (Zlf mb) fun _ _ _ _ _ _=>bK2 fun _ _=>rfl
 have C6:=M e6 (Zic mb C5) fun _ _ _ _ _ _=>bK2 fun _ _=>rfl
 have C7:=M e7 (Znc mb) fun _ _ _ _ _ _=>bK1 fun _=>rfl
 have C8:=M e8 (Zp5 mb) fun _ _ _ _ _ _=>bK1 fun _=>rfl
 have C9:=M e9 (Zov mb C8 C6) fun _ _ _ _ _ _=>bK1 fun _=>rfl
 have C10:=M e10 (Zi0 mb C8) fun _ _ _ _ _ _=>bK2 fun _ _=>rfl
 have C11:=M e11 (Zkr mb C7 C9 C6 C8 C10) fun _ _ _ _ _ _=>bK2 fun _ _=>rfl
 have C12:=M e12 (Zit mb C8) fun _ _ _ _ _ _=>bK2 fun _ _=>rfl
 have C13:=M e13 (Zky mb C8 C12 C6) fun _ _ _ _ _ _=>bK2 fun _ _=>rfl
 have C14:=M e14 (Zlt mb) fun _ _ _ _ _ _=>bK1 fun _=>rfl
 have C15:=M e15 (Zk3 mb) fun _ _ _ _ _ _=>bK2 fun _ _=>rfl
 have C16:=MR e16 (fun F b k m=>Zi4 mb F b k m 3) fun _ _ _ _ _ _=>bK2 fun _ _=>rfl
 have C17:=M e17 (Zkt mb) fun _ _ _ _ _ _=>bK1 fun _=>rfl
 have C18:=M e18 (Zks mb C17 C15) fun _ _ _ _ _ _=>bK1 fun _=>rfl
 have C19:=M e19 (Zm8 mb C15 C14) fun _ _ _ _ _ _=>bK2 fun _ _=>rfl
 have C20:=M e20 (Znw mb) fun _ _ _ _ _ _=>bK1 fun _=>rfl
 have C21:=M e21 (Zmv mb C20) fun _ _ _ _ _ _=>bK1 fun _=>rfl
 exact ok_law mb C2 C3 C4 C9 C14 C18 C13 C16 C11 C1 C19 C21 F
end Lw
open PySem PySem.W PyProof.Rows
set_option maxRecDepth 100000 in
set_option maxHeartbeats 0 in
theorem PySem.Challenge.cw_holefloor_k07_whole_orders_numbered_holds : PySem.Challenge.rw_holefloor_k07_whole_orders_numbered.Holds := by
 w_on; o_law; k_head; (case hw=>w_witness2)
 k_fill
 refine L2.walk_law (k:=5) (x:="_law_script") (l:=PySem.Challenge.rw_holefloor_k07_whole_orders_numbered) ⟨rfl,by decide,by decide,rfl⟩ rfl rfl (fun w h Y=>PySem.W.kIn_of Y) ?F
 case F=>
  intro w mg fa h KX G hmg
  refine' Lw.all_mk KX G hmg ?e1 ?e2 ?e3 ?e4 ?e5 ?e6 ?e7 ?e8 ?e9 ?e10 ?e11 ?e12 ?e13 ?e14 ?e15 ?e16 ?e17 ?e18 ?e19 ?e20 ?e21 ?e22 ?z0 ?z1 ?z2 ?z3 ?z4 ?z5 ?z6 ?z7 ?z8 ?z9 ?z10 ?z11 ?z12 ?z13 ?z14 ?z15 ?z16
  all_goals first | (refine' Lw.fnE ?a ?l ?c ?k; (case a=>k_is); (case l=>k_is); (case c=>k_is); (case k=>k_is)) | k_is

