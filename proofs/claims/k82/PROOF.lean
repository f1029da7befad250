import PyProof.Rows.All
import Wide.All
import OpenK.AllK
import Wide.FinOn
import Lean
import PyProof.EqAt
import PyProof.EqKinds
import PyProof.TupleCall
import KE.KSortTup
import PyProof.NeKinds
import PyProof.ExcBaseAll.ValueError
import PyProof.ExcArgsOwn
import PyProof.NsDelKeeps
import PyProof.RulesAs
import PyProof.FString
import PyProof.AttrMissSeq
import PyProof.WalksS
import KE.KDictList
import KE.KDictSum
import PyProof.MinMaxWalk
import KE.KMinKey
import PyProof.Rows.CallKwBuiltin
import PyProof.Rows.RuleDivmod
import PyProof.ListMulAny
import PyProof.FactsAll.tuple
import KE.KRevIter
import PyProof.EnumMake
import KE.KMulAny
import PyProof.FactsAll.range
import PyProof.Rows.StrNews
import KE.KIntText
import PyProof.StrWalks
import PySem.Challenge.RW_holefloor_k82_whole_read_back
set_option Elab.async false
set_option linter.all false
set_option maxRecDepth 100000
namespace L2
open PySem PySem.Spec PyProof.Rows
abbrev Key:=Sum Int Str
def keyIs:Key->Value->Bool
 | .inl k,v=>Value.isInt k v
 | .inr x,v=>Value.isStrOf x v
def keyH (w:World):Key->Int
 | .inl k=>hashInt k
 | .inr x=>hashStr w x
theorem Za4:∀ {k:Key} {v:Value},keyIs k v=true->(∃ i t,k=Sum.inl i/\v=Value.int i t)\/(∃ x t,k=Sum.inr x/\v=Value.str x t)
 | .inl i,v,h=>by
  obtain ⟨t,e⟩:=Value.isInt_shape (k:=i) (v:=v) h
  exact .inl ⟨i,t,rfl,e⟩
 | .inr x,v,h=>by
  obtain ⟨t,e⟩:=Value.isStrOf_shape (x:=x) (v:=v) h
  exact .inr ⟨x,t,rfl,e⟩
theorem Ziq (i:Int) (t:Tok):keyIs (.inl i) (.int i t)=true:=by simp [keyIs,Value.isInt]
theorem Zj4 (x:Str) (t:Tok):keyIs (.inr x) (.str x t)=true:=by simp [keyIs,Value.isStrOf]
theorem Zpc (a b:Int):decide ((Sum.inl a:Key)=Sum.inl b)=(a == b):=by
 by_cases e:a=b
 ·subst e; simp
 ·have h:¬ (Sum.inl a:Key)=Sum.inl b:=fun q=>e (Sum.inl.inj q)
  rw [decide_eq_false h]
  exact (beq_eq_false_iff_ne.mpr e).symm
theorem Zpe (a b:Str):decide ((Sum.inr a:Key)=Sum.inr b)=decide (a=b):=by
 by_cases e:a=b
 ·subst e; simp
 ·have h:¬ (Sum.inr a:Key)=Sum.inr b:=fun q=>e (Sum.inr.inj q)
  rw [decide_eq_false h,decide_eq_false e]
theorem Zom (a:Int) (b:Str):decide ((Sum.inl a:Key)=Sum.inr b)=false:=decide_eq_false (fun q=>nomatch q)
theorem Zph (a:Str) (b:Int):decide ((Sum.inr a:Key)=Sum.inl b)=false:=decide_eq_false (fun q=>nomatch q)
def mixKind (prog:Program) (w:World):PySem.KeyKind prog w Key where
 is:=keyIs
 hash:=keyH w
 inj:=fun v a b ha hb=>by
  rcases Za4 ha with ⟨i,t,rfl,rfl⟩ | ⟨x,t,rfl,rfl⟩
  ·rcases Za4 hb with ⟨j,u,rfl,e⟩ | ⟨y,u,rfl,e⟩
   ·injection e with e1 _; rw [e1]
   ·exact nomatch e
  ·rcases Za4 hb with ⟨j,u,rfl,e⟩ | ⟨y,u,rfl,e⟩
   ·exact nomatch e
   ·injection e with e1 _; rw [e1]
 byValue:=fun k v h=>by
  rcases Za4 h with ⟨i,t,rfl,rfl⟩ | ⟨x,t,rfl,rfl⟩ <;> rfl
 pyHash:=fun hv h=>by
  rcases Za4 hv with ⟨i,t,rfl,rfl⟩ | ⟨x,t,rfl,rfl⟩
  ·exact wpAny_pyHash_int h
  ·exact wpAny_pyHash_str h
 eqBool:=fun hu hv h=>by
  rcases Za4 hu with ⟨i,t,rfl,rfl⟩ | ⟨x,t,rfl,rfl⟩
  ·rcases Za4 hv with ⟨j,u,rfl,rfl⟩ | ⟨y,u,rfl,rfl⟩
   ·rw [Zpc] at h; exact wpAny_eqBool_int h
   ·rw [Zom] at h; exact SeqAt.EqAt.int_str i t y u _ _ _ _ h
  ·rcases Za4 hv with ⟨j,u,rfl,rfl⟩ | ⟨y,u,rfl,rfl⟩
   ·rw [Zph] at h; exact SeqAt.EqAt.str_int x t j u _ _ _ _ h
   ·rw [Zpe] at h; exact wpAny_eqBool_str h
 «strs»:=fun k x t v h=>by
  rcases Za4 h with ⟨i,u,rfl,e⟩ | ⟨y,u,rfl,e⟩
  ·exact nomatch e
  ·injection e with e1 _
   subst e1
   cases v <;> rfl
theorem Zg7 (prog:Program) (w:World) (i:Int) (t:Tok):(mixKind prog w).is (.inl i) (.int i t)=true:=Ziq i t
theorem Zg3 (prog:Program) (w:World) (x:Str) (t:Tok):(mixKind prog w).is (.inr x) (.str x t)=true:=Zj4 x t
end L2
namespace L2
open PySem PySem.Spec PyProof.Rows
inductive V where
 | non | bl (b:Bool) | int (i:Int) | str (x:Str) | byt (b:Array UInt8) | flt (b:UInt64) | ref (a:Addr) | ty (n:String)
 deriving DecidableEq
def RelV:V->Value->Prop
 | .non,u=>u=Value.none
 | .bl b,u=>u=Value.bool b
 | .int i,u=>∃ t,u=Value.int i t
 | .str x,u=>∃ t,u=Value.str x t
 | .byt b,u=>∃ t,u=Value.bytes b t
 | .flt b,u=>∃ t,u=Value.float b t
 | .ref a,u=>u=Value.ref a
 | .ty n,u=>u=Value.type n
abbrev Vals:List V->List Value->Prop:=Paired RelV
theorem Vals.length {xs:List V} {us:List Value} (r:Vals xs us):xs.length=us.length:=Paired.length r
theorem Vals.get:∀ {xs:List V} {us:List Value} {i:Nat} {x:V},Vals xs us->xs[i]? = some x->∃ u,us[i]? = some u/\RelV x u
 | _,_,_,_,.nil,e=>by simp at e
 | _,_,0,_,.cons r _,e=>by simp at e; subst e; exact ⟨_,rfl,r⟩
 | _,_,i + 1,x,.cons _ t,e=>by
  obtain ⟨u,h1,h2⟩:=Vals.get (i:=i) (x:=x) t (by simpa using e)
  exact ⟨u,by simpa using h1,h2⟩
theorem Vals.set {x:V} {u:Value} (r:RelV x u):∀ {xs:List V} {us:List Value} (i:Nat),Vals xs us->Vals (xs.set i x) (us.set i u)
 | _,_,_,.nil=>.nil
 | _,_,0,.cons _ t=>.cons r t
 | _,_,i + 1,.cons q t=>.cons q (Vals.set r i t)
theorem Vals.append:∀ {xs ys:List V} {us ws:List Value},Vals xs us->Vals ys ws->Vals (xs ++ ys) (us ++ ws)
 | _,_,_,_,.nil,s=>s
 | _,_,_,_,.cons r t,s=>.cons r (Vals.append t s)
theorem Vals.take:∀ {xs:List V} {us:List Value} (n:Nat),Vals xs us->Vals (xs.take n) (us.take n)
 | _,_,0,_=>.nil
 | _,_,_ + 1,.nil=>.nil
 | _,_,n + 1,.cons r t=>.cons r (Vals.take n t)
theorem Vals.drop:∀ {xs:List V} {us:List Value} (n:Nat),Vals xs us->Vals (xs.drop n) (us.drop n)
 | _,_,0,r=>r
 | _,_,_ + 1,.nil=>.nil
 | _,_,n + 1,.cons _ t=>Vals.drop n t
def RelO:Option V->Option Value->Prop
 | some v,some u=>RelV v u
 | none,none=>True
 | _,_=>False
def KV {κ:Type}:List (κ × V)->List (κ × Value)->Prop:=Paired fun (p:κ × V) (q:κ × Value)=>p.1=q.1/\RelV p.2 q.2
def kV:Key->V
 | .inl i=>.int i
 | .inr x=>.str x
inductive HO where
 /-- a list -/
 | lst (xs:List V)
 /-- a tuple (never changes) -/
 | tup (xs:List V)
 /-- a dict whose keys are ints and texts; one whose keys are tuples of ints and texts (the empty one is both) -/
 | dK (kvs:List (Key × V)) | dT (kvs:List (List Key × V))
 /-- a set of ints: its members,its size -/
 | set (S:Int->Bool) (n:Nat)
 /-- an instance of the class at C,its dict at dx,its attributes -/
 | ins (C dx:Addr) (fs:List (Str × V))
 /-- the dict of the instance at x -/
 | own (x:Addr)
 /-- the dict of an exception -/
 | xd (fs:List (Str × V))
 /-- a bound method,f of x -/
 | met (f x:Addr)
 /-- a range object lo,lo + 1,.. below hi -/
 | rng (lo hi:Int)
 /-- a thing that is known to the object (the script; a dict while a loop walks it): read,never written while it is so -/
 | frz (o:Obj) (u:HO)
 /-- a code object's table -/
 | tbl (ps:Array Value)
 /-- any other thing,by what is true of its one object (a def of one's own: SetO a S n:=HO.ext fun h=>..) -/
 | ext (φ:Heap->Prop)
abbrev Hp:=Addr->Option HO
def upd (H:Hp) (a:Addr) (o:HO):Hp:=fun b=>if b=a then some o else H b
theorem Zal {H:Hp} {a:Addr} {o:HO}:upd H a o a=some o:=by unfold upd; rw [if_pos rfl]
theorem Zai {H:Hp} {a b:Addr} {o:HO} (h:b ≠ a):upd H a o b=H b:=by unfold upd; rw [if_neg h]
theorem Znp {H:Hp} {a:Addr} {o u:HO}:upd (upd H a o) a u=upd H a u:=by
 funext b; unfold upd; split <;> rfl
theorem Zpv {H:Hp} {a b:Addr} {o u:HO} (h:H a=some o) (h':H b=some u) (d:o ≠ u):a ≠ b:=by
 intro e; subst e; rw [h] at h'; exact d (Option.some.inj h')
theorem Zah {H:Hp} {a b:Addr} {o:HO} (h:H a=some o) (h':H b=none):a ≠ b:=by
 intro e; subst e; rw [h] at h'; cases h'
def IsTupN (h:Heap) (a:Addr) (its:Array Value):Prop:=∃ o,h.get? a=some o/\(o.cls=.type "tuple" /\ ∃ n,o.data=.seq its n)/\o.dict=none
theorem IsTupN.tup {h:Heap} {a:Addr} {its:Array Value} (x:IsTupN h a its):IsTup h a its:=let ⟨o,e,c,_⟩:=x; ⟨o,e,c⟩
theorem IsTupN.new (h:Heap) (items:Array Value):IsTupN (h.push { cls:=.type "tuple",data:=.seq items }) h.objs.size items:=⟨_,Heap.get?_push_size _ rfl,⟨rfl,_,rfl⟩,rfl⟩
section
variable (P:Program) (w:World)
def ObjOk (H:Hp) (h:Heap) (a:Addr):HO->Prop
 | .lst xs=>xs.length<=sizeLine/\∃ (its:List Value) (n:Nat),Vals xs its/\h.get? a=some { cls:=.type "list",data:=.seq its.toArray n }
 | .tup xs=>xs.length<=sizeLine/\∃ its:List Value,Vals xs its/\IsTupN h a its.toArray
 | .dK kvs=>kvs.length<=sizeLine/\(a == sysModules)=false/\∃ vs,KV kvs vs/\h.DictOf (mixKind P w) a vs
 | .dT kvs=>kvs.length<=sizeLine/\(a == sysModules)=false/\∃ xs:List (List Key × Addr × Value),
   Paired (fun (p:List Key × V) (q:List Key × Addr × Value)=>p.1=q.1/\H q.2.1=some (.tup (p.1.map kV))/\RelV p.2 q.2.2) kvs xs ∧
   ∃ o es ep,h.get? a=some o/\o.ExactDict/\o.data=.dict es ep/\es.toList=xs.map (entryOfKey (tupleKind (mixKind P w)))/\(xs.map (·.1)).Nodup
 | .set S n=>h.SetOf (intKind P w) a S n
 | .ins C dx fs=>H dx=some (.own a)/\fs.length<=1000/\dx ≠ a/\h.get? a=some (PySem.W.instObj C dx) ∧
   ∃ mA,h.Ns1 dx mA/\(∀ f,RelO (fs.lookup f) (mA f))/\PySem.Within mA (fs.map (·.1))
 | .own _=>∃ o,h.get? a=some o
 | .xd fs=>∃ mA,h.Ns1 a mA/\∀ f,RelO (fs.lookup f) (mA f)
 | .rng lo hi=>∃ t u v,h.get? a=some { cls:=.type "range",data:=.fields #[.int lo t,.int hi u,.int 1 v] }
 | .frz o u=>h.get? a=some o/\ObjOk H h a u
 | .tbl ps=>h.get? a=some { cls:=.none,data:=.fields ps }
 | .met f x=>h.get? a=some (PySem.W.methodObj (.ref f) (.ref x))
 | .ext φ=>φ h/\(∃ o,h.get? a=some o)/\∀ h1 h2:Heap,φ h1->(∀ o,h1.get? a=some o->h2.get? a=some o) -> φ h2
def HOk (H:Hp) (h:Heap):Prop:=∀ a o,H a=some o->ObjOk P w H h a o
end
section
variable {P:Program} {w:World} {H H':Hp} {h h':Heap} {a:Addr} {o:HO}
theorem ObjOk.lt (x:ObjOk P w H h a o):a < h.objs.size:=by
 cases o with
 | lst xs=>obtain ⟨_,_,_,_,e⟩:=x; exact Heap.lt_size e
 | tup xs=>obtain ⟨_,_,_,p⟩:=x; exact p.tup.lt
 | dK kvs=>obtain ⟨_,_,_,_,o,_,_,e,_⟩:=x; exact Heap.lt_size e
 | dT kvs=>obtain ⟨_,_,_,_,o,_,_,e,_⟩:=x; exact Heap.lt_size e
 | set S n=>obtain ⟨o,_,_,_,e,_⟩:=x; exact Heap.lt_size e
 | ins C dx fs=>obtain ⟨_,_,_,e,_⟩:=x; exact Heap.lt_size e
 | own y=>obtain ⟨_,e⟩:=x; exact Heap.lt_size e
 | xd fs=>obtain ⟨_,⟨_,_,_,e,_⟩,_⟩:=x; exact Heap.lt_size e
 | rng lo hi=>obtain ⟨_,_,_,e⟩:=x; exact Heap.lt_size e
 | frz ob u=>obtain ⟨e,_⟩:=x; exact Heap.lt_size e
 | tbl ps=>exact Heap.lt_size (show h.get? a=some _ from x)
 | met f y=>exact Heap.lt_size (show h.get? a=some _ from x)
 | ext φ=>obtain ⟨_,⟨_,e⟩,_⟩:=x; exact Heap.lt_size e
theorem Paired.mapP {α β:Type} {F G:α -> β -> Prop}:∀ {l₁:List α} {l₂:List β},Paired F l₁ l₂ -> (∀ a b,F a b->G a b)->Paired G l₁ l₂
 | _,_,.nil,_=>.nil
 | _,_,.cons r t,f=>.cons (f _ _ r) (Paired.mapP t f)
theorem ObjOk.stay (x:ObjOk P w H h a o) (k:∀ b u,(b=a\/H b=some (.own a))->h.get? b=some u->h'.get? b=some u)
  (ho:∀ b,H b=some (.own a)->H' b=some (.own a)) (ht:∀ b xs,H b=some (.tup xs)->H' b=some (.tup xs)):ObjOk P w H' h' a o:=by
 induction o with
 | lst xs=>obtain ⟨z,its,n,r,e⟩:=x; exact ⟨z,its,n,r,k _ _ (.inl rfl) e⟩
 | tup xs=>obtain ⟨z,its,r,ob,e,c⟩:=x; exact ⟨z,its,r,ob,k _ _ (.inl rfl) e,c⟩
 | dK kvs=>obtain ⟨z,y,vs,r,ob,es,ep,e,c⟩:=x; exact ⟨z,y,vs,r,ob,es,ep,k _ _ (.inl rfl) e,c⟩
 | dT kvs=>
  obtain ⟨z,y,xs,r,ob,es,ep,e,c⟩:=x
  exact ⟨z,y,xs,Paired.mapP r fun p q z=>⟨z.1,ht _ _ z.2.1,z.2.2⟩,ob,es,ep,k _ _ (.inl rfl) e,c⟩
 | set S n=>obtain ⟨ob,es,ep,t,e,c⟩:=x; exact ⟨ob,es,ep,t,k _ _ (.inl rfl) e,c⟩
 | ins C dx fs=>
  obtain ⟨d,z,ne,e,mA,⟨od,es,ep,e2,c⟩,r⟩:=x
  exact ⟨ho _ d,z,ne,k _ _ (.inl rfl) e,mA,⟨od,es,ep,k _ _ (.inr d) e2,c⟩,r⟩
 | own y=>obtain ⟨ob,e⟩:=x; exact ⟨ob,k _ _ (.inl rfl) e⟩
 | xd fs=>obtain ⟨mA,⟨od,es,ep,e,c⟩,r⟩:=x; exact ⟨mA,⟨od,es,ep,k _ _ (.inl rfl) e,c⟩,r⟩
 | rng lo hi=>obtain ⟨t,u,v,e⟩:=x; exact ⟨t,u,v,k _ _ (.inl rfl) e⟩
 | frz ob u ih=>obtain ⟨e,q⟩:=x; exact ⟨k _ _ (.inl rfl) e,ih q⟩
 | tbl ps=>
  have e:h.get? a=some { cls:=.none,data:=.fields ps }:=x
  show h'.get? a=some { cls:=.none,data:=.fields ps }
  exact k a _ (.inl rfl) e
 | met f y=>
  have e:h.get? a=some (PySem.W.methodObj (.ref f) (.ref y)):=x
  show h'.get? a=some (PySem.W.methodObj (.ref f) (.ref y))
  exact k a _ (.inl rfl) e
 | ext φ=>obtain ⟨p,⟨o,e⟩,st⟩:=x; exact ⟨st _ _ p fun o q=>k _ _ (.inl rfl) q,⟨o,k _ _ (.inl rfl) e⟩,st⟩
theorem HOk.lt (x:HOk P w H h) (e:H a=some o):a < h.objs.size:=(x a o e).lt
theorem HOk.fresh (x:HOk P w H h) (e:h.objs.size<=a):H a=none:=by
 cases q:H a with
 | none=>rfl
 | some u=>exact absurd (Nat.lt_of_lt_of_le (x.lt q) e) (Nat.lt_irrefl _)
theorem HOk.kept (x:HOk P w H h) (k:∀ b u,h.get? b=some u->h'.get? b=some u):HOk P w H h':=fun a o e=>
 (x a o e).stay (fun b u _ q=>k b u q) (fun _ q=>q) fun _ _ q=>q
theorem HOk.laid (x:HOk P w H h) (k:∀ b u,h.get? b=some u->h'.get? b=some u) (hp:h.objs.size<=a) (new:ObjOk P w (upd H a o) h' a o):HOk P w (upd H a o) h':=fun b u e=>by
 have hn:=x.fresh hp
 by_cases hb:b=a
 ·subst hb; rw [Zal] at e; cases e; exact new
 ·rw [Zai hb] at e
  exact (x b u e).stay (fun c v _ q=>k c v q) (fun c q=>by rw [Zai (Zah q hn)]; exact q) fun c xs q=>by rw [Zai (Zah q hn)]; exact q
end
def Rd (H:Hp) (a:Addr) (u:HO):Prop:=H a=some u\/∃ o,H a=some (.frz o u)
theorem Rd.ok {P:Program} {w:World} {H:Hp} {h:Heap} {a:Addr} {u:HO} (r:Rd H a u) (x:HOk P w H h):ObjOk P w H h a u:=by
 rcases r with r | ⟨o,r⟩
 ·exact x a u r
 ·obtain ⟨_,q⟩:=x a _ r
  exact q
def Mut:Option HO->Prop
 | some (.lst _)=>True
 | some (.dK _)=>True
 | some (.dT _)=>True
 | some (.set _ _)=>True
 | some (.ins _ _ _)=>True
 | some (.ext _)=>True
 | _=>False
section
variable {P:Program} {w:World} {H:Hp} {h h':Heap} {x e:Addr} {o':HO}
theorem HOk.write (ok:HOk P w H h) (mu:Mut (H x)) (he:e=x\/H e=some (.own x)) (k:∀ b u,b ≠ e->h.get? b=some u->h'.get? b=some u) (heo:∃ u,h'.get? e=some u)
  (new:ObjOk P w (upd H x o') h' x o'):HOk P w (upd H x o') h':=fun b u q=>by
 have nown:∀ c y,H c=some (.own y)->c ≠ x:=fun c y r z=>by subst z; rw [r] at mu; exact mu
 have ntup:∀ c xs,H c=some (.tup xs)->c ≠ x:=fun c xs r z=>by subst z; rw [r] at mu; exact mu
 by_cases hb:b=x
 ·subst hb; rw [Zal] at q; cases q; exact new
 ·rw [Zai hb] at q
  by_cases hbe:b=e
  ·have q':H b=some (.own x):=by
    rcases he with z | z
    ·exact absurd (hbe.trans z) hb
    ·rw [hbe]; exact z
   rw [q] at q'; cases q'
   obtain ⟨v,hv⟩:=heo
   exact ⟨v,by rw [hbe]; exact hv⟩
  ·refine (ok b u q).stay (fun c v hc r=>k c v ?_ r) (fun c r=>by rw [Zai (nown c b r)]; exact r) fun c xs r=>by rw [Zai (ntup c xs r)]; exact r
   rcases hc with rfl | hc
   ·exact hbe
   ·rintro rfl
    rcases he with z | z
    ·exact nown c b hc z
    ·rw [hc] at z; cases z; exact hb rfl
end
structure Un (fs ex:List Addr) (H H':Hp) (h h':Heap):Prop where
 keep:∀ b o,h.get? b=some o->H b=none->b ∉ fs->b ∉ ex->h'.get? b=some o
 slot:∀ b o,h.get? b=some o->H b=none->b ∈ fs->b ∉ ex->∃ sl,h'.get? b=some { o with slots:=sl }
 free:∀ b o,h.get? b=some o->H b=none->b ∉ ex->H' b=none
 there:∀ b o,h.get? b=some o->b ∉ ex->∃ o',h'.get? b=some o'
 tups:∀ b xs,H b=some (.tup xs)->H' b=some (.tup xs)
 frzs:∀ b o u,H b=some (.frz o u)->H' b=some (.frz o u)
 tbls:∀ b ps,H b=some (.tbl ps)->∃ more,H' b=some (.tbl (ps ++ more))
section
variable {fs fs' ex ex':List Addr} {H H1 H2:Hp} {h h1 h2 h':Heap} {a x e:Addr} {o:HO}
theorem Un.any (u:Un fs ex H H1 h h1) {b:Addr} {ob:Obj} (q:h.get? b=some ob) (n:H b=none) (hx:b ∉ ex):∃ sl,h1.get? b=some { ob with slots:=sl }:=by
 by_cases hb:b ∈ fs
 ·exact u.slot b ob q n hb hx
 ·exact ⟨ob.slots,u.keep b ob q n hb hx⟩
theorem Un.kept (k:∀ b u,h.get? b=some u->h'.get? b=some u):Un fs ex H H h h':=
 ⟨fun b ob q _ _ _=>k b ob q,fun b ob q _ _ _=>⟨ob.slots,k b ob q⟩,fun _ _ _ n _=>n,fun b ob q _=>⟨ob,k b ob q⟩,fun _ _ q=>q,fun _ _ _ q=>q,fun _ ps q=>⟨#[],by rw [q]; simp⟩⟩
theorem Un.refl:Un fs ex H H h h:=Un.kept fun _ _ q=>q
theorem Un.laid (k:∀ b u,h.get? b=some u->h'.get? b=some u) (hp:h.objs.size<=a) (hn:H a=none):Un fs ex H (upd H a o) h h' where
 keep:=fun b u q _ _ _=>k b u q
 slot:=fun b u q _ _ _=>⟨u.slots,k b u q⟩
 free:=fun b u q n _=>by rw [Zai (Nat.ne_of_lt (Nat.lt_of_lt_of_le (Heap.lt_size q) hp))]; exact n
 there:=fun b u q _=>⟨u,k b u q⟩
 tups:=fun b xs q=>by rw [Zai (Zah q hn)]; exact q
 frzs:=fun b u xs q=>by rw [Zai (Zah q hn)]; exact q
 tbls:=fun b ps q=>⟨#[],by rw [Zai (Zah q hn),q]; simp⟩
theorem Un.write (mu:Mut (H x)) (he:e=x\/H e=some (.own x)) (k:∀ b u,b ≠ e->h.get? b=some u->h'.get? b=some u) (heo:∃ u,h'.get? e=some u):Un fs ex H (upd H x o) h h':=by
 have hx:∀ b,H b=none->b ≠ x:=fun b n z=>by subst z; rw [n] at mu; exact mu
 have hb:∀ b,H b=none->b ≠ e:=fun b n z=>by
  subst z
  rcases he with r | r
  ·exact hx b n r
  ·rw [n] at r; cases r
 have hm:∀ b u,H b=some u->¬ Mut (some u)->b ≠ x:=fun b u q nm z=>by subst z; rw [q] at mu; exact nm mu
 refine ⟨fun b u q n _ _=>k b u (hb b n) q,fun b u q n _ _=>⟨u.slots,k b u (hb b n) q⟩,fun b u q n _=>by rw [Zai (hx b n)]; exact n,fun b u q _=>?_,
  fun b xs q=>by rw [Zai (hm b _ q fun z=>z)]; exact q,fun b u xs q=>by rw [Zai (hm b _ q fun z=>z)]; exact q,fun b ps q=>⟨#[],by rw [Zai (hm b _ q fun z=>z),q]; simp⟩⟩
 by_cases hbe:b=e
 ·subst hbe; exact heo
 ·exact ⟨u,k b u hbe q⟩
end
def trk (h:Heap) (H:Hp):List Addr:=(List.range h.objs.size).filter fun a=>(H a).isSome
def hidT (h:Heap) (H:Hp):Heap:=PySem.W.hideAll h (trk h H)
theorem Zj2 (h:Heap) (H:Hp):(hidT h H).objs.size=h.objs.size:=PySem.W.hideAll_size _ _
theorem Zlg {h:Heap} {H:Hp} {b:Addr} {o:Obj} (e:h.get? b=some o) (n:H b=none):(hidT h H).get? b=some o:=
 PySem.W.hideAll_get _ e fun hm=>by
  have q:(H b).isSome=true:=(List.mem_filter.mp hm).2
  rw [n] at q; simp at q
theorem Zm1 {h:Heap} {H:Hp} {b:Addr} {o:Obj} (e:(hidT h H).get? b=some o):h.get? b=some o/\H b=none:=by
 have e':h.get? b=some o:=PySem.W.of_hideAll (trk h H) e
 refine ⟨e',?_⟩
 cases q:H b with
 | none=>rfl
 | some x=>
  have hm:b ∈ trk h H:=List.mem_filter.mpr ⟨List.mem_range.mpr (Heap.lt_size e'),by simp [q]⟩
  have z:(hidT h H).get? b=none:=PySem.W.hideAll_none (trk h H) hm
  rw [z] at e; cases e
def allNews (g h:Heap) (L:Addr):List (Addr × Obj):=(List.range h.objs.size).filterMap fun a=>if a=L\/(g.get? a).isSome=true then none else (h.get? a).map fun o=>(a,o)
def rest (g h:Heap) (L d:Addr):List (Addr × Obj):=(allNews g h L).filter fun p=>decide (p.1 ≠ d)
end L2
namespace L2
open PySem PySem.Spec PyProof.Rows
structure Mod (K:PySem.W.Frag) (mg:Str->Option Value) (base:Heap):Prop where
 kin:K.In base
 glob:base.Ns mainGlobals mg
 blt:∃ mb,base.Ns builtinsNs mb/\∀ x:Str,x ≠ "__name__" -> mb x=bootBuiltins x
 nolimit:base.NoLimit
structure Cx where
 prog:Program
 w:World
 K:PySem.W.Frag
 mg:Str->Option Value
 base:Heap
 A:Around
 N:List Str
 s₀:Shared
 H₀:Hp
 env:Env
 outer:List Env
 stack:List Env
 ex:List Addr
 fn:Str->Bool
 calm:Bool
 pn:List (Addr × Obj)
 xe:Value->Shared->Prop
def frs (l:List Env):List Addr:=l.filterMap (·.frame)
abbrev Cx.fs (X:Cx):List Addr:=frs X.outer
def Vis (sc:Scope) (x:Str):Prop:=sc.names.lookup x=some .local\/sc.names.lookup x=some .cell\/sc.names.lookup x=some .free
def Loc (sc:Scope) (x:Str):Prop:=sc.names.lookup x=some .local\/sc.names.lookup x=some .cell
def Look (env:Env) (h:Heap) (m:Str->Option Value) (x:Str) (u:Value):Prop:=
 (env.kindOf x=some .local/\m x=some u)\/((env.kindOf x=some .cell\/env.kindOf x=some .free)/\∃ c,env.cells.lookup x=some c/\h.IsCell c (some u))
structure Cx.Ok (X:Cx):Prop where
 mod:Mod X.K X.mg X.base
 kind:X.env.scope.kind=.function
 glob:X.env.globals=mainGlobals
 blt:X.env.builtins=builtinsNs
 above:X.s₀.heap.objs.size<=X.env.locals
 inj:∀ x y c,X.env.cells.lookup x=some c->X.env.cells.lookup y=some c->x=y
 has:∀ x,(X.env.kindOf x=some .cell\/X.env.kindOf x=some .free)->∃ c,X.env.cells.lookup x=some c
 cab:∀ x c,X.fn x=true->X.env.cells.lookup x=some c->X.s₀.heap.objs.size<=c
 hd:X.calm=true->X.A.handled=none
 frames:X.A.frames=some X.stack
 stk:X.stack=X.outer\/(X.stack=X.env :: X.outer/\X.env.frame=some X.env.locals)
 exf:∀ b ∈ X.ex,b ≠ X.env.locals/\∀ x c,X.env.cells.lookup x=some c->c ≠ b
 bs:∀ b o,X.base.get? b=some o->X.s₀.heap.get? b=some o/\X.H₀ b=none
 bsz:X.base.objs.size<=X.s₀.heap.objs.size
 noex:∀ b o,X.base.get? b=some o->b ∉ X.ex
 exfs:∀ b ∈ X.ex,b ∉ X.fs
 funs:X.s₀.heap.FunFrames X.base X.outer
 frf:∀ b ∈ X.fs,X.H₀ b=none
structure Inv (X:Cx) (pins:List (Addr × Obj)) (σ:List (Option V)) (H:Hp) (s:Shared):Prop where
 ok:X.Ok
 os:s.os=X.s₀.os
 bare:AllBare s.gens
 base:Un X.fs X.ex X.H₀ H X.s₀.heap s.heap
 loc:∃ m,s.heap.Ns X.env.locals m/\∀ (i:Nat) (x:Str) (v:V),X.N[i]? = some x -> σ[i]? = some (some v)->Vis X.env.scope x->∃ u,RelV v u/\Look X.env s.heap m x u
 cell:∀ x c,X.env.cells.lookup x=some c->∃ v,s.heap.IsCell c v
 free:H X.env.locals=none
 freeC:∀ x c,X.env.cells.lookup x=some c->H c=none
 pin:∀ p ∈ X.pn ++ pins,s.heap.get? p.1=some p.2/\H p.1=none/\p.1 ≠ X.env.locals/\p.1 ∉ X.fs/\∀ v,p.2.data ≠ .cell v
 hok:HOk X.prog X.w H s.heap
 len:σ.length=X.N.length
section
variable {X:Cx} {pins:List (Addr × Obj)} {σ:List (Option V)} {H H':Hp} {s:Shared} {h':Heap}
theorem Cx.Ok.nofr (ok:X.Ok) {b:Addr} {o:Obj} (e:X.base.get? b=some o):b ∉ X.fs:=fun hb=>by
 have:=(ok.funs.mem hb).1
 rw [e] at this; cases this
theorem Inv.bs (I:Inv X pins σ H s):∀ b o,X.base.get? b=some o->s.heap.get? b=some o/\H b=none:=fun b o e=>
 ⟨I.base.keep b o (I.ok.bs b o e).1 (I.ok.bs b o e).2 (I.ok.nofr e) (I.ok.noex b o e),I.base.free b o (I.ok.bs b o e).1 (I.ok.bs b o e).2 (I.ok.noex b o e)⟩
theorem Inv.bk (I:Inv X pins σ H s):∀ b o,X.base.get? b=some o->s.heap.get? b=some o:=fun b o e=>(I.bs b o e).1
theorem Inv.mod (I:Inv X pins σ H s):Mod X.K X.mg X.base:=I.ok.mod
theorem Inv.kIn (I:Inv X pins σ H s):X.K.In s.heap:=I.ok.mod.kin.keeps I.bk
theorem Inv.lt (I:Inv X pins σ H s):X.env.locals < s.heap.objs.size:=let ⟨_,hn,_⟩:=I.loc; hn.lt
theorem Inv.sz (I:Inv X pins σ H s):X.s₀.heap.objs.size<=s.heap.objs.size:=Nat.le_trans I.ok.above (Nat.le_of_lt I.lt)
theorem Inv.nofs (I:Inv X pins σ H s) {a:Addr} (h:s.heap.objs.size<=a):a ∉ X.fs:=fun hb=>by
 obtain ⟨_,o,ho,_⟩:=I.ok.funs.mem hb
 exact absurd (Nat.lt_of_lt_of_le (Heap.lt_size ho) (Nat.le_trans I.sz h)) (Nat.lt_irrefl _)
theorem Inv.cne (I:Inv X pins σ H s):∀ x c,X.env.cells.lookup x=some c->c ≠ X.env.locals:=fun x c e z=>by
 obtain ⟨v,o,ho,hd⟩:=I.cell x c e
 obtain ⟨m,⟨o',es,ep,ho',hd',_⟩,_⟩:=I.loc
 rw [z,ho'] at ho; cases ho; rw [hd'] at hd; cases hd
theorem Inv.funs (I:Inv X pins σ H s):s.heap.FunFrames X.base X.outer:=by
 have all:∀ (l:List Env),(∀ b ∈ frs l,b ∈ X.fs)->X.s₀.heap.FunFrames X.base l->s.heap.FunFrames X.base l:=by
  intro l
  induction l with
  | nil=>intro _ _; trivial
  | cons env r ih=>
   intro hs hl
   obtain ⟨hk,⟨L,o,hf,hn,ho,hd⟩,hr⟩:=hl
   have hL:L ∈ X.fs:=hs L (by unfold frs; rw [List.filterMap_cons,hf]; exact List.mem_cons_self)
   obtain ⟨sl,e⟩:=I.base.slot L o ho (I.ok.frf L hL) hL fun z=>I.ok.exfs L z hL
   exact ⟨hk,⟨L,_,hf,hn,e,hd⟩,ih (fun b hb=>hs b (by unfold frs; rw [List.filterMap_cons,hf]; exact List.mem_cons_of_mem _ hb)) hr⟩
 exact all X.outer (fun _ hb=>hb) I.ok.funs
theorem Inv.stack (I:Inv X pins σ H s):s.heap.FunFrames X.base X.stack:=by
 rcases I.ok.stk with e | ⟨e,hf⟩
 ·rw [e]; exact I.funs
 ·rw [e]
  obtain ⟨m,hn,_⟩:=I.loc
  refine .cons (by rw [I.ok.kind]; decide) hf hn ?_ I.funs
  exact Heap.get?_none_of_le (Nat.le_trans I.ok.bsz I.ok.above)
theorem Inv.stkSub (I:Inv X pins σ H s):∀ b ∈ frs X.stack,b ∈ X.env.locals :: X.fs:=fun b hb=>by
 rcases I.ok.stk with e | ⟨e,hf⟩
 ·rw [e] at hb; exact List.mem_cons_of_mem _ hb
 ·rw [e] at hb
  unfold frs at hb
  rw [List.filterMap_cons,hf] at hb
  exact hb
theorem Inv.stkFree (I:Inv X pins σ H s):∀ b ∈ frs X.stack,H b=none:=fun b hb=>by
 rcases List.mem_cons.mp (I.stkSub b hb) with e | hb
 ·rw [e]; exact I.free
 ·obtain ⟨_,o,ho,_⟩:=I.ok.funs.mem hb
  exact I.base.free b o ho (I.ok.frf b hb) fun z=>I.ok.exfs b z hb
theorem Inv.step {g':Array GenState} {t':Nat} {d':Drawn} {ch:List Addr} (I:Inv X pins σ H s)
  (hch:∀ b ∈ ch,(b ∈ X.ex\/X.s₀.heap.objs.size<=b)/\b ≠ X.env.locals/\(∀ x c,X.env.cells.lookup x=some c->c ≠ b)/\∀ p ∈ X.pn ++ pins,p.1 ≠ b)
  (keep:∀ b o,b ≠ X.env.locals->b ∉ X.fs->b ∉ ch->s.heap.get? b=some o->H b=none->h'.get? b=some o)
  (slot:∀ b o,b ≠ X.env.locals->b ∈ X.fs->b ∉ ch->s.heap.get? b=some o->H b=none->∃ sl,h'.get? b=some { o with slots:=sl }) (free:∀ b o,b ∉ ch->s.heap.get? b=some o->H b=none->H' b=none)
  (there:∀ b o,b ∉ ch->s.heap.get? b=some o->∃ o',h'.get? b=some o')
  (tups:∀ b xs,H b=some (.tup xs)->H' b=some (.tup xs)) (frzs:∀ b o u,H b=some (.frz o u)->H' b=some (.frz o u)) (tbls:∀ b ps,H b=some (.tbl ps)->∃ more,H' b=some (.tbl (ps ++ more)))
  (ns:∀ m,s.heap.Ns X.env.locals m->h'.Ns X.env.locals m) (hok:HOk X.prog X.w H' h') (hg:AllBare g') :
  Inv X pins σ H' { s with heap:=h',gens:=g',drawn:=d',toks:=t' }:=by
 have neL:∀ b o,X.s₀.heap.get? b=some o->b ≠ X.env.locals:=fun b o e=>Nat.ne_of_lt (Nat.lt_of_lt_of_le (Heap.lt_size e) I.ok.above)
 have neC:∀ b o,X.s₀.heap.get? b=some o->b ∉ X.ex->b ∉ ch:=fun b o e hx hb=>by
  rcases (hch b hb).1 with z | z
  ·exact hx z
  ·exact absurd (Nat.lt_of_lt_of_le (Heap.lt_size e) z) (Nat.lt_irrefl _)
 have cellK:∀ x c,X.env.cells.lookup x=some c->∀ v,s.heap.IsCell c v->h'.IsCell c v:=fun x c e v hq_=>by
  obtain ⟨o,ho,hd⟩:=hq_
  have nch:c ∉ ch:=fun z=>(hch c z).2.2.1 x c e rfl
  by_cases hc:c ∈ X.fs
  ·obtain ⟨sl,q⟩:=slot c o (I.cne x c e) hc nch ho (I.freeC x c e)
   exact ⟨_,q,hd⟩
  ·exact ⟨o,keep c o (I.cne x c e) hc nch ho (I.freeC x c e),hd⟩
 refine ⟨I.ok,I.os,hg,⟨fun b o e n hb hx=>?_,fun b o e n hb hx=>?_,fun b o e n hx=>?_,fun b o e hx=>?_,fun b xs e=>tups b xs (I.base.tups b xs e),fun b o xs e=>frzs b o xs (I.base.frzs b o xs e),fun b ps e=>?_⟩,?_,fun x c e=>?_,?_,fun x c e=>?_,fun p hp=>?_,hok,I.len⟩
 ·exact keep b o (neL b o e) hb (neC b o e hx) (I.base.keep b o e n hb hx) (I.base.free b o e n hx)
 ·obtain ⟨sl,e1⟩:=I.base.slot b o e n hb hx
  obtain ⟨sl',e2⟩:=slot b _ (neL b o e) hb (neC b o e hx) e1 (I.base.free b o e n hx)
  exact ⟨sl',e2⟩
 ·obtain ⟨o',e1⟩:=I.base.there b o e hx
  exact free b o' (neC b o e hx) e1 (I.base.free b o e n hx)
 ·obtain ⟨o',e1⟩:=I.base.there b o e hx
  exact there b o' (neC b o e hx) e1
 ·obtain ⟨m1,e1⟩:=I.base.tbls b ps e
  obtain ⟨m2,e2⟩:=tbls b _ e1
  exact ⟨m1 ++ m2,by rw [e2,Array.append_assoc]⟩
 ·obtain ⟨m,hn,hl⟩:=I.loc
  refine ⟨m,ns m hn,fun i x v e1 e2 e3=>?_⟩
  obtain ⟨u,r,l⟩:=hl i x v e1 e2 e3
  refine ⟨u,r,?_⟩
  rcases l with l | ⟨k,c,e,z⟩
  ·exact .inl l
  ·exact .inr ⟨k,c,e,cellK x c e _ z⟩
 ·obtain ⟨v,z⟩:=I.cell x c e
  exact ⟨v,cellK x c e v z⟩
 ·obtain ⟨m,⟨o,_,_,ho,_⟩,_⟩:=I.loc
  exact free _ o (fun z=>(hch _ z).2.1 rfl) ho I.free
 ·obtain ⟨v,o,ho,hd⟩:=I.cell x c e
  exact free c o (fun z=>(hch c z).2.2.1 x c e rfl) ho (I.freeC x c e)
 ·obtain ⟨e,n,ne,nf,d⟩:=I.pin p hp
  have nch:p.1 ∉ ch:=fun z=>(hch p.1 z).2.2.2 p hp rfl
  exact ⟨keep p.1 p.2 ne nf nch e n,free p.1 p.2 nch e n,ne,nf,d⟩
theorem Inv.un {t':Nat} (I:Inv X pins σ H s) (u:Un X.fs [] H H' s.heap h') (hok:HOk X.prog X.w H' h'):Inv X pins σ H' { s with heap:=h',toks:=t' }:=by
 obtain ⟨m,⟨o,es,ep,ho,r⟩,_⟩:=id I.loc
 obtain ⟨sl,hL⟩:=u.any ho I.free (by simp)
 exact I.step (g':=s.gens) (d':=s.drawn) (ch:=[]) (fun _ z=>nomatch z) (fun b o _ hb _ e n=>u.keep b o e n hb (by simp)) (fun b o _ hb _ e n=>u.slot b o e n hb (by simp)) (fun b o _ e n=>u.free b o e n (by simp)) (fun b o _ e=>u.there b o e (by simp)) u.tups u.frzs u.tbls (fun m' hm=>by
  obtain ⟨o',es',ep',ho',r'⟩:=hm
  rw [ho] at ho'; cases ho'
  exact ⟨_,es',ep',hL,r'⟩) hok I.bare
theorem Inv.call {g':Array GenState} {t':Nat} {d':Drawn} {ch:List Addr} (I:Inv X pins σ H s) (u:Un (frs X.stack) ch H H' s.heap h') (hok:HOk X.prog X.w H' h') (hg:AllBare g')
  (hch:∀ b ∈ ch,(b ∈ X.ex\/X.s₀.heap.objs.size<=b)/\b ≠ X.env.locals/\(∀ x c,X.env.cells.lookup x=some c->c ≠ b)/\∀ p ∈ X.pn ++ pins,p.1 ≠ b) :
  Inv X pins σ H' { s with heap:=h',gens:=g',drawn:=d',toks:=t' }:=by
 obtain ⟨m,⟨o,es,ep,ho,r⟩,_⟩:=id I.loc
 obtain ⟨sl,hL⟩:=u.any ho I.free fun z=>(hch _ z).2.1 rfl
 exact I.step (ch:=ch) hch (fun b o hL hb hc e n=>u.keep b o e n (fun z=>(List.mem_cons.mp (I.stkSub b z)).elim hL hb) hc) (fun b o _ _ hc e n=>u.any e n hc) (fun b o hc e n=>u.free b o e n hc) (fun b o hc e=>u.there b o e hc) u.tups u.frzs u.tbls (fun m' hm=>by
  obtain ⟨o',es',ep',ho',r'⟩:=hm
  rw [ho] at ho'; cases ho'
  exact ⟨_,es',ep',hL,r'⟩) hok hg
theorem Inv.turned {t':Nat} {it:Addr} (I:Inv X pins σ H s) (k:∀ b o,b ≠ it->s.heap.get? b=some o->h'.get? b=some o) (hn:H it=none) (hL:it ≠ X.env.locals)
  (h1:it ∈ X.ex\/X.s₀.heap.objs.size<=it) (h2:∀ x c,X.env.cells.lookup x=some c->c ≠ it) (h3:∀ p ∈ X.pn ++ pins,p.1 ≠ it):Inv X pins σ H { s with heap:=h',toks:=t' }:=by
 have nit:∀ b u,H b=some u->b ≠ it:=fun b u e z=>by rw [z,hn] at e; cases e
 refine I.step (g':=s.gens) (d':=s.drawn) (ch:=[it]) (fun b hb=>?_) (fun b o _ _ hc e _=>k b o (fun z=>hc (by simp [z])) e) (fun b o _ _ hc e _=>⟨o.slots,k b o (fun z=>hc (by simp [z])) e⟩) (fun _ _ _ _ n=>n)
  (fun b o hc e=>⟨o,k b o (fun z=>hc (by simp [z])) e⟩) (fun _ _ e=>e) (fun _ _ _ e=>e) (fun b ps e=>⟨#[],by rw [e]; simp⟩) (fun m hm=>?_) (fun b u e=>?_) I.bare
 ·have e:b=it:=by simpa using hb
  subst e
  exact ⟨h1,hL,h2,h3⟩
 ·obtain ⟨o,es,ep,ho,r⟩:=hm
  exact ⟨o,es,ep,k _ o (Ne.symm hL) ho,r⟩
 ·refine (I.hok b u e).stay (fun c v hc q=>k c v ?_ q) (fun _ q=>q) fun _ _ q=>q
  rcases hc with z | z
  ·rw [z]; exact nit b u e
  ·exact nit c _ z
theorem Inv.tok (I:Inv X pins σ H s) (t:Nat):Inv X pins σ H { s with toks:=t }:=I.un (h':=s.heap) (t':=t) Un.refl I.hok
theorem Inv.kept {t':Nat} (I:Inv X pins σ H s) (k:∀ b u,s.heap.get? b=some u->h'.get? b=some u):Inv X pins σ H { s with heap:=h',toks:=t' }:=I.un (Un.kept k) (I.hok.kept k)
theorem Inv.laid {a:Addr} {o:HO} {t':Nat} (I:Inv X pins σ H s) (k:∀ b u,s.heap.get? b=some u->h'.get? b=some u) (hp:s.heap.objs.size<=a) (new:ObjOk X.prog X.w (upd H a o) h' a o) :
  Inv X pins σ (upd H a o) { s with heap:=h',toks:=t' }:=I.un (Un.laid k hp (I.hok.fresh hp)) (I.hok.laid k hp new)
theorem Inv.write {x e:Addr} {o:HO} {t':Nat} (I:Inv X pins σ H s) (mu:Mut (H x)) (he:e=x\/H e=some (.own x)) (k:∀ b u,b ≠ e->s.heap.get? b=some u->h'.get? b=some u) (heo:∃ u,h'.get? e=some u)
  (new:ObjOk X.prog X.w (upd H x o) h' x o):Inv X pins σ (upd H x o) { s with heap:=h',toks:=t' }:=I.un (Un.write mu he k heo) (I.hok.write mu he k heo new)
theorem Inv.pins_of {pins':List (Addr × Obj)} (I:Inv X pins σ H s) (h:∀ p ∈ pins',s.heap.get? p.1=some p.2/\H p.1=none/\p.1 ≠ X.env.locals/\p.1 ∉ X.fs/\∀ v,p.2.data ≠ .cell v):Inv X pins' σ H s:=
 ⟨I.ok,I.os,I.bare,I.base,I.loc,I.cell,I.free,I.freeC,fun p hp=>(List.mem_append.mp hp).elim (fun z=>I.pin p (List.mem_append_left _ z)) (h p),I.hok,I.len⟩
theorem Zha {N:List Str} (hN:N.Nodup) {i j:Nat} {x:Str} (a:N[i]? = some x) (b:N[j]? = some x):i=j:=by
 obtain ⟨h1,e1⟩:=List.getElem?_eq_some_iff.mp a
 obtain ⟨h2,e2⟩:=List.getElem?_eq_some_iff.mp b
 exact (List.getElem_inj hN).mp (e1.trans e2.symm)
theorem Zf2 {M:Model} {A:Around} {E:Value->Shared->Prop} {i:Nat} {x:Str} {v:V} {u:Value} {Q:Unit->Shared->Prop} (I:Inv X pins σ H s) (hN:X.N.Nodup) (hi:X.N[i]? = some x) (hx:Loc X.env.scope x) (r:RelV v u)
  (h:∀ s',Inv X pins (σ.set i (some v)) H s' -> (∃ a,Heap.SameBut a s.heap s'.heap/\(a=X.env.locals\/X.env.cells.lookup x=some a))->Q () s') (hf:X.fn x=true\/X.env.scope.names.lookup x=some .local:=by first | exact .inl rfl | exact .inr rfl | assumption):wpAny M A (storeName X.env x u) Q E s:=by
 obtain ⟨m,hn,hl⟩:=id I.loc
 have hcls:(X.env.scope.kind == .class || (X.env.scope.kind == .module && X.env.locals != X.env.globals))=false:=by rw [I.ok.kind]; rfl
 have hiσ:i < σ.length:=by rw [I.len]; exact (List.getElem?_eq_some_iff.mp hi).1
 have cne:=I.cne
 have tracked:∀ {a:Addr} {h':Heap},(∃ o,s.heap.get? a=some o/\H a=none)->Heap.SameBut a s.heap h' -> HOk X.prog X.w H h':=fun {a h'} ha hs b ob e=>by
  obtain ⟨_,_,hfree⟩:=ha
  refine (I.hok b ob e).stay (fun c w' hc q=>(hs.2 c ?_).trans q) (fun _ q=>q) fun _ _ q=>q
  rintro rfl
  rcases hc with rfl | hc
  ·rw [hfree] at e; cases e
  ·rw [hfree] at hc; cases hc
 rcases hx with hk | hk
 ·refine wpAny_storeName_local hk hn (fun h' hn' hs=>?_) hcls
  obtain ⟨oL,_,_,hoL,_⟩:=id hn
  refine h _ ⟨I.ok,I.os,I.bare,⟨fun b o e n hb hx=>?_,fun b o e n hb hx=>?_,I.base.free,fun b o e hx=>?_,I.base.tups,I.base.frzs,I.base.tbls⟩,⟨_,hn',fun j y v' e1 e2 e3=>?_⟩,fun y c e=>?_,I.free,I.freeC,fun p hp=>?_,tracked ⟨oL,hoL,I.free⟩ hs,by simpa using I.len⟩ ⟨_,hs,.inl rfl⟩
  ·exact (hs.2 b (Nat.ne_of_lt (Nat.lt_of_lt_of_le (Heap.lt_size e) I.ok.above))).trans (I.base.keep b o e n hb hx)
  ·obtain ⟨sl,e1⟩:=I.base.slot b o e n hb hx
   exact ⟨sl,(hs.2 b (Nat.ne_of_lt (Nat.lt_of_lt_of_le (Heap.lt_size e) I.ok.above))).trans e1⟩
  ·obtain ⟨o',e1⟩:=I.base.there b o e hx
   exact ⟨o',(hs.2 b (Nat.ne_of_lt (Nat.lt_of_lt_of_le (Heap.lt_size e) I.ok.above))).trans e1⟩
  ·by_cases hj:j=i
   ·subst hj
    rw [hi] at e1; cases e1
    rw [List.getElem?_set_self hiσ] at e2
    cases e2
    exact ⟨u,r,.inl ⟨hk,by simp⟩⟩
   ·rw [List.getElem?_set_ne (Ne.symm hj)] at e2
    obtain ⟨u',r',q⟩:=hl j y v' e1 e2 e3
    refine ⟨u',r',?_⟩
    rcases q with ⟨k,e⟩ | ⟨k,c,e,z⟩
    ·refine .inl ⟨k,?_⟩
     have:y ≠ x:=fun e=>hj (Zha hN e1 (e ▸ hi))
     simp [this,e]
    ·exact .inr ⟨k,c,e,z.sameBut hs (cne y c e)⟩
  ·obtain ⟨w',z⟩:=I.cell y c e
   exact ⟨w',z.sameBut hs (cne y c e)⟩
  ·obtain ⟨e,n,ne,nf,d⟩:=I.pin p hp
   exact ⟨(hs.2 p.1 ne).trans e,n,ne,nf,d⟩
 ·have hfn:X.fn x=true:=by
   rcases hf with z | z
   ·exact z
   ·rw [z] at hk; cases hk
  obtain ⟨c,hc⟩:=I.ok.has x (.inl hk)
  obtain ⟨w',z⟩:=I.cell x c hc
  refine wpAny_storeName_cell I.ok.kind hk hc z (fun h' hc' hs=>?_)
  obtain ⟨oc,hoc,hocd⟩:=id z
  refine h { s with heap:=h' } ⟨I.ok,I.os,I.bare,⟨fun b o e n hb hx=>?_,fun b o e n hb hx=>?_,I.base.free,fun b o e hx=>?_,I.base.tups,I.base.frzs,I.base.tbls⟩,⟨m,hn.sameBut hs (Ne.symm (cne x c hc)),fun j y v' e1 e2 e3=>?_⟩,fun y c' e=>?_,I.free,I.freeC,fun p hp=>?_,tracked ⟨oc,hoc,I.freeC x c hc⟩ hs,by simpa using I.len⟩ ⟨c,hs,.inr hc⟩
  ·exact (hs.2 b (Nat.ne_of_lt (Nat.lt_of_lt_of_le (Heap.lt_size e) (I.ok.cab x c hfn hc)))).trans (I.base.keep b o e n hb hx)
  ·obtain ⟨sl,e1⟩:=I.base.slot b o e n hb hx
   exact ⟨sl,(hs.2 b (Nat.ne_of_lt (Nat.lt_of_lt_of_le (Heap.lt_size e) (I.ok.cab x c hfn hc)))).trans e1⟩
  ·obtain ⟨o',e1⟩:=I.base.there b o e hx
   exact ⟨o',(hs.2 b (Nat.ne_of_lt (Nat.lt_of_lt_of_le (Heap.lt_size e) (I.ok.cab x c hfn hc)))).trans e1⟩
  ·by_cases hj:j=i
   ·subst hj
    rw [hi] at e1; cases e1
    rw [List.getElem?_set_self hiσ] at e2
    cases e2
    exact ⟨u,r,.inr ⟨.inl hk,c,hc,hc'⟩⟩
   ·rw [List.getElem?_set_ne (Ne.symm hj)] at e2
    obtain ⟨u',r',q⟩:=hl j y v' e1 e2 e3
    refine ⟨u',r',?_⟩
    rcases q with q | ⟨k,c',e,z'⟩
    ·exact .inl q
    ·refine .inr ⟨k,c',e,z'.sameBut hs ?_⟩
     rintro rfl
     exact hj (Zha hN e1 (I.ok.inj _ _ _ e hc ▸ hi))
  ·by_cases hcc:c' = c
   ·subst hcc; exact ⟨_,hc'⟩
   ·obtain ⟨w2,z2⟩:=I.cell y c' e
    exact ⟨w2,z2.sameBut hs hcc⟩
  ·obtain ⟨e,n,ne,nf,d⟩:=I.pin p hp
   refine ⟨(hs.2 p.1 ?_).trans e,n,ne,nf,d⟩
   intro q
   rw [q,hoc] at e
   have q':oc=p.2:=Option.some.inj e
   exact d w' (by rw [<- q']; exact hocd)
theorem Zc0 {M:Model} {A:Around} {E:Value->Shared->Prop} {i:Nat} {x:Str} {v:V} {u:Value} {Q:Unit->Shared->Prop} (I:Inv X pins σ H s) (hN:X.N.Nodup) (hi:X.N[i]? = some x) (hx:Loc X.env.scope x) (r:RelV v u)
  (h:∀ s',Inv X pins (σ.set i (some v)) H s' -> Q () s') (hf:X.fn x=true\/X.env.scope.names.lookup x=some .local:=by first | exact .inl rfl | exact .inr rfl | assumption):wpAny M A (storeName X.env x u) Q E s:=
 Zf2 I hN hi hx r (fun s' I' _=>h s' I') hf
theorem Inv.call' {s':Shared} {ch:List Addr} (I:Inv X pins σ H s) (ho:s'.os=s.os) (u:Un (frs X.stack) ch H H' s.heap s'.heap) (hok:HOk X.prog X.w H' s'.heap) (hg:AllBare s'.gens)
  (hch:∀ b ∈ ch,(b ∈ X.ex\/X.s₀.heap.objs.size<=b)/\b ≠ X.env.locals/\(∀ x c,X.env.cells.lookup x=some c->c ≠ b)/\∀ p ∈ X.pn ++ pins,p.1 ≠ b):Inv X pins σ H' s':=by
 obtain ⟨h',g',d',t',o'⟩:=s'
 have e:o' = s.os:=ho
 subst e
 exact I.call (g':=g') (t':=t') (d':=d') u hok hg hch
end
abbrev XK:=Value->Option Addr->Hp->Prop
abbrev St:=List (Option V)
abbrev VK:=V->Hp->Prop
abbrev TE:=St->Hp->VK->Prop
abbrev TT:=St->Hp->(Bool->Hp->Prop)->Prop
abbrev TA:=St->Hp->(List V->Hp->Prop)->Prop
structure Ends where
 nx:St->Hp->Prop
 rt:VK
 bk:St->Hp->Prop:=fun _ _=>False
 ct:St->Hp->Prop:=fun _ _=>False
abbrev TS:=Ends->St->Hp->Prop
def EP (X:Cx) (pins:List (Addr × Obj)) (σ:St) (Q:VK) (u:Value) (s':Shared):Prop:=∃ v H',Inv X pins σ H' s' /\ RelV v u/\Q v H'
def TP (X:Cx) (pins:List (Addr × Obj)) (σ:St) (Q:Bool->Hp->Prop) (b:Bool) (s':Shared):Prop:=∃ H',Inv X pins σ H' s' /\ Q b H'
def AP (X:Cx) (pins:List (Addr × Obj)) (σ:St) (Q:List V->Hp->Prop) (us:List Value) (s':Shared):Prop:=∃ vs H',Inv X pins σ H' s' /\ Vals vs us/\Q vs H'
def SP (X:Cx) (pins:List (Addr × Obj)) (D:Ends) (f:Flow) (s':Shared):Prop:=
 match f with
 | .next=>∃ σ' H',Inv X pins σ' H' s' /\ D.nx σ' H'
 | .brk=>∃ σ' H',Inv X pins σ' H' s' /\ D.bk σ' H'
 | .cont=>∃ σ' H',Inv X pins σ' H' s' /\ D.ct σ' H'
 | .ret u=>∃ v σ' H',Inv X pins σ' H' s' /\ RelV v u/\D.rt v H'
def PE (X:Cx) (e:Expr) (t:TE):Prop:=
 ∀ (pins:List (Addr × Obj)) (s:Shared) (σ:St) (H:Hp) (Q:VK),Inv X pins σ H s->t σ H Q->wpAny (model X.prog X.w) X.A (eval e X.env) (EP X pins σ Q) X.xe s
def PT (X:Cx) (e:Expr) (t:TT):Prop:=
 ∀ (pins:List (Addr × Obj)) (s:Shared) (σ:St) (H:Hp) (Q:Bool->Hp->Prop),Inv X pins σ H s->t σ H Q->wpAny (model X.prog X.w) X.A (isTrue e X.env (eval e X.env)) (TP X pins σ Q) X.xe s
def PW (X:Cx) (e:Expr) (t:TT):Prop:=
 ∀ (whole:Sem Value) (pins:List (Addr × Obj)) (s:Shared) (σ:St) (H:Hp) (Q:Bool->Hp->Prop),Inv X pins σ H s->t σ H Q->wpAny (model X.prog X.w) X.A (isTrue e X.env whole) (TP X pins σ Q) X.xe s
theorem PW.pt {X:Cx} {e:Expr} {t:TT} (h:PW X e t):PT X e t:=h _
def PA (X:Cx) (es:List Expr) (t:TA):Prop:=
 ∀ (pos:Pos) (pins:List (Addr × Obj)) (s:Shared) (σ:St) (H:Hp) (Q:List V->Hp->Prop),Inv X pins σ H s->t σ H Q->wpAny (model X.prog X.w) X.A (spliced (backTo pos (starEach es X.env))) (AP X pins σ Q) X.xe s
def PS (X:Cx) (st:Stmt) (t:TS):Prop:=
 ∀ (pins:List (Addr × Obj)) (s:Shared) (σ:St) (H:Hp) (D:Ends),Inv X pins σ H s->t D σ H->wpAny (model X.prog X.w) X.A (exec st X.env) (SP X pins D) X.xe s
def PSs (X:Cx) (st:List Stmt) (t:TS):Prop:=
 ∀ (pins:List (Addr × Obj)) (s:Shared) (σ:St) (H:Hp) (D:Ends),Inv X pins σ H s->t D σ H->wpAny (model X.prog X.w) X.A (execs st X.env) (SP X pins D) X.xe s
theorem thn {α:Type} {t:Sem α} {Q Q':α -> Shared->Prop} {M:Model} {A:Around} {E:Value->Shared->Prop} {s:Shared} (h:wpAny M A t Q E s) (hQ:∀ a s,Q a s->Q' a s):wpAny M A t Q' E s:=wpAny_mono h hQ fun _ _ x=>x
end L2
namespace L2
open PySem PySem.Spec PyProof.Rows
section
variable {X:Cx}
def tVar (i:Nat):TE:=fun σ H Q=>∃ v,σ[i]? = some (some v)/\Q v H
def tC (v:V):TE:=fun _ H Q=>Q v H
theorem Zo8 {i:Nat} {x:Str} {pos:Pos} (hN:X.N[i]? = some x) (hv:Vis X.env.scope x) (hd:(x == ("__debug__":Str))=false:=by decide) (hcd:(x == ("__classdict__":Str))=false:=by decide):PE X (.Name x pos) (tVar i):=by
 intro pins s σ H Q I h
 obtain ⟨v,e,h⟩:=h
 obtain ⟨m,hn,hl⟩:=I.loc
 obtain ⟨u,r,l⟩:=hl i x v hN e hv
 have fin:EP X pins σ Q u s:=⟨v,H,I,r,h⟩
 rcases l with ⟨hk,hm⟩ | ⟨hk,c,hc,hcell⟩
 ·exact wpAny_Name (wpAny_loadName_local I.ok.kind hk hn hm fin) hd
 ·rcases hk with hk | hk
  ·exact wpAny_Name (wpAny_loadName_cell I.ok.kind hk hc hcell fin) hd
  ·exact wpAny_Name (wpAny_loadName_free I.ok.kind hk hc hcell fin hcd) hd
theorem Zag {i j pos}:PE X (.Constant (.int i) j pos) (tC (.int i)):=fun _ _ _ H _ I h=>wpAny_Constant_int ⟨.int i,H,I.tok _,⟨_,rfl⟩,h⟩
theorem Zkm {b j pos}:PE X (.Constant (.bool b) j pos) (tC (.bl b)):=fun _ _ _ H _ I h=>Constant_bool ⟨.bl b,H,I,rfl,h⟩
theorem Zcf {j pos}:PE X (.Constant .none j pos) (tC .non):=fun _ _ _ H _ I h=>Constant_none ⟨.non,H,I,rfl,h⟩
theorem Zbi {x j pos}:PE X (.Constant (.str x) j pos) (tC (.str x)):=fun _ _ _ H _ I h=>Calls.Constant_str ⟨.str x,H,I.tok _,⟨_,rfl⟩,h⟩
def Gl (X:Cx) (x:Str):Prop:=X.env.kindOf x=some .globalImplicit
theorem Zjl {E:Value->Shared->Prop} {pins:List (Addr × Obj)} {s:Shared} {σ:St} {H:Hp} {x:Str} {u:Value} {pos:Pos} {Q:Value->Shared->Prop} (I:Inv X pins σ H s) (hg:Gl X x) (hm:X.mg x=some u) (h:Q u s)
  (hd:(x == ("__debug__":Str))=false:=by decide):wpAny (model X.prog X.w) X.A (eval (.Name x pos) X.env) Q E s:=
 Calls.Name_function_global I.ok.kind hg (Calls.loadGlobal_global (by rw [I.ok.glob]; exact I.mod.glob.keeps I.bk) hm h) hd
theorem Zd0 {E:Value->Shared->Prop} {pins:List (Addr × Obj)} {s:Shared} {σ:St} {H:Hp} {x:Str} {u:Value} {pos:Pos} {Q:Value->Shared->Prop} (I:Inv X pins σ H s) (hg:Gl X x) (hm:X.mg x=none) (hv:bootBuiltins x=some u) (h:Q u s)
  (hn:x ≠ "__name__":=by decide) (hd:(x == ("__debug__":Str))=false:=by decide):wpAny (model X.prog X.w) X.A (eval (.Name x pos) X.env) Q E s:=by
 obtain ⟨mb,h1,h2⟩:=I.mod.blt
 exact Calls.Name_function_global I.ok.kind hg (Calls.loadGlobal_builtin (by rw [I.ok.glob]; exact I.mod.glob.keeps I.bk) hm (by rw [I.ok.blt]; exact h1.keeps I.bk) ((h2 x hn).trans hv) h) hd
theorem Ze2 {x:Str} {v:V} {u:Value} {pos:Pos} (hg:Gl X x) (hm:X.mg x=some u) (r:RelV v u) (hd:(x == ("__debug__":Str))=false:=by decide):PE X (.Name x pos) (tC v):=
 fun _ _ _ H _ I h=>Zjl I hg hm ⟨v,H,I,r,h⟩ hd
theorem Zce {x:Str} {v:V} {u:Value} {pos:Pos} (hg:Gl X x) (hm:X.mg x=none) (hv:bootBuiltins x=some u) (r:RelV v u) (hn:x ≠ "__name__":=by decide) (hd:(x == ("__debug__":Str))=false:=by decide):PE X (.Name x pos) (tC v):=
 fun _ _ _ H _ I h=>Zd0 I hg hm hv ⟨v,H,I,r,h⟩ hn hd
variable {a b:Expr} {ta tb:TE} {pos:Pos}
variable {tA tB':TT} {rest:List Expr}
def tAnd (t u:TT):TT:=fun σ H Q=>t σ H fun c H1=>if c=true then u σ H1 Q else Q false H1
def tOr (t u:TT):TT:=fun σ H Q=>t σ H fun c H1=>if c=true then Q true H1 else u σ H1 Q
def tNot (t:TT):TT:=fun σ H Q=>t σ H fun c H1=>Q (!c) H1
theorem pw_and1 (ha:PT X a tA):PW X (.BoolOp .And [a] pos) tA:=by
 intro wh pins s σ H Q I h
 refine isTrue_and (thn (ha pins s σ H Q I h) fun c s1 e=>?_)
 cases c with
 | true=>exact isTrue_and_nil e
 | false=>exact e
theorem pw_or1 (ha:PT X a tA):PW X (.BoolOp .Or [a] pos) tA:=by
 intro wh pins s σ H Q I h
 refine isTrue_or (thn (ha pins s σ H Q I h) fun c s1 e=>?_)
 cases c with
 | false=>exact isTrue_or_nil e
 | true=>exact e
theorem pw_and (ha:PT X a tA) (hb:PW X (.BoolOp .And (b :: rest) pos) tB'):PW X (.BoolOp .And (a :: b :: rest) pos) (tAnd tA tB'):=by
 intro wh pins s σ H Q I h
 refine isTrue_and (thn (ha pins s σ H _ I h) fun c s1 ⟨H1,I1,q1⟩=>?_)
 cases c with
 | true=>exact hb wh pins s1 σ H1 Q I1 q1
 | false=>exact ⟨H1,I1,q1⟩
theorem pw_or (ha:PT X a tA) (hb:PW X (.BoolOp .Or (b :: rest) pos) tB'):PW X (.BoolOp .Or (a :: b :: rest) pos) (tOr tA tB'):=by
 intro wh pins s σ H Q I h
 refine isTrue_or (thn (ha pins s σ H _ I h) fun c s1 ⟨H1,I1,q1⟩=>?_)
 cases c with
 | true=>exact ⟨H1,I1,q1⟩
 | false=>exact hb wh pins s1 σ H1 Q I1 q1
theorem Zb4 (ha:PT X a tA):PT X (.UnaryOp .Not a pos) (tNot tA):=by
 intro pins s σ H Q I h
 exact isTrue_not (ha pins s σ H (fun c H1=>Q (!c) H1) I h)
def tAndV (ta tb:TE):TE:=fun σ H Q=>ta σ H fun x H1=>∃ c,x=.bl c/\if c=true then tb σ H1 Q else Q (.bl false) H1
def tOrV (ta tb:TE):TE:=fun σ H Q=>ta σ H fun x H1=>∃ c,x=.bl c/\if c=true then Q (.bl true) H1 else tb σ H1 Q
def tNotV (ta:TE):TE:=fun σ H Q=>ta σ H fun x H1=>∃ c,x=.bl c/\Q (.bl (!c)) H1
theorem Zim {op} {t:TE} (h:PE X a t):PE X (.BoolOp op [a] pos) t:=fun pins s σ H Q I hw=>BoolOp_one (h pins s σ H Q I hw)
theorem Zj8 (ha:PE X a ta) (hb:PE X (.BoolOp .And (b :: rest) pos) tb):PE X (.BoolOp .And (a :: b :: rest) pos) (tAndV ta tb):=by
 intro pins s σ H Q I h
 refine BoolOp_and (thn (ha pins s σ H _ I h) fun v s1 ⟨x,H1,I1,r1,q1⟩=>?_)
 obtain ⟨c,rfl,q1⟩:=q1
 cases r1
 refine wpAny_truthy_bool ?_
 cases c with
 | true=>exact hb pins s1 σ H1 Q I1 q1
 | false=>exact ⟨.bl false,H1,I1,rfl,q1⟩
theorem Zl5 (ha:PE X a ta):PE X (.UnaryOp .Not a pos) (tNotV ta):=by
 intro pins s σ H Q I h
 refine UnaryOp_ (thn (ha pins s σ H _ I h) fun v s1 ⟨x,H1,I1,r1,q1⟩=>?_)
 obtain ⟨c,rfl,q1⟩:=q1
 cases r1
 exact not_of (wpAny_truthy_bool ⟨.bl (!c),H1,I1,rfl,q1⟩)
def tIf (t:TT) (ta tb:TE):TE:=fun σ H Q=>t σ H fun c H1=>if c=true then ta σ H1 Q else tb σ H1 Q
theorem Zdl {c:Expr} (hc:PT X c tA) (ha:PE X a ta) (hb:PE X b tb):PE X (.IfExp c a b pos) (tIf tA ta tb):=by
 intro pins s σ H Q I h
 refine wpAny_IfExp (thn (hc pins s σ H _ I h) fun d s1 ⟨H1,I1,q1⟩=>?_)
 cases d with
 | true=>exact ha pins s1 σ H1 Q I1 q1
 | false=>exact hb pins s1 σ H1 Q I1 q1
end
end L2
namespace L2
open PySem PySem.Spec PyProof.Rows
def SqL (K:PySem.W.Frag) (H:Hp) (a:Addr) (xs:List V):Prop:=
 Rd H a (.lst xs) ∨
  ∃ (o:Obj) (its:Array Value) (n:Nat),K.lookup a=some o/\o.cls=.type "list" /\ o.dict=none/\o.data=.seq its n/\its.size<=sizeLine/\Vals xs its.toList
def SqT (K:PySem.W.Frag) (H:Hp) (a:Addr) (xs:List V):Prop:=
 Rd H a (.tup xs) ∨
  ∃ (o:Obj) (its:Array Value) (n:Nat),K.lookup a=some o/\o.cls=.type "tuple" /\ o.data=.seq its n/\its.size<=sizeLine/\Vals xs its.toList
def absV:Value->Option V
 | .none=>some .non
 | .bool b=>some (.bl b)
 | .int i _=>some (.int i)
 | .str x _=>some (.str x)
 | .bytes b _=>some (.byt b)
 | .float b _=>some (.flt b)
 | .ref a=>some (.ref a)
 | .type n=>some (.ty n)
 | _=>none
theorem RelV.abs {x:V} {u:Value} (r:RelV x u):absV u=some x:=by
 cases x with
 | non=>cases r; rfl
 | bl _=>cases r; rfl
 | int _=>obtain ⟨t,rfl⟩:=r; rfl
 | str _=>obtain ⟨t,rfl⟩:=r; rfl
 | byt _=>obtain ⟨t,rfl⟩:=r; rfl
 | flt _=>obtain ⟨t,rfl⟩:=r; rfl
 | ref _=>cases r; rfl
 | ty _=>cases r; rfl
theorem RelV.inj {x y:V} {u:Value} (r:RelV x u) (q:RelV y u):x=y:=Option.some.inj (r.abs.symm.trans q.abs)
theorem Vals.inj:∀ {xs ys:List V} {us:List Value},Vals xs us->Vals ys us->xs=ys
 | _,_,_,.nil,.nil=>rfl
 | _,_,_,.cons r t,.cons r' t'=>by rw [r.inj r',Vals.inj t t']
section
variable {X:Cx} {pins:List (Addr × Obj)} {σ:St} {H:Hp} {s:Shared} {a:Addr} {xs ys:List V}
theorem SqL.of {K:PySem.W.Frag} (h:H a=some (.lst xs)):SqL K H a xs:=.inl (.inl h)
theorem SqT.of {K:PySem.W.Frag} (h:H a=some (.tup xs)):SqT K H a xs:=.inl (.inl h)
theorem Inv.list (I:Inv X pins σ H s) (h:SqL X.K H a xs):∃ its:List Value,Vals xs its/\PlainL s.heap a its.toArray/\xs.length<=sizeLine:=by
 rcases h with h | ⟨o,its,n,hk,hc,hd,hs,hz,r⟩
 ·obtain ⟨z,its,n,r,e⟩:=h.ok I.hok
  exact ⟨its,r,⟨_,n,e,rfl,rfl,rfl⟩,z⟩
 ·refine ⟨its.toList,r,⟨o,n,I.kIn a o hk,hc,hd,by simpa using hs⟩,?_⟩
  have e:=r.length
  simp only [Array.length_toList] at e
  omega
theorem Inv.tuple (I:Inv X pins σ H s) (h:SqT X.K H a xs):∃ its:List Value,Vals xs its/\IsTup s.heap a its.toArray/\xs.length<=sizeLine:=by
 rcases h with h | ⟨o,its,n,hk,hc,hs,hz,r⟩
 ·obtain ⟨z,its,r,p⟩:=h.ok I.hok
  exact ⟨its,r,p.tup,z⟩
 ·refine ⟨its.toList,r,⟨o,I.kIn a o hk,hc,n,by simpa using hs⟩,?_⟩
  have e:=r.length
  simp only [Array.length_toList] at e
  omega
theorem Inv.list_inj (I:Inv X pins σ H s) (h:SqL X.K H a xs) (h':SqL X.K H a ys):xs=ys:=by
 obtain ⟨its,r,⟨o,n,e,_,_,d⟩,_⟩:=I.list h
 obtain ⟨its',r',⟨o',n',e',_,_,d'⟩,_⟩:=I.list h'
 rw [e] at e'; cases e'
 rw [d] at d'
 injection d' with d1 _
 have:its=its':=by simpa using congrArg Array.toList d1
 subst this
 exact r.inj r'
theorem Inv.tuple_inj (I:Inv X pins σ H s) (h:SqT X.K H a xs) (h':SqT X.K H a ys):xs=ys:=by
 obtain ⟨its,r,⟨o,e,_,n,d⟩,_⟩:=I.tuple h
 obtain ⟨its',r',⟨o',e',_,n',d'⟩,_⟩:=I.tuple h'
 rw [e] at e'; cases e'
 rw [d] at d'
 injection d' with d1 _
 have:its=its':=by simpa using congrArg Array.toList d1
 subst this
 exact r.inj r'
end
abbrev Cx.wish (X:Cx) (E:Value->Shared->Prop):Cx:={ X with xe:=E }
abbrev Cx.nox (X:Cx):Cx:=X.wish fun _ _=>False
theorem Cx.Ok.wish {X:Cx} (ok:X.Ok) (E:Value->Shared->Prop):(X.wish E).Ok:=
 ⟨ok.mod,ok.kind,ok.glob,ok.blt,ok.above,ok.inj,ok.has,ok.cab,ok.hd,ok.frames,ok.stk,ok.exf,ok.bs,ok.bsz,ok.noex,ok.exfs,ok.funs,ok.frf⟩
theorem Cx.Ok.unwish {X:Cx} {E:Value->Shared->Prop} (ok:(X.wish E).Ok):X.Ok:=
 ⟨ok.mod,ok.kind,ok.glob,ok.blt,ok.above,ok.inj,ok.has,ok.cab,ok.hd,ok.frames,ok.stk,ok.exf,ok.bs,ok.bsz,ok.noex,ok.exfs,ok.funs,ok.frf⟩
section
variable {X:Cx} {pins:List (Addr × Obj)} {σ:St} {H:Hp} {s:Shared} {E:Value->Shared->Prop}
theorem Inv.wish (I:Inv X pins σ H s) (E:Value->Shared->Prop):Inv (X.wish E) pins σ H s:=⟨I.ok.wish E,I.os,I.bare,I.base,I.loc,I.cell,I.free,I.freeC,I.pin,I.hok,I.len⟩
theorem Inv.unwish (I:Inv (X.wish E) pins σ H s):Inv X pins σ H s:=⟨I.ok.unwish,I.os,I.bare,I.base,I.loc,I.cell,I.free,I.freeC,I.pin,I.hok,I.len⟩
theorem SP.unwish {D:Ends} {f:Flow} {s':Shared} (h:SP (X.wish E) pins D f s'):SP X pins D f s':=by
 cases f with
 | next=>obtain ⟨σ',H',I,q⟩:=h; exact ⟨σ',H',I.unwish,q⟩
 | brk=>obtain ⟨σ',H',I,q⟩:=h; exact ⟨σ',H',I.unwish,q⟩
 | cont=>obtain ⟨σ',H',I,q⟩:=h; exact ⟨σ',H',I.unwish,q⟩
 | ret u=>obtain ⟨v,σ',H',I,r,q⟩:=h; exact ⟨v,σ',H',I.unwish,r,q⟩
theorem PSs.nox {st:List Stmt} {t:TS} (h:PSs X.nox st t):PSs X st t:=fun pins s σ H D I hw=>
 wpAny_mono (h pins s σ H D (I.wish _) hw) (fun _ _ q=>q.unwish) fun _ _ z=>False.elim z
end
section
variable {X:Cx} {st:Stmt} {rest:List Stmt} {t u:TS} {e:Expr} {te:TE} {pos:Pos}
def tNext:TS:=fun D σ H=>D.nx σ H
def tSeq (t u:TS):TS:=fun D σ H=>t { D with nx:=u D } σ H
theorem Zat:PSs X [] tNext:=fun _ _ σ H _ I h=>wpAny_execs_nil ⟨σ,H,I,h⟩
theorem Zaf (h1:PS X st t) (h2:PSs X rest u):PSs X (st :: rest) (tSeq t u):=by
 intro pins s σ H D I h
 refine wpAny_execs_cons (thn (h1 pins s σ H { D with nx:=u D } I h) fun f s1 q=>?_)
 cases f with
 | next=>
  obtain ⟨σ',H',I',q⟩:=q
  exact h2 pins s1 σ' H' D I' q
 | ret v=>exact q
 | brk=>exact q
 | cont=>exact q
theorem Zaj (h1:PS X st t):PSs X [st] t:=by
 intro pins s σ H D I h
 refine wpAny_execs_cons (thn (h1 pins s σ H D I h) fun f s1 q=>?_)
 cases f with
 | next=>exact wpAny_execs_nil q
 | ret v=>exact q
 | brk=>exact q
 | cont=>exact q
theorem Inv.quiet {pins:List (Addr × Obj)} {σ:St} {H:Hp} {s:Shared} (I:Inv X pins σ H s):interactive X.env=false:=by simp [interactive,I.ok.kind]
def tDrop (te:TE):TS:=fun D σ H=>te σ H fun _ H1=>D.nx σ H1
theorem Zfh (he:PE X e te) (hs:swapsWith e none pos.line X.env=pure false:=by rfl):PS X (.Expr e pos) (tDrop te):=by
 intro pins s σ H D I h
 exact wpAny_Expr_any (thn (he pins s σ H _ I h) fun v s1 ⟨x,H1,I1,r1,q1⟩=>⟨σ,H1,I1,q1⟩) I.quiet hs
def tRet (te:TE):TS:=fun D σ H=>te σ H D.rt
theorem Zav (he:PE X e te):PS X (.Return (some e) pos) (tRet te):=by
 intro pins s σ H D I h
 exact wpAny_Return_some (thn (he pins s σ H _ I h) fun v s1 ⟨x,H1,I1,r1,q1⟩=>⟨x,σ,H1,I1,r1,q1⟩)
def tIfS (c:TT) (t u:TS):TS:=fun D σ H=>c σ H fun b H1=>if b=true then t D σ H1 else u D σ H1
theorem Zbr {c:Expr} {a b:List Stmt} {tc:TT} (hc:PT X c tc) (ha:PSs X a t) (hb:PSs X b u):PS X (.If c a b pos) (tIfS tc t u):=by
 intro pins s σ H D I h
 refine wpAny_If (thn (hc pins s σ H _ I h) fun d s1 ⟨H1,I1,q1⟩=>?_)
 cases d with
 | true=>exact ha pins s1 σ H1 D I1 q1
 | false=>exact hb pins s1 σ H1 D I1 q1
def tNever:TS:=fun _ _ _=>False
theorem Zbz {sts:List Stmt}:PSs X sts tNever:=fun _ _ _ _ _ _ h=>h.elim
end
abbrev TG:=V->St->Hp->(St->Hp->Prop)->Prop
abbrev TGs:=List V->St->Hp->(St->Hp->Prop)->Prop
def PG (X:Cx) (target:Expr) (t:TG):Prop:=
 ∀ (pins:List (Addr × Obj)) (s:Shared) (σ:St) (H:Hp) (v:V) (u:Value) (Q:St->Hp->Prop),Inv X pins σ H s->RelV v u->t v σ H Q →
  wpAny (model X.prog X.w) X.A (assign target X.env u) (fun _ s'=>∃ σ' H',Inv X pins σ' H' s' /\ Q σ' H') X.xe s
def PGs (X:Cx) (ts:List Expr) (t:TGs):Prop:=
 ∀ (pins:List (Addr × Obj)) (s:Shared) (σ:St) (H:Hp) (vs:List V) (us:List Value) (Q:St->Hp->Prop),Inv X pins σ H s->Vals vs us->t vs σ H Q →
  wpAny (model X.prog X.w) X.A (assignInOrder ((assignEach ts X.env).map (·.2)) us) (fun _ s'=>∃ σ' H',Inv X pins σ' H' s' /\ Q σ' H') X.xe s
abbrev TSet:=V->V->V->Hp->(Hp->Prop)->Prop
def PSet (X:Cx) (t:TSet):Prop:=
 ∀ (pins:List (Addr × Obj)) (s:Shared) (σ:St) (H:Hp) (o i v:V) (ov iv u:Value) (Q:Hp->Prop),Inv X pins σ H s->RelV o ov->RelV i iv->RelV v u->t o i v H Q →
  wpAny (model X.prog X.w) X.A (setItem ov iv u) (fun _ s'=>∃ H',Inv X pins σ H' s' /\ Q H') X.xe s
abbrev TIp:=V->V->Hp->VK->Prop
def PIp (X:Cx) (op:Operator) (t:TIp):Prop:=
 ∀ (pins:List (Addr × Obj)) (s:Shared) (σ:St) (H:Hp) (x y:V) (v u:Value) (Q:VK),Inv X pins σ H s->RelV x v->RelV y u->t x y H Q →
  wpAny (model X.prog X.w) X.A (inplaceOp op v u) (EP X pins σ Q) X.xe s
section
variable {X:Cx} {pos:Pos}
def gName (i:Nat):TG:=fun v σ H Q=>Q (σ.set i (some v)) H
theorem Zap {i:Nat} {x:Str} (hN:X.N.Nodup) (hi:X.N[i]? = some x) (hx:Loc X.env.scope x) (hf:X.fn x=true\/X.env.scope.names.lookup x=some .local:=by first | exact .inl rfl | exact .inr rfl | assumption):PG X (.Name x pos) (gName i):=by
 intro pins s σ H v u Q I r h
 exact wpAny_assign_Name (Zc0 I hN hi hx r (fun s' I'=>⟨_,H,I',h⟩) hf)
def gNil:TGs:=fun vs σ H Q=>vs=[]/\Q σ H
def gCons (t:TG) (u:TGs):TGs:=fun vs σ H Q=>∃ v r,vs=v :: r/\t v σ H fun σ' H'=>u r σ' H' Q
theorem Zck:PGs X [] gNil:=by
 intro pins s σ H vs us Q I r h
 obtain ⟨e,h⟩:=h
 subst e
 cases r
 exact assignInOrder_nil ⟨σ,H,I,h⟩
theorem Za3 {e:Expr} {es:List Expr} {t:TG} {u:TGs} (h1:PG X e t) (h2:PGs X es u)
  (hs:(assignEach (e :: es) X.env).map (·.2)=assign e X.env :: (assignEach es X.env).map (·.2):=by rfl):PGs X (e :: es) (gCons t u):=by
 intro pins s σ H vs us Q I r h
 obtain ⟨v,vr,e1,h⟩:=h
 subst e1
 cases r with
 | cons r rr=>
  rw [hs]
  refine assignInOrder_cons (thn (h1 pins s σ H _ _ _ I r h) fun _ s1 ⟨σ1,H1,I1,q1⟩=>?_)
  exact h2 pins s1 σ1 H1 _ _ Q I1 rr q1
def gTup (K:PySem.W.Frag) (n:Nat) (t:TGs):TG:=fun v σ H Q=>∃ a xs,v=.ref a/\SqT K H a xs/\xs.length=n/\t xs σ H Q
theorem Zor {es:List Expr} {k:Nat} {t:TGs} {n:Nat} (hc:X.calm=true) (h:PGs X es t)
  (hn:(assignEach es X.env).length=n:=by rfl) (hst:(assignEach es X.env).findIdx? (·.1)=none:=by rfl):PG X (.Tuple es k pos) (gTup X.K n t):=by
 intro pins s σ H v u Q I r hw
 obtain ⟨a,xs,e1,hq,hl,hw⟩:=hw
 subst e1
 cases r
 obtain ⟨its,rv,ht,hz⟩:=I.tuple hq
 refine assign_Tuple_tuple (I.ok.hd hc) ht (by simp [hn,<- hl,rv.length]) hst fun h' hx=>?_
 have I1:Inv X pins σ H { s with heap:=h' }:=I.kept (t':=s.toks) fun b o e=>hx b o (Nat.ne_of_lt (Heap.lt_size e)) e
 exact h pins _ σ H xs _ Q I1 (by simpa using rv) hw
def gSub (to ti:TE) (t:TSet):TG:=fun v σ H Q=>to σ H fun o H1=>ti σ H1 fun i H2=>t o i v H2 fun H3=>Q σ H3
theorem Zjb {o i:Expr} {to ti:TE} {t:TSet} (ho:PE X o to) (hi:PE X i ti) (hs:PSet X t)
  (ha:∀ v,assign (.Subscript o i pos) X.env v=(do
   let ov ← holding [v] (eval o X.env)
   let iv ← holding [v,ov] (eval i X.env)
   standAt pos
   holding [v,ov,iv] (setItem ov iv v)
   release [v,ov,iv] []):=by intro _; rfl):PG X (.Subscript o i pos) (gSub to ti t):=by
 intro pins s σ H v u Q I r h
 rw [ha]
 refine wpAny_bind (wpAny_holding (thn (ho pins s σ H _ I h) fun ov s1 ⟨x,H1,I1,r1,q1⟩=>?_))
 refine wpAny_bind (wpAny_holding (thn (hi pins s1 σ H1 _ I1 q1) fun iv s2 ⟨y,H2,I2,r2,q2⟩=>?_))
 refine wpAny_bind (wpAny_standAt (wpAny_bind (wpAny_holding (thn (hs pins s2 σ H2 x y v ov iv u _ I2 r1 r2 r q2) fun _ s3 ⟨H3,I3,q3⟩=>?_))))
 exact wpAny_release ⟨σ,H3,I3,q3⟩
def tAsg (te:TE) (g:TG):TS:=fun D σ H=>te σ H fun x H1=>g x σ H1 D.nx
theorem Zf7 {tg e:Expr} {te:TE} {g:TG} (he:PE X e te) (hg:PG X tg g) (hs:swapsWithSole [tg] e pos.line X.env=pure false:=by rfl) (hw:swappedStores [tg] e X.env=pure none:=by rfl)
  (h1:(assignEach [tg] X.env).map (·.2)=[assign tg X.env]:=by rfl):PS X (.Assign [tg] e pos) (tAsg te g):=by
 intro pins s σ H D I h
 refine wpAny_Assign_stores (thn (he pins s σ H _ I h) fun v s1 ⟨x,H1,I1,r1,q1⟩=>?_) hs hw
 rw [h1]
 exact thn (hg pins s1 σ H1 x v _ I1 r1 q1) fun _ s2 q=>q
theorem Za0 {i:Nat} {x:Str} {e:Expr} {te:TE} {pos':Pos} (hN:X.N.Nodup) (hi:X.N[i]? = some x) (hx:Loc X.env.scope x) (he:PE X e te) (hs:swapsWith e (some (.Name x pos')) pos.line X.env=pure false:=by rfl) (hf:X.fn x=true\/X.env.scope.names.lookup x=some .local:=by first | exact .inl rfl | exact .inr rfl | assumption) :
  PS X (.Assign [.Name x pos'] e pos) (tAsg te (gName i)):=by
 intro pins s σ H D I h
 refine wpAny_Assign_Name (thn (he pins s σ H _ I h) fun v s1 ⟨y,H1,I1,r1,q1⟩=>?_) hs
 exact Zc0 I1 hN hi hx r1 (fun s2 I2=>⟨_,H1,I2,q1⟩) hf
def tPar (i j:Nat) (ta:TA):TS:=fun D σ H=>ta σ H fun vs H1=>∃ v w,vs=[v,w]/\D.nx ((σ.set i (some v)).set j (some w)) H1
theorem Zmg {i j:Nat} {x y:Str} {a b:Expr} {ta:TA} {px py pt:Pos} {kt k2 pt2} (hc:X.calm=true) (hN:X.N.Nodup) (hi:X.N[i]? = some x) (hj:X.N[j]? = some y) (hij:i ≠ j)
  (hx:X.env.scope.names.lookup x=some .local) (hy:X.env.scope.names.lookup y=some .local) (ha:PA X [a,b] ta)
  (hw:swappedStores [.Tuple [.Name x px,.Name y py] kt pt] (.Tuple [a,b] k2 pt2) X.env=pure (some [x,y]))
  (hs:swapsWithSole [.Tuple [.Name x px,.Name y py] kt pt] (.Tuple [a,b] k2 pt2) pos.line X.env=pure false:=by rfl) :
  PS X (.Assign [.Tuple [.Name x px,.Name y py] kt pt] (.Tuple [a,b] k2 pt2) pos) (tPar i j ta):=by
 intro pins s σ H D I h
 rw [exec_Assign_arm]
 refine wpAny_bind (wpAny_standAt ?_)
 rw [hs]
 refine wpAny_bind (wpAny_pure ?_)
 rw [if_neg (by decide)]
 refine wpAny_bind (Tuple_ (thn (ha _ pins s σ H _ I h) fun us s1 ⟨vs,H1,I1,r1,q1⟩=>?_))
 obtain ⟨v,w,e1,q1⟩:=q1
 subst e1
 obtain ⟨u1,u2,rfl,rv,rw'⟩:∃ u1 u2,us=[u1,u2]/\RelV v u1/\RelV w u2:=by
  cases r1 with
  | cons p q=>
   cases q with
   | cons p' q'=>
    cases q'
    exact ⟨_,_,rfl,p,p'⟩
 refine wpAny_newObj_type ?_ (by show 2<=sizeLine; decide)
 have I2:Inv X pins σ H1 { s1 with heap:=s1.heap.push { cls:=.type "tuple",data:=.seq [u1,u2].toArray } }:=I1.kept (t':=s1.toks) fun b o e=>Heap.get?_push_of_some _ e
 rw [hw]
 refine wpAny_bind (wpAny_pure ?_)
 show wpAny (model X.prog X.w) X.A (do rule "assign.swapped-stores"; let items ← unpackItems (.ref s1.heap.objs.size) 2 none; assignInOrder [fun v=>bindName X.env y v,fun v=>bindName X.env x v] items.reverse; pure Flow.next) _ _ _
 refine wpAny_bind (wpAny_rule (wpAny_bind (unpackItems_tuple (items:=#[u1,u2]) (I.ok.hd hc) (IsTup.new s1.heap _) fun h' hx'=>?_)))
 have I3:=I2.kept (h':=h') (t':=s1.toks) fun b o e=>hx' b o (Nat.ne_of_lt (Heap.lt_size e)) e
 show wpAny _ _ (assignInOrder [fun v=>bindName X.env y v,fun v=>bindName X.env x v] [u2,u1] >>= fun _=>pure Flow.next) _ _ _
 refine wpAny_bind (assignInOrder_cons (wpAny_bindName (Zc0 I3 hN hj (.inl hy) rw' (fun s2 I4=>?_) (.inr hy))))
 refine assignInOrder_cons (wpAny_bindName (Zc0 I4 hN hi (.inl hx) rv (fun s3 I5=>assignInOrder_nil (wpAny_pure ?_)) (.inr hx)))
 rw [List.set_comm _ _ (Ne.symm hij)] at I5
 exact ⟨_,H1,I5,q1⟩
def tAug (i:Nat) (te:TE) (ti:TIp):TS:=fun D σ H=>∃ x,σ[i]? = some (some x)/\te σ H fun y H1=>ti x y H1 fun z H2=>D.nx (σ.set i (some z)) H2
theorem Zlv {i:Nat} {x:Str} {e:Expr} {te:TE} {op:Operator} {ti:TIp} {pos':Pos} (hN:X.N.Nodup) (hi:X.N[i]? = some x) (hx:Loc X.env.scope x) (he:PE X e te) (ho:PIp X op ti) (hf:X.fn x=true\/X.env.scope.names.lookup x=some .local:=by first | exact .inl rfl | exact .inr rfl | assumption) :
  PS X (.AugAssign (.Name x pos') op e pos) (tAug i te ti):=by
 intro pins s σ H D I h
 obtain ⟨v,e1,h⟩:=h
 obtain ⟨m,hn,hl⟩:=I.loc
 have vis:Vis X.env.scope x:=by rcases hx with k | k; exact .inl k; exact .inr (.inl k)
 obtain ⟨u,r,l⟩:=hl i x v hi e1 vis
 refine wpAny_AugAssign_Name ?_
 have go:wpAny (model X.prog X.w) X.A (eval e X.env) (fun w s₂=>wpAny (model X.prog X.w) X.A (inplaceOp op u w) (fun r s₃=>wpAny (model X.prog X.w) X.A (storeName X.env x r) (fun _=>SP X pins D .next) X.xe s₃) X.xe s₂) X.xe s:=by
  refine thn (he pins s σ H _ I h) fun w s1 ⟨y,H1,I1,r1,q1⟩=>?_
  refine thn (ho pins s1 σ H1 v y u w _ I1 r r1 q1) fun z s2 ⟨zv,H2,I2,r2,q2⟩=>?_
  exact Zc0 I2 hN hi hx r2 (fun s3 I3=>⟨_,H2,I3,q2⟩) hf
 rcases l with ⟨hk,hm⟩ | ⟨hk,c,hc,hcell⟩
 ·exact wpAny_loadName_local I.ok.kind hk hn hm go
 ·rcases hk with hk | hk
  ·exact wpAny_loadName_cell I.ok.kind hk hc hcell go
  ·rcases hx with k | k
   ·have:X.env.scope.names.lookup x=some .free:=hk
    rw [k] at this; cases this
   ·have:X.env.scope.names.lookup x=some .free:=hk
    rw [k] at this; cases this
end
structure It where
 go:Nat->Hp->Prop
 yld:Nat->Hp->V->Hp->Prop
 stop:Nat->Hp->Prop
def FpOk (X:Cx) (pins:List (Addr × Obj)) (H:Hp) (b:Addr):Prop:=
 H b=none/\b ≠ X.env.locals/\b ∉ X.fs/\(b ∈ X.ex\/X.s₀.heap.objs.size<=b)/\(∀ x c,X.env.cells.lookup x=some c->c ≠ b)/\∀ p ∈ X.pn ++ pins,p.1 ≠ b
theorem Inv.fpOk {X:Cx} {pins:List (Addr × Obj)} {σ:St} {H H':Hp} {s:Shared} {b:Addr} (I:Inv X pins σ H s) (hb:s.heap.objs.size<=b) (hn:H' b=none):FpOk X pins H' b:=by
 refine ⟨hn,Nat.ne_of_gt (Nat.lt_of_lt_of_le I.lt hb),I.nofs hb,.inr (Nat.le_trans I.sz hb),fun x c e z=>?_,fun p hp z=>?_⟩
 ·obtain ⟨v,q⟩:=I.cell x c e
  exact absurd (Nat.lt_of_lt_of_le q.lt (by rw [z]; exact hb)) (Nat.lt_irrefl _)
 ·exact absurd (Nat.lt_of_lt_of_le (Heap.lt_size (I.pin p hp).1) (by rw [z]; exact hb)) (Nat.lt_irrefl _)
structure TurnG (Cm:Cx->Prop) (P:Program) (w:World) (K:PySem.W.Frag) (tg:Expr) (J:It) (fp:List Addr) (it:Addr) (tn:Nat->Heap->Prop):Prop where
 mem:it ∈ fp
 obj:∀ i h,tn i h->∀ b ∈ fp,∃ o,h.get? b=some o/\∀ v,o.data ≠ .cell v
 keep:∀ i h h',tn i h->(∀ b ∈ fp,∀ o,h.get? b=some o->h'.get? b=some o)->tn i h'
 item:∀ (X:Cx),X.prog=P->X.w=w->X.K=K->Cm X->∀ (i:Nat) (pins:List (Addr × Obj)) (s:Shared) (σ:St) (H:Hp) (E:Value->Shared->Prop),Inv X pins σ H s->(∀ b ∈ fp,FpOk X pins H b)->tn i s.heap->J.go i H →
  wpAny (model P w) X.A (pyNext (.ref it)) (fun r s1=>∃ u,r=some u ∧
   wpAny (model P w) X.A (letOwnedTupleGo tg (.ref it) u) (fun _ s2=>∃ x H',Inv X pins σ H' s2/\RelV x u/\J.yld i H x H' /\ tn (i + 1) s2.heap/\∀ b ∈ fp,H' b=none) E s1) E s
 done:∀ (X:Cx),X.prog=P->X.w=w->X.K=K->Cm X->∀ (i:Nat) (pins:List (Addr × Obj)) (s:Shared) (σ:St) (H:Hp) (E:Value->Shared->Prop),Inv X pins σ H s->(∀ b ∈ fp,FpOk X pins H b)->tn i s.heap->J.stop i H →
  wpAny (model P w) X.A (pyNext (.ref it)) (fun r s1=>r=none/\Inv X pins σ H s1) E s
 self:∀ (A:Around) (i:Nat) (s:Shared) (Q:Value->Shared->Prop) (E:Value->Shared->Prop),tn i s.heap->Q (.ref it) s->wpAny (model P w) A (pyIter (.ref it)) Q E s
abbrev Turn:=TurnG fun X=>X.calm=true
abbrev TI:=St->Hp->(It->Hp->Prop)->Prop
def PIEG (Cm:Cx->Prop) (X:Cx) (pins:List (Addr × Obj)) (σ:St) (tg:Expr) (R:It->Hp->Prop) (itv:Value) (s2:Shared):Prop:=
 ∃ (it:Addr) (fp:List Addr) (tn:Nat->Heap->Prop) (J:It) (H':Hp),itv=.ref it/\Inv X pins σ H' s2/\TurnG Cm X.prog X.w X.K tg J fp it tn/\tn 0 s2.heap/\(∀ b ∈ fp,FpOk X pins H' b)/\R J H'
def PIG (Cm:Cx->Prop) (X:Cx) (tg iter:Expr) (wi:TI):Prop:=
 ∀ (pins:List (Addr × Obj)) (s:Shared) (σ:St) (H:Hp) (R:It->Hp->Prop),Inv X pins σ H s->wi σ H R →
  wpAny (model X.prog X.w) X.A (eval iter X.env) (fun v s1=>wpAny (model X.prog X.w) X.A (pyIter v) (PIEG Cm X pins σ tg R) X.xe s1) X.xe s
abbrev PIE:=PIEG fun X=>X.calm=true
abbrev PI:=PIG fun X=>X.calm=true
theorem Zkj {M:Model} {A:Around} {E:Value->Shared->Prop} {s:Shared} {tg:Expr} {it:Addr} {u:Value} {o:Obj} {n:String} {vs:Array Value} {Q:Unit->Shared->Prop} (ho:s.heap.get? it=some o) (hc:o.cls=.type n) (hd:o.data=.fields vs)
  (hn:["enumerate","zip","dict_itemiterator","dict_reverseitemiterator","odict_iterator","itertools.zip_longest","itertools.pairwise"].contains n=false) (hQ:Q () s):wpAny M A (letOwnedTupleGo tg (.ref it) u) Q E s:=by
 unfold letOwnedTupleGo
 cases tg <;> first
  | exact wpAny_pure hQ
  | (cases u <;> first
      | exact wpAny_pure hQ
      | (refine wpAny_bind (wpAny_load ho ?_)
         rw [hc,hd]
         show wpAny M A (if (["enumerate","zip","dict_itemiterator","dict_reverseitemiterator","odict_iterator","itertools.zip_longest","itertools.pairwise"].contains n && vs[0]? == some (rawInt _))=true then _ else _) Q E s
         rw [if_neg (by intro h; rw [hn,Bool.false_and] at h; cases h)]
         exact wpAny_pure hQ))
def Itl (K:PySem.W.Frag) (a:Addr):It:=
 ⟨fun i H=>∃ xs x,SqL K H a xs/\xs[i]? = some x,fun i H x H'=>H' = H/\∀ xs,SqL K H a xs->xs[i]? = some x,fun i H=>∃ xs,SqL K H a xs/\xs.length<=i⟩
def Itt (K:PySem.W.Frag) (a:Addr):It:=
 ⟨fun i H=>∃ xs x,SqT K H a xs/\xs[i]? = some x,fun i H x H'=>H' = H/\∀ xs,SqT K H a xs->xs[i]? = some x,fun i H=>∃ xs,SqT K H a xs/\xs.length<=i⟩
def Itr (lo:Int) (n:Nat):It:=⟨fun i _=>i < n,fun i H x H'=>H' = H/\x=.int (lo + i),fun i _=>n<=i⟩
theorem Ziu {P:Program} {w:World} {K:PySem.W.Frag} {tg:Expr} (a it:Addr):Turn P w K tg (Itl K a) [it] it (fun i h=>h.IsListIter it a i) where
 mem:=by simp
 obj:=fun i h st b hb=>by
  have e:b=it:=by simpa using hb
  subst e
  obtain ⟨o,e,c,d⟩:=st
  exact ⟨o,e,fun v z=>by rw [d] at z; cases z⟩
 keep:=fun i h h' st k=>st.at fun o e=>k it (by simp) o e
 item:=by
  intro X hP hw hK hc i pins s σ H E I hf st hg
  subst hP hw hK
  obtain ⟨xs,x,hq,hx⟩:=hg
  obtain ⟨its,rv,p,hz⟩:=I.list hq
  obtain ⟨u,hu,ru⟩:=rv.get hx
  obtain ⟨f0,f1,f2,f3,f4,f5⟩:=hf it (by simp)
  refine wpAny_pyNext_list_item st p.isList (x:=u) (by simpa using hu) fun h' st' sb=>?_
  have I1:Inv X pins σ H { s with heap:=h' }:=I.turned (t':=s.toks) (fun b o hb e=>(sb.2 b hb).trans e) f0 f1 f3 f4 f5
  obtain ⟨o,e,c,d⟩:=id st'
  exact ⟨u,rfl,Zkj (s:={ s with heap:=h' }) e c d (by decide) ⟨x,H,I1,ru,⟨rfl,fun ys hy=>by rw [I.list_inj hy hq]; exact hx⟩,st',fun b hb=>(hf b hb).1⟩⟩
 done:=by
  intro X hP hw hK hc i pins s σ H E I hf st hg
  subst hP hw hK
  obtain ⟨xs,hq,hx⟩:=hg
  obtain ⟨its,rv,p,hz⟩:=I.list hq
  obtain ⟨f0,f1,f2,f3,f4,f5⟩:=hf it (by simp)
  have hl:=rv.length
  exact wpAny_pyNext_list_end (I.ok.hd hc) st p.isList (by simp; omega) fun h' eb=>⟨rfl,I.turned (t':=s.toks) (fun b o hb e=>eb b o hb e) f0 f1 f3 f4 f5⟩
 self:=fun _ _ _ _ _ st h=>wpAny_pyIter_listiter st h
theorem Zhv {P:Program} {w:World} {K:PySem.W.Frag} {tg:Expr} (a it:Addr):Turn P w K tg (Itt K a) [it] it (fun i h=>h.IsTupleIter it a i) where
 mem:=by simp
 obj:=fun i h st b hb=>by
  have e:b=it:=by simpa using hb
  subst e
  obtain ⟨o,e,c,d⟩:=st
  exact ⟨o,e,fun v z=>by rw [d] at z; cases z⟩
 keep:=fun i h h' st k=>st.at fun o e=>k it (by simp) o e
 item:=by
  intro X hP hw hK hc i pins s σ H E I hf st hg
  subst hP hw hK
  obtain ⟨xs,x,hq,hx⟩:=hg
  obtain ⟨its,rv,p,hz⟩:=I.tuple hq
  obtain ⟨u,hu,ru⟩:=rv.get hx
  obtain ⟨f0,f1,f2,f3,f4,f5⟩:=hf it (by simp)
  refine wpAny_pyNext_tuple_item st (show s.heap.IsTuple a its.toArray from p) (x:=u) (by simpa using hu) fun h' st' sb=>?_
  have I1:Inv X pins σ H { s with heap:=h' }:=I.turned (t':=s.toks) (fun b o hb e=>(sb.2 b hb).trans e) f0 f1 f3 f4 f5
  obtain ⟨o,e,c,d⟩:=id st'
  exact ⟨u,rfl,Zkj (s:={ s with heap:=h' }) e c d (by decide) ⟨x,H,I1,ru,⟨rfl,fun ys hy=>by rw [I.tuple_inj hy hq]; exact hx⟩,st',fun b hb=>(hf b hb).1⟩⟩
 done:=by
  intro X hP hw hK hc i pins s σ H E I hf st hg
  subst hP hw hK
  obtain ⟨xs,hq,hx⟩:=hg
  obtain ⟨its,rv,p,hz⟩:=I.tuple hq
  obtain ⟨f0,f1,f2,f3,f4,f5⟩:=hf it (by simp)
  have hl:=rv.length
  exact wpAny_pyNext_tuple_end (I.ok.hd hc) st (show s.heap.IsTuple a its.toArray from p) (by simp; omega) fun h' eb=>⟨rfl,I.turned (t':=s.toks) (fun b o hb e=>eb b o hb e) f0 f1 f3 f4 f5⟩
 self:=fun _ _ _ _ _ st h=>wpAny_pyIter_tupleiter st h
theorem Zh3 {P:Program} {w:World} {K:PySem.W.Frag} {tg:Expr} (it:Addr) (lo:Int) (n:Nat):Turn P w K tg (Itr lo n) [it] it (fun i h=>IsRangeIter h it (lo + (i:Nat) * 1) ((n:Int) - (i:Nat)) 1) where
 mem:=by simp
 obj:=fun i h st b hb=>by
  have e:b=it:=by simpa using hb
  subst e
  exact ⟨_,st,fun v z=>by
   have z':Data.fields _=Data.cell v:=z
   cases z'⟩
 keep:=fun i h h' st k=>k it (by simp) _ st
 item:=by
  intro X hP hw hK hc i pins s σ H E I hf st hg
  subst hP hw hK
  obtain ⟨f0,f1,f2,f3,f4,f5⟩:=hf it (by simp)
  have W:=Walks.range (prog:=X.prog) (w:=X.w) (I.ok.hd hc) it lo 1 n
  refine W.item i s _ _ hg st fun v h' tk hv st' kk=>?_
  obtain ⟨t,rfl⟩:=hv
  have I1:Inv X pins σ H { s with heap:=h',toks:=tk }:=I.turned (fun b o hb e=>kk b o (by simpa using hb) e) f0 f1 f3 f4 f5
  refine ⟨_,rfl,Zkj (s:={ s with heap:=h',toks:=tk }) (n:="range_iterator") st' rfl rfl (by decide) ⟨.int (lo + i),H,I1,⟨t,?_⟩,⟨rfl,rfl⟩,st',fun b hb=>(hf b hb).1⟩⟩
  rw [Int.mul_one]
 done:=by
  intro X hP hw hK hc i pins s σ H E I hf st hg
  subst hP hw hK
  obtain ⟨f0,f1,f2,f3,f4,f5⟩:=hf it (by simp)
  exact wpAny_pyNext_range_end (I.ok.hd hc) st (by have:n<=i:=hg; omega) fun h' eb=>⟨rfl,I.turned (t':=s.toks) (fun b o hb e=>eb b o hb e) f0 f1 f3 f4 f5⟩
 self:=fun _ _ _ _ _ st h=>wpAny_pyIter_rangeiter st h
end L2
namespace L2
open PySem PySem.Spec PyProof.Rows
section
variable {X:Cx} {tg:Expr}
def iList (K:PySem.W.Frag) (tl:TE):TI:=fun σ H R=>tl σ H fun x H1=>∃ a,x=.ref a/\(∃ xs,SqL K H1 a xs)/\R (Itl K a) H1
def iTup (K:PySem.W.Frag) (tl:TE):TI:=fun σ H R=>tl σ H fun x H1=>∃ a,x=.ref a/\(∃ xs,SqT K H1 a xs)/\R (Itt K a) H1
theorem Zmz {l:Expr} {tl:TE} (hl:PE X l tl):PI X tg l (iList X.K tl):=by
 intro pins s σ H R I h
 refine thn (hl pins s σ H _ I h) fun v s1 ⟨x,H1,I1,r1,q1⟩=>?_
 obtain ⟨a,e,⟨xs,hq⟩,q⟩:=q1
 subst e
 cases r1
 obtain ⟨its,rv,p,hz⟩:=I1.list hq
 refine wpAny_pyIter_list p.isList ?_
 refine ⟨s1.heap.objs.size,[s1.heap.objs.size],_,_,H1,rfl,I1.kept (t':=s1.toks) fun b o e=>Heap.get?_push_of_some _ e,Ziu a _,⟨_,Heap.get?_push_size _ rfl,rfl,rfl⟩,fun b hb=>?_,q⟩
 have e:b=s1.heap.objs.size:=by simpa using hb
 subst e
 exact I1.fpOk (Nat.le_refl _) (I1.hok.fresh (Nat.le_refl _))
theorem Zo0 {l:Expr} {tl:TE} (hl:PE X l tl):PI X tg l (iTup X.K tl):=by
 intro pins s σ H R I h
 refine thn (hl pins s σ H _ I h) fun v s1 ⟨x,H1,I1,r1,q1⟩=>?_
 obtain ⟨a,e,⟨xs,hq⟩,q⟩:=q1
 subst e
 cases r1
 obtain ⟨its,rv,p,hz⟩:=I1.tuple hq
 refine wpAny_pyIter_tuple (show s1.heap.IsTuple a its.toArray from p) ?_
 refine ⟨s1.heap.objs.size,[s1.heap.objs.size],_,_,H1,rfl,I1.kept (t':=s1.toks) fun b o e=>Heap.get?_push_of_some _ e,Zhv a _,⟨_,Heap.get?_push_size _ rfl,rfl,rfl⟩,fun b hb=>?_,q⟩
 have e:b=s1.heap.objs.size:=by simpa using hb
 subst e
 exact I1.fpOk (Nat.le_refl _) (I1.hok.fresh (Nat.le_refl _))
theorem range_it {pins:List (Addr × Obj)} {σ:St} {H:Hp} {s:Shared} {R:It->Hp->Prop} {E:Value->Shared->Prop} {lo hi:Int} {t u v:Tok} {tk:Nat} (I:Inv X pins σ H s) (h1:-(2 ^ 62)<=lo) (h2:lo < 2 ^ 62) (h3:-(2 ^ 62)<=hi) (h4:hi < 2 ^ 62)
  (q:R (Itr lo (hi - lo).toNat) H):wpAny (model X.prog X.w) X.A (pyIter (.ref s.heap.objs.size)) (PIE X pins σ tg R) E { s with heap:=s.heap.push { cls:=.type "range",data:=.fields #[.int lo t,.int hi u,.int 1 v] },toks:=tk }:=by
 refine wpAny_pyIter_range (IsRange.new ..) (small_one h1 h2 h3 h4) ?_
 have I1:Inv X pins σ H { s with heap:=s.heap.push { cls:=.type "range",data:=.fields #[.int lo t,.int hi u,.int 1 v] },toks:=tk }:=I.kept fun b o e=>Heap.get?_push_of_some _ e
 refine ⟨(s.heap.push { cls:=.type "range",data:=.fields #[.int lo t,.int hi u,.int 1 v] }).objs.size,[(s.heap.push { cls:=.type "range",data:=.fields #[.int lo t,.int hi u,.int 1 v] }).objs.size],_,_,H,rfl,
  I1.kept (t':=tk) fun b o e=>Heap.get?_push_of_some _ e,Zh3 _ lo (hi - lo).toNat,?_,fun b hb=>?_,q⟩
 ·have e1:lo + ((0:Nat):Int) * 1=lo:=by simp
  have e2:(((hi - lo).toNat:Nat):Int) - ((0:Nat):Int)=Builtin.Range.rangeSize lo hi 1:=by rw [rangeSize_one]; split <;> omega
  show IsRangeIter _ _ (lo + ((0:Nat):Int) * 1) ((((hi - lo).toNat:Nat):Int) - ((0:Nat):Int)) 1
  rw [e1,e2]
  exact Heap.get?_push_size _ rfl
 ·have e:b=(s.heap.push { cls:=.type "range",data:=.fields #[.int lo t,.int hi u,.int 1 v] }).objs.size:=by simpa using hb
  subst e
  exact I1.fpOk (Nat.le_refl _) (I1.hok.fresh (Nat.le_refl _))
def iRng1 (ta:TA):TI:=fun σ H R=>ta σ H fun vs H1=>∃ j:Int,vs=[.int j] /\ -(2 ^ 62)<=j/\j < 2 ^ 62/\R (Itr 0 j.toNat) H1
theorem Zcm {a:Expr} {ta:TA} {p pos:Pos} (hg:Gl X "range") (hm:X.mg "range" = none) (ha:PA X [a] ta) (hs:starEach [a] X.env=[(false,eval a X.env)]:=by rfl):PI X tg (.Call (.Name "range" p) [a] [] pos) (iRng1 ta):=by
 intro pins s σ H R I h
 refine Call_ (Zd0 I hg hm boot_range (PyProof.Rows.callWith_type1 (thn (ha pos pins s σ H _ I h) fun us s1 ⟨vs,H1,I1,r1,q1⟩=>?_) hs rfl))
 obtain ⟨j,e,q1,q2,q⟩:=q1
 subst e
 cases r1 with
 | cons r rr=>
  cases rr
  obtain ⟨t,rfl⟩:=r
  exact call_range_1 (range_it I1 (by omega) (by omega) q1 q2 (by simpa using q))
def tFor (wi:TI) (g:TG) (tb:TS):TS:=fun D σ H=>wi σ H fun J H1=>∃ W:Nat->Nat->St->Hp->Prop,(∃ m,W 0 m σ H1)/\∀ i m σ H,W i m σ H →
 (J.stop i H/\D.nx σ H)\/(J.go i H/\∃ N:St->Hp->Prop,(∀ σ' H',N σ' H' -> ∃ m',m' < m/\W (i + 1) m' σ' H')/\∀ x H',J.yld i H x H' -> g x σ H' fun σ2 H2=>tb { D with nx:=N,ct:=N,bk:=D.nx } σ2 H2)
def pinsAt (fp:List Addr) (h:Heap):List (Addr × Obj):=fp.filterMap fun b=>(h.get? b).map fun o=>(b,o)
theorem Zct {fp:List Addr} {h:Heap} {b:Addr} {o:Obj} (hb:b ∈ fp) (e:h.get? b=some o):(b,o) ∈ pinsAt fp h:=List.mem_filterMap.mpr ⟨b,hb,by rw [e]; rfl⟩
theorem Ziv {fp:List Addr} {h:Heap} {p:Addr × Obj} (hp:p ∈ pinsAt fp h):p.1 ∈ fp/\h.get? p.1=some p.2:=by
 obtain ⟨b,hb,e⟩:=List.mem_filterMap.mp hp
 cases q:h.get? b with
 | none=>rw [q] at e; cases e
 | some o=>
  rw [q] at e
  have e':(b,o)=p:=Option.some.inj e
  subst e'
  exact ⟨hb,q⟩
theorem Inv.pinned {pins:List (Addr × Obj)} {σ:St} {H:Hp} {s:Shared} {fp:List Addr} (I:Inv X pins σ H s) (hf:∀ b ∈ fp,FpOk X pins H b) (ho:∀ b ∈ fp,∃ o,s.heap.get? b=some o/\∀ v,o.data ≠ .cell v):Inv X (pins ++ pinsAt fp s.heap) σ H s:=
 I.pins_of fun p hp=>(List.mem_append.mp hp).elim (fun z=>I.pin p (List.mem_append_right _ z)) fun z=>by
  obtain ⟨hb,e⟩:=Ziv z
  obtain ⟨f0,f1,f2,_⟩:=hf p.1 hb
  obtain ⟨o,e',d⟩:=ho p.1 hb
  rw [e] at e'; cases e'
  exact ⟨e,f0,f1,f2,d⟩
theorem Inv.unpinned {pins pl:List (Addr × Obj)} {σ:St} {H:Hp} {s:Shared} (I:Inv X (pins ++ pl) σ H s):Inv X pins σ H s:=I.pins_of fun p hp=>I.pin p (List.mem_append_right _ (List.mem_append_left _ hp))
theorem Zdw {iter:Expr} {body:List Stmt} {wi:TI} {g:TG} {tb:TS} {pos:Pos} (hp:PassesOwn (model X.prog X.w) X.A X.env X.xe) (hc:X.calm=true) (hi:PI X tg iter wi) (hg:PG X tg g) (hb:PSs X body tb)
  (hs:∀ x,foldedSetIterable iter X.env x=pure x:=by intro _; rfl):PS X (.For tg iter body [] pos) (tFor wi g tb):=by
 intro pins s σ H D I h
 refine wpAny_For (thn (hi pins s σ H _ I h) fun v s1 h1=>thn h1 fun itv s2 h2=>?_) hs
 obtain ⟨it,fp,tn,J,H2,e,I2,T,st2,f2,W,⟨m0,w0⟩,turn⟩:=h2
 subst e
 -- what stays true of the iterator's objects through the loop
 have stat:∀ {H':Hp},(∀ b ∈ fp,H' b=none)->∀ b ∈ fp,FpOk X pins H' b:=fun hn b hb=>⟨hn b hb,(f2 b hb).2⟩
 refine codeAny_forLoop_any (fun n s'=>∃ i σ' H',Inv X pins σ' H' s' /\ tn i s'.heap/\(∀ b ∈ fp,H' b=none)/\W i n σ' H') ?_ m0 ⟨0,σ,H2,I2,st2,fun b hb=>(f2 b hb).1,w0⟩
 rintro n s3 ⟨i,σ3,H3,I3,st3,fr3,w3⟩
 rcases turn i n σ3 H3 w3 with ⟨stop,qn⟩ | ⟨go,N,hN,step⟩
 ·refine wpAny_passesOwn hp (thn (T.done X rfl rfl rfl hc i pins s3 σ3 H3 X.xe I3 (stat fr3) st3 stop) fun r s4 ⟨hr,I4⟩=>?_)
  subst hr
  exact wpAny_execs_nil ⟨σ3,H3,I4,qn⟩
 ·refine wpAny_passesOwn hp (thn (T.item X rfl rfl rfl hc i pins s3 σ3 H3 X.xe I3 (stat fr3) st3 go) fun r s4 ⟨u,hr,h4⟩=>?_)
  subst hr
  refine wpAny_passesOwn hp (thn h4 fun _ s5 ⟨x,H5,I5,r5,y5,st5,fr5⟩=>?_)
  have I5':=I5.pinned (stat fr5) (T.obj _ _ st5)
  refine wpAny_passesOwn hp (thn (hg _ s5 σ3 H5 x u _ I5' r5 (step x H5 y5)) fun _ s6 ⟨σ6,H6,I6,q6⟩=>?_)
  refine wpAny_passesOwn hp (thn (hb _ s6 σ6 H6 _ I6 q6) fun f s7 q7=>?_)
  have again:∀ {σ7:St} {H7:Hp},Inv X (pins ++ pinsAt fp s5.heap) σ7 H7 s7->N σ7 H7->∃ m,m < n/\∃ i σ' H',Inv X pins σ' H' s7/\tn i s7.heap/\(∀ b ∈ fp,H' b=none)/\W i m σ' H':=fun {σ7 H7} I7 n7=>by
   obtain ⟨m',hm,w7⟩:=hN σ7 H7 n7
   refine ⟨m',hm,i + 1,σ7,H7,I7.unpinned,T.keep _ _ _ st5 fun b hb o e=>(I7.pin (b,o) (List.mem_append_right _ (List.mem_append_right _ (Zct hb e)))).1,fun b hb=>?_,w7⟩
   obtain ⟨o,e,d⟩:=T.obj _ _ st5 b hb
   exact (I7.pin (b,o) (List.mem_append_right _ (List.mem_append_right _ (Zct hb e)))).2.1
  cases f with
  | next=>obtain ⟨σ7,H7,I7,n7⟩:=q7; exact again I7 n7
  | cont=>obtain ⟨σ7,H7,I7,n7⟩:=q7; exact again I7 n7
  | brk=>obtain ⟨σ7,H7,I7,q7⟩:=q7; exact ⟨σ7,H7,I7.unpinned,q7⟩
  | ret v=>obtain ⟨x7,σ7,H7,I7,r7,q7⟩:=q7; exact ⟨x7,σ7,H7,I7.unpinned,r7,q7⟩
end
end L2
namespace L2
open PySem PySem.Spec PyProof.Rows
abbrev R2:=V->V->Hp->VK->Prop
def OpR (X:Cx) (f:Value->Value->Sem Value) (r:R2):Prop:=
 ∀ (pins:List (Addr × Obj)) (s:Shared) (σ:St) (H:Hp) (x y:V) (v u:Value) (Q:VK),Inv X pins σ H s->RelV x v->RelV y u->r x y H Q →
  wpAny (model X.prog X.w) X.A (f v u) (EP X pins σ Q) X.xe s
def CallR (X:Cx) (f:Value) (r:List V->Hp->VK->Prop):Prop:=
 ∀ (pins:List (Addr × Obj)) (s:Shared) (σ:St) (H:Hp) (xs:List V) (us:List Value) (Q:VK),Inv X pins σ H s->Vals xs us->r xs H Q →
  wpAny (model X.prog X.w) X.A (call f us) (EP X pins σ Q) X.xe s
def TruR (X:Cx) (r:V->Hp->(Bool->Hp->Prop)->Prop):Prop:=
 ∀ (pins:List (Addr × Obj)) (s:Shared) (σ:St) (H:Hp) (x:V) (v:Value) (Q:Bool->Hp->Prop),Inv X pins σ H s->RelV x v->r x H Q →
  wpAny (model X.prog X.w) X.A (truthy v) (TP X pins σ Q) X.xe s
def tOp (r:R2) (ta tb:TE):TE:=fun σ H Q=>ta σ H fun x H1=>tb σ H1 fun y H2=>r x y H2 Q
def tUn (r:V->Hp->VK->Prop) (ta:TE):TE:=fun σ H Q=>ta σ H fun x H1=>r x H1 Q
def rI (C:Int->Int->Prop) (g:Int->Int->V):R2:=fun x y H Q=>∃ i j,x=.int i/\y=.int j/\C i j/\Q (g i j) H
def rI0 (g:Int->Int->V):R2:=fun x y H Q=>∃ i j,x=.int i/\y=.int j/\Q (g i j) H
section
variable {X:Cx} {a b c:Expr} {ta tb tc:TE} {pos:Pos}
theorem binT (ha:PE X a ta) (hb:PE X b tb) {pins:List (Addr × Obj)} {s:Shared} {σ:St} {H:Hp} {R:V->V->Hp->Prop} (I:Inv X pins σ H s)
  (h:ta σ H fun x H1=>tb σ H1 fun y H2=>R x y H2) {Q:Value->Shared->Prop} {f:Value->Value->Sem Value}
  (hf:∀ v u s2 x y H2,Inv X pins σ H2 s2->RelV x v->RelV y u->R x y H2->wpAny (model X.prog X.w) X.A (f v u) Q X.xe s2) :
  wpAny (model X.prog X.w) X.A (eval a X.env) (fun v s₁=>wpAny (model X.prog X.w) X.A (eval b X.env) (fun u s₂=>wpAny (model X.prog X.w) X.A (f v u) Q X.xe s₂) X.xe s₁) X.xe s:=by
 refine thn (ha pins s σ H _ I h) fun v s1 ⟨x,H1,I1,r1,q1⟩=>?_
 refine thn (hb pins s1 σ H1 _ I1 q1) fun u s2 ⟨y,H2,I2,r2,q2⟩=>?_
 exact hf v u s2 x y H2 I2 r1 r2 q2
theorem Zas {op:Operator} {r:R2} (ho:OpR X (binaryOp op) r) (ha:PE X a ta) (hb:PE X b tb):PE X (.BinOp a op b pos) (tOp r ta tb):=by
 intro pins s σ H Q I h
 exact wpAny_BinOp (binT ha hb I h fun v u s2 x y H2 I2 rx ry q=>ho pins s2 σ H2 x y v u Q I2 rx ry q)
theorem opI {f:Value->Value->Sem Value} {C:Int->Int->Prop} {g:Int->Int->Int}
  (rule:∀ (i j:Int) (t u:Tok) (s:Shared) (Q:Value->Shared->Prop) (E:Value->Shared->Prop),C i j->Q (.int (g i j) s.toks) { s with toks:=s.toks + 1 } -> wpAny (model X.prog X.w) X.A (f (.int i t) (.int j u)) Q E s) :
  OpR X f (rI C fun i j=>.int (g i j)):=by
 intro pins s σ H x y v u Q I rx ry h
 obtain ⟨i,j,rfl,rfl,hc,q⟩:=h
 obtain ⟨t,rfl⟩:=rx
 obtain ⟨t',rfl⟩:=ry
 exact rule i j t t' s _ _ hc ⟨.int (g i j),H,I.tok _,⟨_,rfl⟩,q⟩
theorem opI0 {f:Value->Value->Sem Value} {g:Int->Int->Int}
  (rule:∀ (i j:Int) (t u:Tok) (s:Shared) (Q:Value->Shared->Prop) (E:Value->Shared->Prop),Q (.int (g i j) s.toks) { s with toks:=s.toks + 1 } -> wpAny (model X.prog X.w) X.A (f (.int i t) (.int j u)) Q E s) :
  OpR X f (rI0 fun i j=>.int (g i j)):=by
 intro pins s σ H x y v u Q I rx ry h
 obtain ⟨i,j,rfl,rfl,q⟩:=h
 obtain ⟨t,rfl⟩:=rx
 obtain ⟨t',rfl⟩:=ry
 exact rule i j t t' s _ _ ⟨.int (g i j),H,I.tok _,⟨_,rfl⟩,q⟩
theorem opB0 {f:Value->Value->Sem Value} {g:Int->Int->Bool}
  (rule:∀ (i j:Int) (t u:Tok) (s:Shared) (Q:Value->Shared->Prop) (E:Value->Shared->Prop),Q (.bool (g i j)) s->wpAny (model X.prog X.w) X.A (f (.int i t) (.int j u)) Q E s) :
  OpR X f (rI0 fun i j=>.bl (g i j)):=by
 intro pins s σ H x y v u Q I rx ry h
 obtain ⟨i,j,rfl,rfl,q⟩:=h
 obtain ⟨t,rfl⟩:=rx
 obtain ⟨t',rfl⟩:=ry
 exact rule i j t t' s _ _ ⟨.bl (g i j),H,I,rfl,q⟩
def CDiv (i j:Int):Prop:=0 < j/\j < 1073741824
def CPow (i j:Int):Prop:=0<=j/\j<=1000000/\i.natAbs < 2 ^ 64
def CMul (i j:Int):Prop:=(-(2 ^ 64) < i/\i < 2 ^ 64)\/(-(2 ^ 64) < j/\j < 2 ^ 64)
theorem CMul.ok {i j:Int} (h:CMul i j):IntMulOk i j:=by
 rcases h with ⟨h1,h2⟩ | ⟨h1,h2⟩
 ·exact .of_left (intBits_le_64 h1 h2)
 ·exact .of_right (intBits_le_64 h1 h2)
theorem Zoh:OpR X (binaryOp .Add) (rI0 fun i j=>.int (i + j)):=opI0 fun _ _ _ _ _ _ _ q=>add_int q
theorem Zi1:OpR X (binaryOp .Sub) (rI0 fun i j=>.int (i - j)):=opI0 fun _ _ _ _ _ _ _ q=>sub_int q
theorem Zde:OpR X (binaryOp .Mult) (rI CMul fun i j=>.int (i * j)):=opI fun _ _ _ _ _ _ _ hc q=>mul_int q hc.ok
theorem Zgk:OpR X (binaryOp .FloorDiv) (rI CDiv fun i j=>.int (i / j)):=opI fun i j _ _ _ _ _ hc q=>by
 have h1:(0:Int) < j:=hc.1
 have h2:j < 1073741824:=hc.2
 exact floordiv_int (by omega) (by rw [Int.fdiv_eq_ediv_of_nonneg i (by omega)]; exact q) (.inl (PyProof.noPylong_small (by omega)))
theorem Zb3:OpR X (binaryOp .Mod) (rI (fun _ j=>0 < j) fun i j=>.int (i % j)):=opI fun i j _ _ _ _ _ hc q=>by
 have h1:(0:Int) < j:=hc
 exact mod_int' (by omega) (by rw [Int.fmod_eq_emod_of_nonneg i (by omega)]; exact q)
theorem Zpf:OpR X (binaryOp .Pow) (rI CPow fun i j=>.int (i ^ j.toNat)):=opI fun _ _ _ _ _ _ _ hc q=>pow_int_small hc.1 hc.2.1 hc.2.2 q
end
def scal:V->V->Bool
 | .non,.non=>true | .non,.int _=>true | .int _,.non=>true | .non,.bl _=>true | .bl _,.non=>true | .non,.str _=>true | .str _,.non=>true
 | .int _,.int _=>true | .bl _,.bl _=>true | .str _,.str _=>true | .byt _,.byt _=>true
 | .int _,.str _=>true | .str _,.int _=>true | .bl _,.str _=>true | .str _,.bl _=>true
 | _,_=>false
def rEq:R2:=fun x y H Q=>scal x y=true/\Q (.bl (decide (x=y))) H
def rNe:R2:=fun x y H Q=>scal x y=true/\Q (.bl (!decide (x=y))) H
theorem Ze0 {i j:Int}:decide (V.int i=V.int j)=(i == j):=by
 rw [Bool.eq_iff_iff]
 simp
theorem Zl8 {i j:Bool}:decide (V.bl i=V.bl j)=(i == j):=by
 rw [Bool.eq_iff_iff]
 simp
theorem Zix {i j:Str}:decide (V.str i=V.str j)=(i == j):=by
 rw [Bool.eq_iff_iff]
 simp
theorem Zj6 {i j:Array UInt8}:decide (V.byt i=V.byt j)=(i.toList == j.toList):=by
 rw [Bool.eq_iff_iff]
 cases i
 cases j
 simp
section
variable {X:Cx} {a b c:Expr} {ta tb tc:TE} {pos:Pos}
theorem Zay {pins:List (Addr × Obj)} {σ:St} {H:Hp} {s:Shared} {Q:VK} {k k':Bool} (I:Inv X pins σ H s) (q:Q (.bl k) H) (e:k=k'):EP X pins σ Q (.bool k') s:=by
 subst e
 exact ⟨.bl k,H,I,rfl,q⟩
theorem Zps:OpR X (compareOp .Eq) rEq:=by
 intro pins s σ H x y v u Q I rx ry h
 obtain ⟨hs,q⟩:=h
 cases x with
 | non=>
  cases rx
  cases y with
  | non=>cases ry; exact PySem.EqNone.eq_none_none (Zay I q (by simp))
  | bl j=>cases ry; exact PySem.EqNone.eq_none_bool (Zay I q (by simp))
  | int j=>obtain ⟨t',rfl⟩:=ry; exact PySem.EqNone.eq_none_int (Zay I q (by simp))
  | str j=>obtain ⟨t',rfl⟩:=ry; exact PySem.EqNone.eq_none_str (Zay I q (by simp))
  | _=>exact absurd (show false=true from hs) Bool.false_ne_true
 | bl i=>
  cases rx
  cases y with
  | non=>cases ry; exact PySem.EqNone.eq_bool_none (Zay I q (by simp))
  | bl j=>cases ry; exact eq_bool (Zay I q Zl8)
  | str j=>obtain ⟨t',rfl⟩:=ry; exact PySem.EqMixed.eq_bool_str (Zay I q (by simp))
  | _=>exact absurd (show false=true from hs) Bool.false_ne_true
 | int i=>
  obtain ⟨t,rfl⟩:=rx
  cases y with
  | non=>cases ry; exact PySem.EqNone.eq_int_none (Zay I q (by simp))
  | int j=>obtain ⟨t',rfl⟩:=ry; exact eq_int (Zay I q Ze0)
  | str j=>obtain ⟨t',rfl⟩:=ry; exact PySem.EqMixed.eq_int_str (Zay I q (by simp))
  | _=>exact absurd (show false=true from hs) Bool.false_ne_true
 | str i=>
  obtain ⟨t,rfl⟩:=rx
  cases y with
  | non=>cases ry; exact PySem.EqNone.eq_str_none (Zay I q (by simp))
  | bl j=>cases ry; exact PySem.EqMixed.eq_str_bool (Zay I q (by simp))
  | int j=>obtain ⟨t',rfl⟩:=ry; exact PySem.EqMixed.eq_str_int (Zay I q (by simp))
  | str j=>obtain ⟨t',rfl⟩:=ry; exact eq_str (Zay I q Zix)
  | _=>exact absurd (show false=true from hs) Bool.false_ne_true
 | byt i=>
  obtain ⟨t,rfl⟩:=rx
  cases y with
  | byt j=>obtain ⟨t',rfl⟩:=ry; exact PySem.W.eq_bytes (Zay I q Zj6)
  | _=>exact absurd (show false=true from hs) Bool.false_ne_true
 | _=>cases y <;> exact absurd (show false=true from hs) Bool.false_ne_true
theorem Zpr:OpR X (compareOp .NotEq) rNe:=by
 intro pins s σ H x y v u Q I rx ry h
 obtain ⟨hs,q⟩:=h
 cases x with
 | non=>
  cases rx
  cases y with
  | non=>cases ry; exact PySem.EqNone.ne_none_none (Zay I q (by simp))
  | bl j=>cases ry; exact PySem.EqNone.ne_none_bool (Zay I q (by simp))
  | int j=>obtain ⟨t',rfl⟩:=ry; exact PySem.EqNone.ne_none_int (Zay I q (by simp))
  | str j=>obtain ⟨t',rfl⟩:=ry; exact PySem.EqNone.ne_none_str (Zay I q (by simp))
  | _=>exact absurd (show false=true from hs) Bool.false_ne_true
 | bl i=>
  cases rx
  cases y with
  | non=>cases ry; exact PySem.EqNone.ne_bool_none (Zay I q (by simp))
  | bl j=>cases ry; exact ne_bool (Zay I q (congrArg not Zl8))
  | str j=>obtain ⟨t',rfl⟩:=ry; exact PySem.EqMixed.ne_bool_str (Zay I q (by simp))
  | _=>exact absurd (show false=true from hs) Bool.false_ne_true
 | int i=>
  obtain ⟨t,rfl⟩:=rx
  cases y with
  | non=>cases ry; exact PySem.EqNone.ne_int_none (Zay I q (by simp))
  | int j=>obtain ⟨t',rfl⟩:=ry; exact ne_int (Zay I q (congrArg not Ze0))
  | str j=>obtain ⟨t',rfl⟩:=ry; exact PySem.EqMixed.ne_int_str (Zay I q (by simp))
  | _=>exact absurd (show false=true from hs) Bool.false_ne_true
 | str i=>
  obtain ⟨t,rfl⟩:=rx
  cases y with
  | non=>cases ry; exact PySem.EqNone.ne_str_none (Zay I q (by simp))
  | bl j=>cases ry; exact PySem.EqMixed.ne_str_bool (Zay I q (by simp))
  | int j=>obtain ⟨t',rfl⟩:=ry; exact PySem.EqMixed.ne_str_int (Zay I q (by simp))
  | str j=>obtain ⟨t',rfl⟩:=ry; exact ne_str (Zay I q (congrArg not Zix))
  | _=>exact absurd (show false=true from hs) Bool.false_ne_true
 | byt i=>
  obtain ⟨t,rfl⟩:=rx
  cases y with
  | byt j=>obtain ⟨t',rfl⟩:=ry; exact PySem.W.ne_bytes (Zay I q (congrArg not Zj6))
  | _=>exact absurd (show false=true from hs) Bool.false_ne_true
 | _=>cases y <;> exact absurd (show false=true from hs) Bool.false_ne_true
theorem Zkg:OpR X (compareOp .Lt) (rI0 fun i j=>.bl (decide (i < j))):=opB0 fun _ _ _ _ _ _ _ q=>lt_int q
theorem Zj3:OpR X (compareOp .LtE) (rI0 fun i j=>.bl (decide (i<=j))):=opB0 fun _ _ _ _ _ _ _ q=>le_int q
theorem Zlh:OpR X (compareOp .Gt) (rI0 fun i j=>.bl (decide (j < i))):=opB0 fun _ _ _ _ _ _ _ q=>gt_int q
theorem Zp1:OpR X (compareOp .GtE) (rI0 fun i j=>.bl (decide (j<=i))):=opB0 fun _ _ _ _ _ _ _ q=>ge_int q
theorem Zj9:OpR X (compareOp .In) (fun x y H Q=>∃ i j,x=.str i/\y=.str j/\Q (.bl (!(Builtin.Str.occurrences j i 0 j.length 1).isEmpty)) H):=by
 intro pins s σ H x y v u Q I rx ry h
 obtain ⟨i,j,rfl,rfl,q⟩:=h
 obtain ⟨t,rfl⟩:=rx
 obtain ⟨t',rfl⟩:=ry
 exact in_str (Zay I q rfl)
theorem Zlx:OpR X (compareOp .Is) (fun x y H Q=>y=.non/\Q (.bl (decide (x=.non))) H):=by
 intro pins s σ H x y v u Q I rx ry h
 obtain ⟨rfl,q⟩:=h
 cases ry
 refine is_none_gen (Zay I q ?_)
 cases x <;> first
  | (cases rx; rfl)
  | (obtain ⟨t,rfl⟩:=rx; rfl)
theorem OpR.or {f:Value->Value->Sem Value} {r r':R2} (h:OpR X f r) (h':OpR X f r'):OpR X f (fun x y H Q=>r x y H Q\/r' x y H Q):=by
 intro pins s σ H x y v u Q I rx ry q
 rcases q with q | q
 ·exact h pins s σ H x y v u Q I rx ry q
 ·exact h' pins s σ H x y v u Q I rx ry q
theorem nomark (b:Expr) {op:CmpOp} (h:op ≠ .In:=by decide) (h2:op ≠ .NotIn:=by decide):behindInMarks op b=false:=by
 have e1:(op == CmpOp.In)=false:=by cases op <;> first | rfl | exact absurd rfl h
 have e2:(op == CmpOp.NotIn)=false:=by cases op <;> first | rfl | exact absurd rfl h2
 cases b <;> simp [behindInMarks,e1,e2]
theorem Zgu {op:CmpOp} {r:R2} (ho:OpR X (compareOp op) r) (ha:PE X a ta) (hb:PE X b tb) (hm:behindInMarks op b=false):PE X (.Compare a [op] [b] pos) (tOp r ta tb):=by
 intro pins s σ H Q I h
 exact wpAny_Compare1 (binT ha hb I h fun v u s2 x y H2 I2 rx ry q=>ho pins s2 σ H2 x y v u Q I2 rx ry q) hm
def tTest (t:TE):TT:=fun σ H Q=>t σ H fun x H'=>∃ k,x=.bl k/\Q k H'
theorem Zaq {op:CmpOp} {r:R2} (ho:OpR X (compareOp op) r) (ha:PE X a ta) (hb:PE X b tb) (hm:behindInMarks op b=false):PT X (.Compare a [op] [b] pos) (tTest (tOp r ta tb)):=by
 intro pins s σ H Q I h
 refine wpAny_isTrue_Compare1 (thn (ha pins s σ H _ I h) fun v s1 ⟨x,H1,I1,r1,q1⟩=>thn (hb pins s1 σ H1 _ I1 q1) fun u s2 ⟨y,H2,I2,r2,q2⟩=>
  thn (ho pins s2 σ H2 x y v u _ I2 r1 r2 q2) fun c s3 ⟨z,H3,I3,r3,k,e,q3⟩=>?_) hm
 subst e
 cases r3
 exact wpAny_truthy_bool ⟨H3,I3,q3⟩
def tChain (r r':R2) (ta tb tc:TE):TE:=fun σ H Q=>ta σ H fun x H1=>tb σ H1 fun y H2=>r x y H2 fun z H3=>∃ k,z=.bl k ∧
 (if k=true then tc σ H3 fun w' H4=>r' y w' H4 Q else Q (.bl false) H3)
theorem Zez {op op':CmpOp} {r r':R2} (ho:OpR X (compareOp op) r) (ho':OpR X (compareOp op') r') (ha:PE X a ta) (hb:PE X b tb) (hc:PE X c tc)
  (hm:lastMarks [op,op'] [b,c]=false:=by with_unfolding_all rfl):PT X (.Compare a [op,op'] [b,c] pos) (tTest (tChain r r' ta tb tc)):=by
 intro pins s σ H Q I h
 refine isTrue_chain (thn (ha pins s σ H _ I h) fun v s1 ⟨x,H1,I1,r1,q1⟩=>test_link (thn (hb pins s1 σ H1 _ I1 q1) fun u s2 ⟨y,H2,I2,r2,q2⟩=>
  thn (ho pins s2 σ H2 x y v u _ I2 r1 r2 q2) fun d s3 ⟨z,H3,I3,r3,k,e,q3⟩=>?_)) hm
 subst e
 cases r3
 refine wpAny_truthy_bool ?_
 cases k with
 | false=>
  obtain ⟨k',e',q'⟩:=q3
  cases e'
  exact ite_ff ⟨H3,I3,q'⟩
 | true=>
  refine ite_tt (test_last (thn (hc pins s3 σ H3 _ I3 q3) fun w' s4 ⟨z',H4,I4,r4,q4⟩=>thn (ho' pins s4 σ H4 y z' u w' _ I4 r2 r4 q4) fun d' s5 ⟨z2,H5,I5,r5,k2,e2,q5⟩=>?_))
  subst e2
  cases r5
  exact wpAny_truthy_bool ⟨H5,I5,q5⟩
def TruV (K:PySem.W.Frag) (x:V) (H:Hp) (k:Bool):Prop:=
 match x with
 | .non=>k=false
 | .bl b=>k=b
 | .int i=>k=(i != 0)
 | .str y=>y.length<=sizeLine/\k=((y.length:Int) != 0)
 | .byt y=>y.size<=sizeLine/\k=((y.size:Int) != 0)
 | .ref p=>(∃ xs,SqL K H p xs/\k = !xs.isEmpty)\/(∃ xs,SqT K H p xs/\k = !xs.isEmpty)\/∃ kvs,H p=some (.dK kvs)/\k = !kvs.isEmpty
 | _=>False
theorem Zhu {κ:Type} {kvs:List (κ × V)} {vs:List (κ × Value)} (r:KV kvs vs):(!vs.isEmpty) = !kvs.isEmpty:=by
 cases r <;> rfl
theorem Zeq {xs:List V} {its:List Value} (r:Vals xs its):(!its.toArray.isEmpty) = !xs.isEmpty:=by
 cases r <;> simp
theorem line63:(sizeLine:Nat) < 2 ^ 63:=by rw [sizeLine_eq]; decide
theorem Zov:TruR X (fun x H Q=>∃ k,TruV X.K x H k/\Q k H):=by
 intro pins s σ H x v Q I rx h
 obtain ⟨k,e,q⟩:=h
 have hl:=line63
 have hs:sizeLine=16777216:=sizeLine_eq
 cases x with
 | non=>
  cases rx
  have e':k=false:=e
  subst e'
  exact truthy_none ⟨H,I,q⟩
 | bl b=>
  cases rx
  have e':k=b:=e
  subst e'
  exact wpAny_truthy_bool ⟨H,I,q⟩
 | int i=>
  obtain ⟨t,rfl⟩:=rx
  have e':k=(i != 0):=e
  subst e'
  exact PySem.P.truthy_int ⟨H,I,q⟩
 | str y=>
  obtain ⟨t,rfl⟩:=rx
  obtain ⟨hy,e'⟩:y.length<=sizeLine/\k=((y.length:Int) != 0):=e
  subst e'
  exact PySem.P.truthy_str (by omega) ⟨H,I.tok _,q⟩
 | byt y=>
  obtain ⟨t,rfl⟩:=rx
  obtain ⟨hy,e'⟩:y.size<=sizeLine/\k=((y.size:Int) != 0):=e
  subst e'
  exact PySem.W.truthy_bytes (by omega) ⟨H,I.tok _,q⟩
 | ref p=>
  cases rx
  have e':(∃ xs,SqL X.K H p xs/\k = !xs.isEmpty)\/(∃ xs,SqT X.K H p xs/\k = !xs.isEmpty)\/∃ kvs,H p=some (.dK kvs)/\k = !kvs.isEmpty:=e
  rcases e' with ⟨xs,hx,e'⟩ | ⟨xs,hx,e'⟩ | ⟨kvs,hx,e'⟩
  ·subst e'
   obtain ⟨its,r,pl,hz⟩:=I.list hx
   have hlen:=r.length
   exact wpAny_truthy_list pl.isList (by simp only [List.size_toArray]; omega) ⟨H,I.tok _,by rw [Zeq r]; exact q⟩
  ·subst e'
   obtain ⟨its,r,pl,hz⟩:=I.tuple hx
   have hlen:=r.length
   exact truthy_tuple pl (by simp only [List.size_toArray]; omega) ⟨H,I.tok _,by rw [Zeq r]; exact q⟩
  ·subst e'
   obtain ⟨hz,hS,vs,r,m⟩:kvs.length<=sizeLine/\(p == sysModules)=false/\∃ vs,KV kvs vs/\s.heap.DictOf (mixKind X.prog X.w) p vs:=I.hok p _ hx
   have hlen:kvs.length=vs.length:=Paired.length r
   exact wpAny_truthy_dict hS m (by omega) ⟨H,I.tok _,by rw [Zhu r]; exact q⟩
 | _=>exact (show False from e).elim
theorem Zkp (ha:PE X a ta) (he:∀ whole,isTrue a X.env whole=(do let v ← whole; standAt a.pos; holding [v] (truthy v))) :
  PT X a (fun σ H Q=>ta σ H fun x H'=>∃ k,TruV X.K x H' k/\Q k H'):=by
 intro pins s σ H Q I h
 exact isTrue_plain (thn (ha pins s σ H _ I h) fun v s1 ⟨x,H1,I1,r1,q1⟩=>Zov pins s1 σ H1 x v Q I1 r1 q1) (he _)
theorem Zbm:OpR X (binaryOp .Add) (fun x y H Q=>∃ i j,x=.str i/\y=.str j/\i.length + j.length<=sizeLine/\Q (.str (i ++ j)) H):=by
 intro pins s σ H x y v u Q I rx ry h
 obtain ⟨i,j,rfl,rfl,hz,q⟩:=h
 obtain ⟨t,rfl⟩:=rx
 obtain ⟨t',rfl⟩:=ry
 exact add_str (fun t' tk=>⟨.str (i ++ j),H,I.tok _,⟨_,rfl⟩,q⟩) hz
theorem vals1 {x:V} {us:List Value} (r:Vals [x] us):∃ u,us=[u]/\RelV x u:=by
 cases r with
 | cons r1 r2=>cases r2; exact ⟨_,rfl,r1⟩
theorem vals2 {x y:V} {us:List Value} (r:Vals [x,y] us):∃ u w',us=[u,w']/\RelV x u/\RelV y w':=by
 cases r with
 | cons r1 r2=>
  cases r2 with
  | cons r3 r4=>cases r4; exact ⟨_,_,rfl,r1,r3⟩
theorem Ze3:CallR X (.builtin "abs") (fun xs H Q=>∃ i,xs=[.int i]/\Q (.int (if i < 0 then -i else i)) H):=by
 intro pins s σ H xs us Q I r h
 obtain ⟨i,rfl,q⟩:=h
 obtain ⟨u,rfl,t,rfl⟩:=vals1 r
 exact call_abs_int fun u tk=>⟨.int (if i < 0 then -i else i),H,I.tok _,⟨_,rfl⟩,q⟩
theorem Zjj (hc:X.calm=true):CallR X (.builtin "max") (fun xs H Q=>∃ i j,xs=[.int i,.int j]/\Q (.int (if j > i then j else i)) H):=by
 intro pins s σ H xs us Q I r h
 obtain ⟨i,j,rfl,q⟩:=h
 obtain ⟨u,w',rfl,⟨t,rfl⟩,⟨t',rfl⟩⟩:=vals2 r
 refine max_two_ints (I.ok.hd hc) fun h' tk k=>⟨_,H,I.kept k,?_,q⟩
 by_cases hj:j > i
 ·rw [if_pos hj,if_pos hj]; exact ⟨_,rfl⟩
 ·rw [if_neg hj,if_neg hj]; exact ⟨_,rfl⟩
theorem Zfy (hc:X.calm=true):CallR X (.builtin "min") (fun xs H Q=>∃ i j,xs=[.int i,.int j]/\Q (.int (if j < i then j else i)) H):=by
 intro pins s σ H xs us Q I r h
 obtain ⟨i,j,rfl,q⟩:=h
 obtain ⟨u,w',rfl,⟨t,rfl⟩,⟨t',rfl⟩⟩:=vals2 r
 refine min_two_ints (I.ok.hd hc) fun h' tk k=>⟨_,H,I.kept k,?_,q⟩
 by_cases hj:j < i
 ·rw [if_pos hj,if_pos hj]; exact ⟨_,rfl⟩
 ·rw [if_neg hj,if_neg hj]; exact ⟨_,rfl⟩
end
end L2
namespace L2
open PySem PySem.Spec PyProof.Rows
structure ObjM (h:Heap) (x dx C:Addr) (mA:Str->Option Value):Prop where
 obj:h.get? x=some (PySem.W.instObj C dx)
 ns:h.Ns1 dx mA
 ne:dx ≠ x
theorem Zkc {h:Heap} {dx:Addr} {mA:Str->Option Value} (n:h.Ns1 dx mA):∃ od,h.get? dx=some od/\∀ name,PySem.W.lookIn name od=some (mA name):=by
 obtain ⟨o,es,ep,ho,hd,hk,_,hm⟩:=n
 refine ⟨o,ho,fun name=>?_⟩
 have e:=hm name
 unfold nsFind findBy at e
 rw [<- Array.find?_toList] at e
 unfold PySem.W.lookIn
 rw [hd]
 dsimp only
 split
 ·rename_i y q
  rw [q] at e
  exact congrArg some e
 ·rename_i q
  rw [q] at e
  have a:es.toList.any (·.refKey)=false:=by
   rw [List.any_eq_false]
   intro y hy
   obtain ⟨z,t,hkey⟩:=hk y (Array.mem_toList_iff.mp hy)
   simp [DictEntry.refKey,hkey]
  have a':¬ es.toList.any (·.refKey)=true:=by rw [a]; exact Bool.false_ne_true
  rw [if_neg a']
  exact congrArg some e
theorem ObjM.look {h:Heap} {x dx C:Addr} {mA:Str->Option Value} (I:ObjM h x dx C mA):∃ od,PySem.W.InstAt h x (PySem.W.instObj C dx) C (some od)/\∀ name,PySem.W.lookIn name od=some (mA name):=
 let ⟨od,ho,hl⟩:=Zkc I.ns
 ⟨od,⟨I.obj,rfl,rfl,ho⟩,hl⟩
theorem RelO.some_of {v:V} {o:Option Value} (r:RelO (some v) o):∃ u,o=some u/\RelV v u:=by
 cases o with
 | none=>exact (show False from r).elim
 | some u=>exact ⟨u,rfl,r⟩
section
variable {P:Program} {w:World} {H H':Hp} {h h':Heap} {a C dx:Addr} {fs fs':List (Str × V)}
theorem Znu (hok:HOk P w H h) (e:H a=some (.ins C dx fs)):∃ mA,ObjM h a dx C mA/\(∀ f,RelO (fs.lookup f) (mA f))/\PySem.Within mA (fs.map (·.1))/\fs.length<=1000/\H dx=some (.own a):=by
 obtain ⟨d,z,ne,ob,mA,n,r,q⟩:=(show ObjOk P w H h a (.ins C dx fs) from hok a _ e)
 exact ⟨mA,⟨ob,n,ne⟩,r,q,z,d⟩
end
structure Cls (K:PySem.W.Frag) (C:Addr):Prop where
 pg:PySem.W.plainGet K C Str.empty=true
 hd:PySem.W.hasDictIn K C=true
 po:PySem.W.plainOver K C=true
 sa:PySem.W.findIn K (.ref C) "__setattr__" = some (some (.builtin "object.__setattr__"))
theorem Cls.get {K:PySem.W.Frag} {C:Addr} (c:Cls K C) (f:Str):PySem.W.plainGet K C f=true:=c.pg
section
variable {X:Cx} {pins:List (Addr × Obj)} {σ:St} {H:Hp} {s:Shared} {a C dx:Addr} {fs:List (Str × V)} {f:Str} {v:V} {A:Around} {E:Value->Shared->Prop}
end
section
variable {X:Cx} {pins:List (Addr × Obj)} {σ:St} {H:Hp} {s:Shared} {A:Around} {E:Value->Shared->Prop} {Q:Value->Shared->Prop} {c:Value} {b:Bool}
inductive TyOf (K:PySem.W.Frag) (H:Hp):V->Value->Prop where
 | non:TyOf K H .non (.type "NoneType")
 | bl (x:Bool):TyOf K H (.bl x) (.type "bool")
 | int (i:Int):TyOf K H (.int i) (.type "int")
 | str (x:Str):TyOf K H (.str x) (.type "str")
 | flt (x:UInt64):TyOf K H (.flt x) (.type "float")
 | lst {a:Addr} {xs:List V} (e:H a=some (.lst xs)):TyOf K H (.ref a) (.type "list")
 | frz {a:Addr} {o:Obj} {xs:List V} (e:H a=some (.frz o (.lst xs))):TyOf K H (.ref a) (.type "list")
 | tup {a:Addr} {xs:List V} (e:H a=some (.tup xs)):TyOf K H (.ref a) (.type "tuple")
 | dK {a:Addr} {kvs:List (Key × V)} (e:H a=some (.dK kvs)):TyOf K H (.ref a) (.type "dict")
 | dT {a:Addr} {kvs:List (List Key × V)} (e:H a=some (.dT kvs)):TyOf K H (.ref a) (.type "dict")
 | ins {a C dx:Addr} {fs:List (Str × V)} (e:H a=some (.ins C dx fs)) (cl:Cls K C) (ha:PySem.W.findIn K (.ref C) "__class__" = some (some (.builtin "object.__class__")))
   (hn:PySem.W.specialIn K (.builtin "object.__class__") "__get__" = some (some (.builtin "getset_descriptor.__get__"))) (htk:PySem.W.takesIn K (.builtin "object.__class__")=some true)
   (hm:PySem.W.mroIn K C (.type "object")=some true):TyOf K H (.ref a) (.ref C)
theorem Zi7 {x:V} {u t:Value} (I:Inv X pins σ H s) (rx:RelV x u) (ty:TyOf X.K H x t) (e:PySem.W.kitOne X.K t c=some b) (h:∀ tk,Q (.bool b) { s with toks:=tk }) :
  wpAny (model X.prog X.w) A (call (.builtin "isinstance") [u,c]) Q E s:=by
 cases ty with
 | non=>cases (show u=Value.none from rx); exact PySem.W.kia_one PySem.W.kitx_none I.kIn True.intro e (fun z=>nomatch z) h
 | bl y=>cases (show u=Value.bool y from rx); exact PySem.W.kia_one PySem.W.kitx_bool I.kIn True.intro e (fun z=>nomatch z) h
 | int i=>obtain ⟨t,q⟩:=(show ∃ t,u=Value.int i t from rx); cases q; exact PySem.W.kia_one PySem.W.kitx_int I.kIn True.intro e (fun z=>nomatch z) h
 | str y=>obtain ⟨t,q⟩:=(show ∃ t,u=Value.str y t from rx); cases q; exact PySem.W.kia_one PySem.W.kitx_str I.kIn True.intro e (fun z=>nomatch z) h
 | flt y=>obtain ⟨t,q⟩:=(show ∃ t,u=Value.float y t from rx); cases q; exact PySem.W.kia_one PySem.W.kitx_float I.kIn True.intro e (fun z=>nomatch z) h
 | @lst a xs ea=>
  cases (show u=Value.ref a from rx)
  obtain ⟨_,_,n,_,h1⟩:=(show ObjOk X.prog X.w H s.heap a (.lst xs) from I.hok a _ ea)
  exact PySem.W.kia_one PySem.W.kitx_list I.kIn ⟨_,h1,rfl⟩ e (fun z=>nomatch z) h
 | @frz a ob xs ea=>
  cases (show u=Value.ref a from rx)
  obtain ⟨_,_,_,n,_,h1⟩:=(show ObjOk X.prog X.w H s.heap a (.frz ob (.lst xs)) from I.hok a _ ea)
  exact PySem.W.kia_one PySem.W.kitx_list I.kIn ⟨_,h1,rfl⟩ e (fun z=>nomatch z) h
 | @tup a xs ea=>
  cases (show u=Value.ref a from rx)
  obtain ⟨_,_,_,p⟩:=(show ObjOk X.prog X.w H s.heap a (.tup xs) from I.hok a _ ea)
  obtain ⟨o,h1,⟨h2,_⟩,_⟩:=p
  exact PySem.W.kia_one PySem.W.kitx_tuple I.kIn ⟨o,h1,h2⟩ e (fun z=>nomatch z) h
 | @dK a kvs ea=>
  cases (show u=Value.ref a from rx)
  obtain ⟨_,_,vs,_,p⟩:=(show ObjOk X.prog X.w H s.heap a (.dK kvs) from I.hok a _ ea)
  obtain ⟨o,es,ep,h1,h2,_⟩:=p
  exact PySem.W.kia_one PySem.W.kitx_dict I.kIn ⟨o,h1,h2.1⟩ e (fun z=>nomatch z) h
 | @dT a kvs ea=>
  cases (show u=Value.ref a from rx)
  obtain ⟨_,_,xs,_,o,es,ep,h1,h2,_⟩:=(show ObjOk X.prog X.w H s.heap a (.dT kvs) from I.hok a _ ea)
  exact PySem.W.kia_one PySem.W.kitx_dict I.kIn ⟨o,h1,h2.1⟩ e (fun z=>nomatch z) h
 | @ins a C dx fs ea cl ha hn htk hm=>
  cases (show u=Value.ref a from rx)
  obtain ⟨mA,O,_⟩:=Znu I.hok ea
  obtain ⟨od,J,_⟩:=O.look
  exact PySem.W.kia_one (PySem.W.kitx_own (cl.get _) cl.hd ha hn htk hm) I.kIn J e (fun z=>nomatch z) h
end
end L2
namespace L2
open PySem PySem.Spec PyProof.Rows
structure Room (k:Nat) (A:Around):Prop where
 hd:A.handled=none
 dp:A.depth + 3 * k + 5 < recursionLimit
 un:A.units + 16 * k + 200 < cLine
 gd:A.guards=some []
theorem Room.mono {j k:Nat} {A:Around} (r:Room k A) (h:j<=k):Room j A:=⟨r.hd,by have:=r.dp; omega,by have:=r.un; omega,r.gd⟩
theorem Room.deeper {k:Nat} {A:Around} (r:Room (k + 1) A) (env:Env):Room k (A.deeper env):=
 ⟨r.hd,by have:=r.dp; show A.depth + 1 + 3 * k + 5 < _; omega,by have:=r.un; show A.units + 3 + 16 * k + 200 < _; omega,r.gd⟩
theorem Room.depth {k:Nat} {A:Around} (r:Room k A):A.depth < recursionLimit:=by have:=r.dp; omega
theorem Room.units {k:Nat} {A:Around} (r:Room k A):A.units + 64 < cLine:=by have:=r.un; omega
def tNil:TA:=fun _ H Q=>Q [] H
def tCons (ta:TE) (tr:TA):TA:=fun σ H Q=>ta σ H fun x H1=>tr σ H1 fun xs H2=>Q (x :: xs) H2
section
variable {X:Cx} {e:Expr} {es:List Expr} {te:TE} {t:TA} {pos:Pos}
theorem Zad:PA X [] tNil:=fun _ _ _ _ H Q I h=>Calls.spliced_nil ⟨[],H,I,.nil,h⟩
theorem Zaa (ha:PE X e te) (hr:PA X es t) (hs:starEach (e :: es) X.env=(false,eval e X.env) :: starEach es X.env:=by rfl):PA X (e :: es) (tCons te t):=by
 intro pos pins s σ H Q I h
 rw [hs]
 show wpAny _ _ (spliced ((false,eval e X.env) :: backTo pos (starEach es X.env))) _ _ s
 refine Calls.spliced_cons (thn (ha pins s σ H _ I h) fun u s1 ⟨x,H1,I1,r1,q1⟩=>?_)
 exact thn (hr pos pins s1 σ H1 _ I1 q1) fun us s2 ⟨xs,H2,I2,r2,q2⟩=>⟨x :: xs,H2,I2,.cons r1 r2,q2⟩
def tTup (t:TA):TE:=fun σ H Q=>t σ H fun xs H1=>xs.length<=sizeLine/\∀ p,H1 p=none->Q (.ref p) (upd H1 p (.tup xs))
def tLst (t:TA):TE:=fun σ H Q=>t σ H fun xs H1=>xs.length<=sizeLine/\∀ p,H1 p=none->Q (.ref p) (upd H1 p (.lst xs))
theorem Zbg {x1} (h:PA X es t):PE X (.Tuple es x1 pos) (tTup t):=by
 intro pins s σ H Q I hq
 refine wpAny_Tuple_spliced (thn (h pos pins s σ H _ I hq) fun us s1 ⟨xs,H1,I1,r,z,q⟩=>⟨by rw [<- r.length]; exact z,?_⟩)
 have hf:H1 s1.heap.objs.size=none:=I1.hok.fresh (Nat.le_refl _)
 refine ⟨.ref s1.heap.objs.size,upd H1 s1.heap.objs.size (.tup xs),I1.laid (t':=s1.toks) (fun b u e=>Heap.get?_push_of_some _ e) (Nat.le_refl _) ?_,rfl,q _ hf⟩
 exact ⟨z,us,r,⟨_,Heap.get?_push_size _ rfl,⟨rfl,_,rfl⟩,rfl⟩⟩
theorem Zd3 (h:PA X es t):PE X (.List es pos) (tLst t):=by
 intro pins s σ H Q I hq
 refine wpAny_List_spliced (thn (h pos pins s σ H _ I hq) fun us s1 ⟨xs,H1,I1,r,z,q⟩=>⟨by rw [<- r.length]; exact z,?_⟩)
 have hf:H1 s1.heap.objs.size=none:=I1.hok.fresh (Nat.le_refl _)
 refine ⟨.ref s1.heap.objs.size,upd H1 s1.heap.objs.size (.lst xs),I1.laid (t':=s1.toks) (fun b u e=>Heap.get?_push_of_some _ e) (Nat.le_refl _) ?_,rfl,q _ hf⟩
 exact ⟨z,us,0,r,Heap.get?_push_size _ rfl⟩
end
abbrev Sp:=List V->Hp->VK->XK->Prop
abbrev CXT:=List Env->Hp->Shared->XK->Value->Shared->Prop
structure Env0 (P:Program) (w:World) (K:PySem.W.Frag) (mg:Str->Option Value) (base:Heap) (A:Around) (outer:List Env) (s:Shared) (H:Hp):Prop where
 frames:A.frames=some outer
 mod:Mod K mg base
 bs:∀ b o,base.get? b=some o->s.heap.get? b=some o/\H b=none
 bsz:base.objs.size<=s.heap.objs.size
 funs:s.heap.FunFrames base outer
 frf:∀ b ∈ frs outer,H b=none
 hok:HOk P w H s.heap
 bare:AllBare s.gens
def CE (outer:List Env) (P:Program) (w:World) (H:Hp) (s:Shared) (Q:VK) (u:Value) (s':Shared):Prop:=
 ∃ v H',s'.os=s.os/\AllBare s'.gens/\Un (frs outer) [] H H' s.heap s'.heap/\HOk P w H' s'.heap/\RelV v u/\Q v H'
def CR (CX:CXT) (outer:List Env) (P:Program) (w:World) (H:Hp) (s:Shared) (Q:VK) (E:XK) (r:Result) (s':Shared):Prop:=
 match r with
 | .ok (.ret u)=>CE outer P w H s Q u s'
 | .ok _=>False
 | .error e=>CX outer H s E e s'
structure FnOk (P:Program) (w:World) (K:PySem.W.Frag) (mg:Str->Option Value) (base:Heap) (CX:CXT) (k:Nat) (f:Addr) (fd:FuncData) (ps:List Str) (sp:Sp):Prop where
 len:∀ vs H Q E,sp vs H Q E->vs.length=ps.length
 run:∀ (A:Around) (outer:List Env) (s:Shared) (H:Hp) (args:Args) (us:List Value) (vs:List V) (Q:VK) (E:XK),Room k A->Env0 P w K mg base A outer s H->BindsTo s fd args (ps.zip us)->Vals vs us->sp vs H Q E →
  codeAny (model P w) A (.call (.ref f) args) (CR CX outer P w H s Q E) s
theorem FnOk.imp {P:Program} {w:World} {K:PySem.W.Frag} {mg:Str->Option Value} {base:Heap} {CX:CXT} {k:Nat} {f:Addr} {fd:FuncData} {ps:List Str} {sp sp':Sp} (F:FnOk P w K mg base CX k f fd ps sp)
  (h:∀ vs H Q E,sp' vs H Q E->sp vs H Q E):FnOk P w K mg base CX k f fd ps sp':=
 ⟨fun vs H Q E q=>F.len vs H Q E (h _ _ _ _ q),fun A outer s H args us vs Q E hr he hb hv hs=>F.run A outer s H args us vs Q E hr he hb hv (h _ _ _ _ hs)⟩
section
variable {X:Cx} {pins:List (Addr × Obj)} {σ:St} {H:Hp} {s s':Shared}
theorem Inv.env0 (I:Inv X pins σ H s):Env0 X.prog X.w X.K X.mg X.base X.A X.stack s H:=
 ⟨I.ok.frames,I.ok.mod,I.bs,Nat.le_trans I.ok.bsz I.sz,I.stack,I.stkFree,I.hok,I.bare⟩
theorem Inv.after {Q:VK} {u:Value} (I:Inv X pins σ H s) (h:CE X.stack X.prog X.w H s Q u s'):EP X pins σ Q u s':=by
 obtain ⟨v,H',os,bare,un,hok,r,q⟩:=h
 obtain ⟨hh,g,d,t,os'⟩:=s'
 obtain rfl:os' = s.os:=os
 exact ⟨v,H',I.call (h':=hh) (g':=g) (d':=d) (t':=t) (ch:=[]) un hok bare (fun b z=>absurd z (by simp)),r,q⟩
end
def tCall (sp:Sp) (dvs:List V) (E:XK) (t:TA):TE:=fun σ H Q=>t σ H fun vs H1=>sp (vs ++ dvs) H1 Q E
def Binds (K:PySem.W.Frag) (fd:FuncData) (ps:List Str) (ds:List Value):Prop:=
 ∀ (s:Shared) (us:List Value),K.In s.heap->(us ++ ds).length=ps.length->BindsTo s fd ⟨us,[]⟩ (ps.zip (us ++ ds))
theorem Binds.all {K:PySem.W.Frag} {fd:FuncData} {ps:List Str} (h:∀ us:List Value,us.length=ps.length->bindArgs fd ⟨us,[]⟩ = pure (ps.zip us)):Binds K fd ps []:=fun s us _ hl=>by
 rw [List.append_nil] at hl ⊢
 exact .of_eq (h us hl)
def Passes (CX:CXT) (X:Cx) (E:XK):Prop:=∀ (pins:List (Addr × Obj)) (σ:St) (H:Hp) (s:Shared) (e:Value) (s':Shared),Inv X pins σ H s->CX X.stack H s E e s' -> X.xe e s'
section
variable {X:Cx} {CX:CXT} {k:Nat} {f C:Addr} {fd:FuncData} {ps:List Str} {sp:Sp} {dvs:List V} {ds:List Value} {E:XK} {x m:Str} {p pos apos:Pos} {e o:Expr} {es:List Expr} {ta:TE} {t:TA}
theorem Zon {pins:List (Addr × Obj)} {σ:St} {H:Hp} {s:Shared} {Q:VK} {us:List Value} {vs:List V} (F:FnOk X.prog X.w X.K X.mg X.base CX k f fd ps sp) (hr:Room k X.A) (hb:Binds X.K fd ps ds) (hd:Vals dvs ds) (hx:Passes CX X E)
  (I:Inv X pins σ H s) (r:Vals vs us) (h:sp (vs ++ dvs) H Q E):wpAny (model X.prog X.w) X.A (call (.ref f) us) (EP X pins σ Q) X.xe s:=by
 have r2:Vals (vs ++ dvs) (us ++ ds):=r.append hd
 have hl:(us ++ ds).length=ps.length:=by rw [<- r2.length]; exact F.len _ _ _ _ h
 refine wpAny_call (codeAny_mono (F.run X.A X.stack s H ⟨us,[]⟩ (us ++ ds) (vs ++ dvs) Q E hr I.env0 (hb s us I.kIn hl) r2 h) fun r s' hq=>?_)
 cases r with
 | error e=>exact hx pins σ H s e s' I hq
 | ok fl=>
  cases fl with
  | ret u=>exact I.after hq
  | next=>exact False.elim hq
  | brk=>exact False.elim hq
  | cont=>exact False.elim hq
theorem Zmj (F:FnOk X.prog X.w X.K X.mg X.base CX k f fd ps sp) (hr:Room k X.A) (hg:Gl X x) (hm:X.mg x=some (.ref f)) (hk:PySem.W.keepIn X.K (.ref f)=true) (hb:Binds X.K fd ps ds) (hd:Vals dvs ds) (hx:Passes CX X E)
  (ha:PA X (e :: es) t) (hdb:(x == ("__debug__":Str))=false:=by decide) (he:starEach (e :: es) X.env=(false,eval e X.env) :: starEach es X.env:=by rfl) (hpl:(backTo pos (starEach es X.env)).any (·.1)=false:=by rfl) :
  PE X (.Call (.Name x p) (e :: es) [] pos) (tCall sp dvs E t):=by
 intro pins s σ H Q I h
 refine wpAny_Call_Name_kw (Zjl I hg hm ?_ hdb)
 refine PySem.W.callWith_K (h₀:=X.base) I.ok.mod.kin hk (thn (ha pos pins s σ H _ I h) fun us s1 ⟨vs,H1,I1,r,q⟩=>⟨I1.kIn,?_⟩) he hpl
 exact Zon F hr hb hd hx I1 r q
end
def PK (X:Cx) (kws:List Keyword) (t:TA):Prop:=
 ∀ (pos:Pos) (pins:List (Addr × Obj)) (s:Shared) (σ:St) (H:Hp) (Q:List V->Hp->Prop),Inv X pins σ H s->t σ H Q->wpAny (model X.prog X.w) X.A (evalAll ((backToKw pos (keywordEach kws X.env)).map (·.2))) (AP X pins σ Q) X.xe s
section
variable {X:Cx} {CX:CXT} {k:Nat} {f C:Addr} {fd:FuncData} {ps ks:List Str} {sp:Sp} {E:XK} {x m:Str} {p pos apos kpos:Pos} {e o:Expr} {es:List Expr} {kws:List Keyword} {te ta:TE} {t tk:TA} {nm:Option Str}
theorem Zn5:PK X [] tNil:=fun _ _ _ _ H Q I h=>wpAny_evalAll_nil ⟨[],H,I,.nil,h⟩
theorem Zmt (ha:PE X e te) (hr:PK X kws t):PK X (⟨nm,e,kpos⟩ :: kws) (tCons te t):=by
 intro pos pins s σ H Q I h
 show wpAny _ _ (evalAll ((do let v ← eval e X.env; standAt pos; pure v) :: (backToKw pos (keywordEach kws X.env)).map (·.2))) _ _ s
 refine wpAny_evalAll_cons (wpAny_bind (thn (ha pins s σ H _ I h) fun u s1 ⟨x,H1,I1,r1,q1⟩=>wpAny_bind (wpAny_standAt (wpAny_pure ?_))))
 exact thn (hr pos pins s1 σ H1 _ I1 q1) fun us s2 ⟨xs,H2,I2,r2,q2⟩=>⟨x :: xs,H2,I2,.cons r1 r2,q2⟩
variable {g:List Value->List Value->List Value} {gV:List V->List V->List V}
end
structure FnScope (N P:List Str) (sc:Scope):Prop where
 kind:sc.kind=.function
 co:sc.isCoroutine=false
 gen:sc.isGenerator=false
 nd:N.Nodup
 pre:N.take P.length=P
 par:∀ x ∈ P,sc.names.lookup x=some .local\/sc.names.lookup x=some .cell
 nofree:∀ y ∈ sc.names,y.2 ≠ .free
theorem Zf8 {kindOf:Str->Option NameKind} {x:Str}:∀ {binds:List (Str × Value)} {m:Str->Option Value},(∀ v,(x,v) ∉ binds)->bindL kindOf binds m x=m x
 | [],_,_=>rfl
 | (n,v) :: r,m,h=>by
  unfold bindL
  rw [Zf8 fun w hw=>h w (List.mem_cons_of_mem _ hw)]
  split
  ·have:x ≠ n:=by rintro rfl; exact h v List.mem_cons_self
   simp [this]
  ·rfl
theorem Zgd {kindOf:Str->Option NameKind} {x:Str}:∀ {binds:List (Str × Value)} {m:Str->Option Value},(∀ v,(x,v) ∉ binds)->bindC kindOf binds m x=m x
 | [],_,_=>rfl
 | (n,v) :: r,m,h=>by
  unfold bindC
  rw [Zgd fun w hw=>h w (List.mem_cons_of_mem _ hw)]
  split
  ·rfl
  ·have:x ≠ n:=by rintro rfl; exact h v List.mem_cons_self
   simp [this]
theorem Zge {kindOf:Str->Option NameKind} {x:Str} {v:Value}:∀ {P:List Str} {vs:List Value} {i:Nat} {m:Str->Option Value},P.Nodup->P[i]? = some x->vs[i]? = some v->kindOf x=some .local →
  bindL kindOf (P.zip vs) m x=some v
 | [],_,_,_,_,h,_,_=>by simp at h
 | _ :: _,[],_,_,_,_,h,_=>by simp at h
 | p :: P,w :: vs,0,m,nd,h1,h2,hk=>by
  simp at h1 h2; subst h1; subst h2
  show bindL kindOf ((p,w) :: P.zip vs) m p=_
  unfold bindL
  rw [Zf8 fun v hv=>(List.nodup_cons.mp nd).1 (List.of_mem_zip hv).1,if_pos hk]
  simp
 | p :: P,w :: vs,i + 1,m,nd,h1,h2,hk=>by
  show bindL kindOf ((p,w) :: P.zip vs) m x=_
  unfold bindL
  exact Zge (i:=i) (List.nodup_cons.mp nd).2 (by simpa using h1) (by simpa using h2) hk
theorem Zfz {kindOf:Str->Option NameKind} {x:Str} {v:Value}:∀ {P:List Str} {vs:List Value} {i:Nat} {m:Str->Option Value},P.Nodup->P[i]? = some x->vs[i]? = some v->kindOf x ≠ some .local →
  bindC kindOf (P.zip vs) m x=some v
 | [],_,_,_,_,h,_,_=>by simp at h
 | _ :: _,[],_,_,_,_,h,_=>by simp at h
 | p :: P,w :: vs,0,m,nd,h1,h2,hk=>by
  simp at h1 h2; subst h1; subst h2
  show bindC kindOf ((p,w) :: P.zip vs) m p=_
  unfold bindC
  rw [Zgd fun v hv=>(List.nodup_cons.mp nd).1 (List.of_mem_zip hv).1,if_neg hk]
  simp
 | p :: P,w :: vs,i + 1,m,nd,h1,h2,hk=>by
  show bindC kindOf ((p,w) :: P.zip vs) m x=_
  unfold bindC
  exact Zfz (i:=i) (List.nodup_cons.mp nd).2 (by simpa using h1) (by simpa using h2) hk
def start (N:List Str) (vs:List V):St:=vs.map some ++ List.replicate (N.length - vs.length) none
def cxOf (CX:CXT) (P:Program) (w:World) (K:PySem.W.Frag) (mg:Str->Option Value) (base:Heap) (N:List Str) (qual:Str) (scope:Scope) (f:Addr) (cd:Value) (A:Around) (outer:List Env) (s:Shared) (H:Hp) (E:XK):Cx where
 prog:=P
 w:=w
 K:=K
 mg:=mg
 base:=base
 A:=A.deeper (envOfC qual scope s.heap.objs.size f cd)
 N:=N
 s₀:=s
 H₀:=H
 env:=envOfC qual scope s.heap.objs.size f cd
 outer:=outer
 stack:=envOfC qual scope s.heap.objs.size f cd :: outer
 ex:=[]
 calm:=true
 fn:=fun _=>true
 pn:=[]
 xe:=fun e s'=>wpAny (model P w) (A.deeper (envOfC qual scope s.heap.objs.size f cd)) (leaving (envOfC qual scope s.heap.objs.size f cd) e) (fun _ s''=>CX outer H s E e s'') (fun e' s''=>CX outer H s E e' s'') s'
theorem Zhs {sc:Scope} {n:Nat} {x:Str} (h:sc.names.lookup x=some .cell):∃ c,(cellsFrom n sc.names []).lookup x=some c:=by
 have q:=PySem.W.cellsFrom_some sc.names n [] (.inl h)
 exact Option.isSome_iff_exists.mp q
theorem Zj7 {CX:CXT} {P:Program} {w:World} {K:PySem.W.Frag} {mg:Str->Option Value} {base:Heap} {N ps:List Str} {qual:Str} {scope:Scope} {f:Addr} {cd:Value} {A:Around} {outer:List Env} {s s1:Shared} {H:Hp} {E:XK} {us:List Value} {vs:List V}
  (S:FnScope N ps scope) (hd:A.handled=none) (e0:Env0 P w K mg base A outer s H) (hl:vs.length=ps.length) (r:Vals vs us)
  (x:InCallC s s.heap.objs.size (bindL (envOfC qual scope s.heap.objs.size f cd).kindOf (ps.zip us) fun _=>none) (cellsFrom (s.heap.objs.size + 1) scope.names []) (bindC (envOfC qual scope s.heap.objs.size f cd).kindOf (ps.zip us) fun _=>none) s1) :
  Inv (cxOf CX P w K mg base N qual scope f cd A outer s H E) [] (start N vs) H s1:=by
 have hpl:ps.length<=N.length:=by have:=congrArg List.length S.pre; rw [List.length_take] at this; omega
 obtain ⟨h1,tk,rfl,hk⟩:=x.done
 have noA:∀ b:Addr,b ∉ (cxOf CX P w K mg base N qual scope f cd A outer s H E).ex:=fun b z=>absurd (show b ∈ ([]:List Addr) from z) (by simp)
 refine ⟨⟨e0.mod,S.kind,rfl,rfl,Nat.le_refl _,fun y z c h1 h2=>?_,fun y hy=>?_,fun y c _ h=>?_,fun _=>hd,Around.frames_deeper e0.frames,.inr ⟨rfl,rfl⟩,fun b z=>absurd z (noA b),e0.bs,e0.bsz,fun b _ _=>noA b,fun b z=>absurd z (noA b),e0.funs,e0.frf⟩,
  rfl,e0.bare,Un.kept hk,⟨_,x.toInCall.ns,fun i y v h1 h2 h3=>?_⟩,fun y c h=>⟨_,x.cell y c h⟩,e0.hok.fresh (Nat.le_refl _),fun y c h=>?_,fun p hp=>absurd (show p ∈ ([]:List (Addr × Obj)) from hp) (by simp),e0.hok.kept hk,?_⟩
 ·exact name_of_addr x.apart (PySem.mem_of_lookup h1) (PySem.mem_of_lookup h2)
 ·have hy:scope.names.lookup y=some .cell\/scope.names.lookup y=some .free:=hy
  rcases hy with hy | hy
  ·exact Zhs hy
  ·exact absurd rfl (S.nofree _ (PySem.mem_of_lookup hy))
 ·exact Nat.le_of_lt (x.above y c (PySem.mem_of_lookup h))
 ·have hi:i < vs.length:=by
   unfold start at h2
   by_cases hi:i < vs.length
   ·exact hi
   ·rw [List.getElem?_append_right (by simpa using hi)] at h2
    rw [List.getElem?_replicate] at h2
    split at h2 <;> cases h2
  have ha:vs[i]? = some v:=by
   unfold start at h2
   rw [List.getElem?_append_left (by simpa using hi),List.getElem?_map] at h2
   cases e:vs[i]? with
   | none=>rw [e] at h2; cases h2
   | some a=>rw [e] at h2; cases h2; rfl
  obtain ⟨u,hu,rv⟩:=r.get ha
  have hp:ps[i]? = some y:=by
   rw [<- S.pre,List.getElem?_take_of_lt (by omega)]; exact h1
  have ndP:ps.Nodup:=by rw [<- S.pre]; exact S.nd.sublist (List.take_sublist _ _)
  refine ⟨u,rv,?_⟩
  rcases S.par y (List.mem_of_getElem? hp) with k | k
  ·exact .inl ⟨k,Zge ndP hp hu k⟩
  ·obtain ⟨c,e⟩:=Zhs (n:=s.heap.objs.size + 1) k
   refine .inr ⟨.inl k,c,e,?_⟩
   have q:=x.cell y c e
   rw [Zfz ndP hp hu (by show scope.names.lookup y ≠ _; rw [k]; decide)] at q
   exact q
 ·exact e0.hok.fresh (Nat.le_of_lt (x.above y c (PySem.mem_of_lookup h)))
 ·unfold start
  show _=N.length
  rw [List.length_append,List.length_map,List.length_replicate]
  omega
theorem Zp2 {CX:CXT} {P:Program} {w:World} {K:PySem.W.Frag} {mg:Str->Option Value} {base:Heap} {k:Nat} {f:Addr} {name qual:Str} {params:Arguments} {body:List Stmt} {scope:Scope} {dV kV doc pm cdv ct oc:Value} {an od:Option Addr}
  {osl:Array (Option Value)} {N ps:List Str} {sp:Sp} (lk:K.lookup f=some ⟨oc,od,.func (PySem.W.fnOf name qual params body scope dV kV doc pm an cdv ct),osl⟩) (hcd:PySem.W.codeIn K cdv qual=true) (S:FnScope N ps scope)
  (len:∀ vs H Q E,sp vs H Q E->vs.length=ps.length)
  (hbody:∀ (A:Around) (outer:List Env) (s:Shared) (H:Hp) (vs:List V) (Q:VK) (E:XK),Room k (A.deeper (envOfC qual scope s.heap.objs.size f cdv))->sp vs H Q E →
   ∃ t,PSs (cxOf CX P w K mg base N qual scope f cdv A outer s H E) body t/\t { nx:=fun _ H'=>Q .non H',rt:=Q } (start N vs) H) :
  FnOk P w K mg base CX (k + 1) f (PySem.W.fnOf name qual params body scope dV kV doc pm an cdv ct) ps sp:=by
 refine ⟨len,fun A outer s H args us vs Q E hr e0 hb r hsp=>?_⟩
 have hl:=len _ _ _ _ hsp
 have KX:K.In s.heap:=e0.mod.kin.keeps fun b o e=>(e0.bs b o e).1
 have lim:s.heap.NoLimit:=e0.mod.nolimit.keeps fun b o e=>(e0.bs b o e).1
 have hkind:∀ y ∈ ps.zip us,scope.names.lookup y.1=some .local\/(scope.names.lookup y.1=some .cell/\((cellsFrom (s.heap.objs.size + 1) scope.names []).lookup y.1).isSome=true):=fun ⟨n,v⟩ hy=>by
  rcases S.par n (List.of_mem_zip hy).1 with q | q
  ·exact .inl q
  ·exact .inr ⟨q,PySem.W.cellsFrom_some _ _ _ (.inl q)⟩
 refine codeAny_call_function hr.depth (KX _ _ lk) rfl S.co S.gen rfl (PySem.W.codeRec_of KX hcd) (hb _ _ _ _ ?_)
 refine wpAny_newFunctionEnv_cells S.kind hkind fun env he s1 x=>?_
 subst he
 refine ⟨lim.keeps x.toInCall.keep,codeAny_func ?_⟩
 obtain ⟨t,ht,hq⟩:=hbody A outer s H vs Q E (hr.deeper _) hsp
 have I:Inv (cxOf CX P w K mg base N qual scope f cdv A outer s H E) [] (start N vs) H s1:=Zj7 S hr.hd e0 hl r x
 refine wpAny_mono (ht [] s1 (start N vs) H _ I hq) (fun fl s' hs=>?_) fun e s' hs=>hs
 have fin:∀ {σ':St} {H':Hp} {v:V} {u:Value},Inv (cxOf CX P w K mg base N qual scope f cdv A outer s H E) [] σ' H' s' -> RelV v u->Q v H' -> CE outer P w H s Q u s':=
  fun {σ' H' v u} J rv q=>⟨v,H',J.os,J.bare,J.base,J.hok,rv,q⟩
 cases fl with
 | ret u=>
  obtain ⟨v,σ',H',J,rv,q⟩:=hs
  exact fin J rv q
 | next=>
  obtain ⟨σ',H',J,q⟩:=hs
  exact fin (v:=V.non) (u:=Value.none) J rfl q
 | brk=>
  obtain ⟨_,_,_,q⟩:=hs
  exact False.elim q
 | cont=>
  obtain ⟨_,_,_,q⟩:=hs
  exact False.elim q
end L2
namespace L2
open PySem PySem.Spec PyProof.Rows
section
variable {X:Cx} {x:Str} {p pos:Pos} {e:Expr} {es:List Expr} {t:TA} {id T:String} {r:List V->Hp->VK->Prop}
def tCB (r:List V->Hp->VK->Prop) (t:TA):TE:=fun σ H Q=>t σ H fun vs H1=>r vs H1 Q
theorem Zak (hc:CallR X (.builtin id) r) (hg:Gl X x) (hm:X.mg x=none) (hv:bootBuiltins x=some (.builtin id)) (ha:PA X (e :: es) t) (hn:x ≠ "__name__":=by decide) (hdb:(x == ("__debug__":Str))=false:=by decide)
  (he:starEach (e :: es) X.env=(false,eval e X.env) :: starEach es X.env:=by rfl) (hpl:(backTo pos (starEach es X.env)).any (·.1)=false:=by rfl):PE X (.Call (.Name x p) (e :: es) [] pos) (tCB r t):=by
 intro pins s σ H Q I h
 refine wpAny_Call_Name_kw (Zd0 I hg hm hv ?_ hn hdb)
 exact PyProof.Rows.callWith_builtin1 (thn (ha pos pins s σ H _ I h) fun us s1 ⟨vs,H1,I1,r1,q1⟩=>hc pins s1 σ H1 vs us Q I1 r1 q1) he hpl
theorem Za1 (hc:CallR X (.type T) r) (hg:Gl X x) (hm:X.mg x=none) (hv:bootBuiltins x=some (.type T)) (ha:PA X (e :: es) t) (hn:x ≠ "__name__":=by decide) (hdb:(x == ("__debug__":Str))=false:=by decide)
  (he:starEach (e :: es) X.env=(false,eval e X.env) :: starEach es X.env:=by rfl) (hpl:(backTo pos (starEach es X.env)).any (·.1)=false:=by rfl):PE X (.Call (.Name x p) (e :: es) [] pos) (tCB r t):=by
 intro pins s σ H Q I h
 refine wpAny_Call_Name_kw (Zd0 I hg hm hv ?_ hn hdb)
 exact PyProof.Rows.callWith_type1 (thn (ha pos pins s σ H _ I h) fun us s1 ⟨vs,H1,I1,r1,q1⟩=>hc pins s1 σ H1 vs us Q I1 r1 q1) he hpl
end
end L2
namespace HT
open PySem PyProof.Rows
section
open PySem.SeqAt
open PySem.AutoSeq1 (wpAny_loadPart')
open PySem.MeetsSeq PySem.MeetsSeq2 PySem.MeetsSeq3
end
section
variable {prog:Program} {w:World} {A:Around} {E:Value->Shared->Prop} {s:Shared}
theorem cat_tup {t b:Addr} {vs ws:List Value} {Q:Value->Shared->Prop} (ht:IsTup s.heap t vs.toArray) (hb:IsTup s.heap b ws.toArray) (hv:vs ≠ [])
  (h1:ws=[]->Q (.ref t) s) (h2:ws ≠ []->Q (.ref s.heap.objs.size) { s with heap:=s.heap.push { cls:=.type "tuple",data:=.seq (vs ++ ws).toArray } })
  (hsz:vs.length + ws.length<=sizeLine):wpAny (model prog w) A (binaryOp .Add (.ref t) (.ref b)) Q E s:=by
 obtain ⟨⟨cls,dd,data,sl⟩,ho,hc,n,hd⟩:=id ht
 obtain ⟨⟨cls2,dd2,data2,sl2⟩,ho2,hc2,n2,hd2⟩:=id hb
 simp only at hc hd hc2 hd2
 subst hc hd hc2 hd2
 have e:vs.toArray ++ ws.toArray=(vs ++ ws).toArray:=by simp
 by_cases hw:ws=[]
 ·exact concat_meets ⟨_,ho,rfl⟩ ⟨_,ho2,rfl⟩ noFill_tuple_add seq_tuple_add PySem.F.slot_tuple_add PySem.F.entry_tuple_add (PySem.F.args_tuple_add_2 _ _)
   (tuple_addW1 t b vs.toArray ws.toArray n n2 dd dd2 sl sl2 (by simpa using hv) (by simp [hw])) ⟨ho,ho2,h1 hw⟩
 ·refine concat_meets ⟨_,ho,rfl⟩ ⟨_,ho2,rfl⟩ noFill_tuple_add seq_tuple_add PySem.F.slot_tuple_add PySem.F.entry_tuple_add (PySem.F.args_tuple_add_2 _ _)
   (tuple_addW2 t b vs.toArray ws.toArray n n2 dd dd2 sl sl2 (by simpa using hv) (by simpa using hw) (by rw [List.size_toArray,List.size_toArray]; exact hsz)) ⟨ho,ho2,?_⟩
  rw [e]
  exact h2 hw
def sIx (n d:Nat):Option Int->Nat
 | none=>d
 | some v=>if v < 0 then (v + (n:Int)).toNat else min v.toNat n
theorem sIx_none (n d:Nat):sIx n d none=d:=rfl
theorem sIx_nat (n d k:Nat):sIx n d (some (k:Int))=min k n:=by
 show (if (k:Int) < 0 then ((k:Int) + (n:Int)).toNat else min (k:Int).toNat n)=min k n
 rw [if_neg (by omega),Int.toNat_natCast]
theorem Zo7 (n d:Nat) (hd:d<=n) (o:Option Int):sIx n d o<=n:=by
 cases o with
 | none=>exact hd
 | some v=>
  show (if v < 0 then (v + (n:Int)).toNat else min v.toNat n)<=n
  by_cases hv:v < 0
  ·rw [if_pos hv]; omega
  ·rw [if_neg hv]; exact Nat.min_le_right _ _
theorem Ziz (v:Int) (n d:Nat):(if v < 0 then max (v + (n:Int)) 0 else min v (n:Int))=((sIx n d (some v):Nat):Int):=by
 show (if v < 0 then max (v + (n:Int)) 0 else min v (n:Int))=(((if v < 0 then (v + (n:Int)).toNat else min v.toNat n):Nat):Int)
 by_cases hv:v < 0
 ·simp only [if_pos hv]; omega
 ·simp only [if_neg hv]; omega
theorem Zhy (lo hi:Option Int) (n:Nat):Builtin.Slice.sliceAdjust lo hi 1 (n:Int)=(((sIx n 0 lo:Nat):Int),((sIx n n hi:Nat):Int)):=by
 have h1:¬ ((1:Int) < 0):=by omega
 unfold Builtin.Slice.sliceAdjust
 simp only [h1,if_false]
 refine Prod.ext ?_ ?_
 ·cases lo with
  | none=>rfl
  | some v=>exact Ziz v n 0
 ·cases hi with
  | none=>rfl
  | some v=>exact Ziz v n n
theorem Zhw (i j:Nat):Builtin.Slice.slicePlaces (i:Int) (j:Int) 1=j - i:=by
 unfold Builtin.Slice.slicePlaces
 have h1:(1:Int) > 0:=by omega
 simp only [h1,if_true,Int.ediv_one]
 split <;> omega
theorem Zeo {v:Value} {o:Option Int} {Q:Option Int->Shared->Prop} (p:IsPart v o) (h:Q o s):wpAny (model prog w) A (Builtin.Slice.slicePartIndex v) Q E s:=by
 cases p with
 | none=>exact slicePart_none h
 | int i t=>exact slicePart_int h
theorem Zcg {sl:Addr} {vl vu:Value} {lo hi:Option Int} {n:Nat} {Q:Int × Int × Nat->Shared->Prop} (hs:s.heap.IsSliceOf sl vl vu .none) (pl:IsPart vl lo) (pu:IsPart vu hi)
  (h:Q (((sIx n 0 lo:Nat):Int),1,sIx n n hi - sIx n 0 lo) s):wpAny (model prog w) A (Builtin.Slice.sliceApplied (.ref sl) (pure (n:Int))) Q E s:=by
 obtain ⟨os,hos,hcs,hds⟩:=id hs
 unfold Builtin.Slice.sliceApplied Builtin.Slice.sliceFields
 refine wpAny_bind (wpAny_bind (wpAny_field hos hds (x:=vl) rfl (wpAny_bind (wpAny_field hos hds (x:=vu) rfl (wpAny_bind (wpAny_field hos hds (x:=.none) rfl (wpAny_pure ?_)))))))
 refine wpAny_bind (slicePart_none ?_)
 show wpAny _ _ (if ((1:Int) == 0)=true then _ else _) _ _ s
 rw [if_neg (by decide)]
 refine wpAny_bind (Zeo pl (wpAny_bind (Zeo pu (wpAny_bind (wpAny_pure ?_)))))
 show wpAny _ _ (match Builtin.Slice.sliceAdjust lo hi 1 (n:Int) with | (lo,hi)=>pure (lo,(1:Int),Builtin.Slice.slicePlaces lo hi 1)) _ _ s
 rw [Zhy lo hi n]
 show wpAny _ _ (pure (((sIx n 0 lo:Nat):Int),(1:Int),Builtin.Slice.slicePlaces ((sIx n 0 lo:Nat):Int) ((sIx n n hi:Nat):Int) 1)) _ _ s
 rw [Zhw]
 exact wpAny_pure h
theorem Zk2 (xs:Array Value) (i k:Nat):((List.range k).filterMap fun (m:Nat)=>xs[((i:Int) + (m:Int) * 1).toNat]?).toArray=((xs.toList.drop i).take k).toArray:=by
 have e:(fun (m:Nat)=>xs[((i:Int) + (m:Int) * 1).toNat]?)=fun m=>xs[i + m]?:=by
  funext m
  have:((i:Int) + (m:Int) * 1).toNat=i + m:=by omega
  rw [this]
 rw [e]
 have:=pick_run xs i k
 rw [List.filterMap_map] at this
 have e2:((fun x=>xs[x]?) ∘ fun x=>i + x)=fun m=>xs[i + m]?:=rfl
 rw [e2] at this
 rw [this]
theorem getItem_tuple_cut {t sl:Addr} {items:Array Value} {vl vu:Value} {lo hi:Option Int} {Q:Value->Shared->Prop} (ht:IsTup s.heap t items) (hs:s.heap.IsSliceOf sl vl vu .none) (pl:IsPart vl lo) (pu:IsPart vu hi)
  (hw:¬ (sIx items.size 0 lo=0/\sIx items.size items.size hi=items.size))
  (h:Q (.ref s.heap.objs.size) { s with heap:=s.heap.push { cls:=.type "tuple",data:=.seq ((items.toList.drop (sIx items.size 0 lo)).take (sIx items.size items.size hi - sIx items.size 0 lo)).toArray } })
  (hsz:items.size<=sizeLine):wpAny (model prog w) A (getItem (.ref t) (.ref sl)) Q E s:=by
 have htake:sizeOk (.seq ((items.toList.drop (sIx items.size 0 lo)).take (sIx items.size items.size hi - sIx items.size 0 lo)).toArray):=by
  show ((items.toList.drop (sIx items.size 0 lo)).take (sIx items.size items.size hi - sIx items.size 0 lo)).toArray.size<=sizeLine
  rw [List.size_toArray,List.length_take,List.length_drop,Array.length_toList]
  omega
 have hj:sIx items.size items.size hi<=items.size:=Zo7 _ _ (Nat.le_refl _) hi
 obtain ⟨os,hos,hcs,hds⟩:=id hs
 have hTs:s.TypeIs (.ref sl) "slice":=⟨os,hos,hcs⟩
 unfold getItem
 try with_reducible refine wpAny_holding ?_
 first | refine wpAny_bind (wpAny_pure ?_) | skip
 refine wpAny_bind (wpAny_sequenceKey ht.typeIs (by decide) ?_)
 refine wpAny_bind (wpAny_callSpecial?_slot (name:=Str.ofString "__getitem__") ht.typeIs PyProof.Rows.slot_tuple_getitem
  (wpAny_call_entry PyProof.Rows.slot_tuple_getitem ht.typeIs entry_tuple_getitem ?_ (args_tuple_getitem _ _)))
 show wpAny _ _ (Builtin.Tuple.tupleItemsOf (.ref t) >>= _) _ _ s
 refine wpAny_bind (tupleItemsOf_ ht ?_)
 refine wpAny_bind (wpAny_typeOf hTs ?_)
 rw [if_pos (by decide)]
 refine wpAny_bind (Zcg hs pl pu ?_)
 have hno:¬ ((((sIx items.size 0 lo:Nat):Int) == 0 && (1:Int) == 1 && (sIx items.size items.size hi - sIx items.size 0 lo) == items.size)=true):=by
  intro q
  rw [Bool.and_eq_true,Bool.and_eq_true] at q
  have q1:((sIx items.size 0 lo:Nat):Int)=0:=eq_of_beq q.1.1
  have q2:sIx items.size items.size hi - sIx items.size 0 lo=items.size:=eq_of_beq q.2
  exact hw ⟨by omega,by omega⟩
 show wpAny _ _ (if (((sIx items.size 0 lo:Nat):Int) == 0 && (1:Int) == 1 && (sIx items.size items.size hi - sIx items.size 0 lo) == items.size)=true then _ else _) _ _ s
 rw [if_neg hno,Zk2]
 first
  | exact wpAny_bind (m:=Builtin.Tuple.tupleExact _) (wpAny_newObj_type (wpAny_pure ⟨_,rfl,wpAny_pure h⟩) htake)
  | exact wpAny_bind (m:=Builtin.Tuple.tupleExact _) (wpAny_newObj_type (wpAny_bind (wpAny_pure (wpAny_pure ⟨_,rfl,wpAny_pure h⟩))) htake)
  | exact wpAny_bind (wpAny_bind (m:=Builtin.Tuple.tupleExact _) (wpAny_newObj_type (wpAny_pure (wpAny_pure ⟨_,rfl,wpAny_pure h⟩)) htake))
  | exact wpAny_bind (wpAny_bind (m:=Builtin.Tuple.tupleExact _) (wpAny_newObj_type (wpAny_pure ⟨_,rfl,wpAny_pure h⟩) htake))
end
end HT
namespace L2
open PySem PySem.Spec PyProof.Rows
abbrev TO:=St->Hp->(Option Int->Hp->Prop)->Prop
def PO (X:Cx) (e:Option Expr) (t:TO):Prop:=
 ∀ (pins:List (Addr × Obj)) (s:Shared) (σ:St) (H:Hp) (Q:Option Int->Hp->Prop),Inv X pins σ H s->t σ H Q →
  wpAny (model X.prog X.w) X.A (evalPart e X.env) (fun u s'=>∃ o H',Inv X pins σ H' s' /\ IsPart u o/\Q o H') X.xe s
def tNoPart:TO:=fun _ H Q=>Q none H
def tPart (t:TE):TO:=fun σ H Q=>t σ H fun x H1=>∃ i,x=.int i/\Q (some i) H1
theorem Zc9 {ns:List Int}:∀ {us:List Value},Vals (ns.map V.int) us->IntsAre us ns:=by
 induction ns with
 | nil=>intro us r; rw [List.map_nil] at r; cases r; exact .nil
 | cons n ns ih=>
  intro us r
  rw [List.map_cons] at r
  cases r with
  | cons r1 r2=>
   obtain ⟨t,e⟩:=r1
   subst e
   exact .cons n t (ih r2)
section
variable {X:Cx} {e:Expr} {te:TE} {lo hi:Option Expr} {tl th:TO} {pos p2:Pos}
theorem Zgs:PO X none tNoPart:=by
 intro pins s σ H Q I h
 rw [evalPart_none]
 exact wpAny_pure ⟨none,H,I,.none,h⟩
theorem Zg6 (h:PE X e te):PO X (some e) (tPart te):=by
 intro pins s σ H Q I hw
 rw [evalPart_some]
 refine thn (h pins s σ H _ I hw) fun u s1 ⟨x,H1,I1,r1,q1⟩=>?_
 obtain ⟨i,rfl,q⟩:=q1
 obtain ⟨t,rfl⟩:=r1
 exact ⟨some i,H1,I1,.int i t,q⟩
def SlR (X:Cx) (r:V->Option Int->Option Int->Hp->VK->Prop):Prop:=
 ∀ (pins:List (Addr × Obj)) (s:Shared) (σ:St) (H:Hp) (x:V) (v vl vu:Value) (lo hi:Option Int) (sl:Addr) (Q:VK),Inv X pins σ H s->RelV x v->s.heap.IsSliceOf sl vl vu .none->IsPart vl lo->IsPart vu hi->r x lo hi H Q →
  ∃ T id,typeLookup (.type T) "__getitem__" = pure (some (.builtin id))/\s.TypeIs v T/\wpAny (model X.prog X.w) X.A (getItem v (.ref sl)) (EP X pins σ Q) X.xe s
theorem SlR.or {r r':V->Option Int->Option Int->Hp->VK->Prop} (h:SlR X r) (h':SlR X r'):SlR X (fun x lo hi H Q=>r x lo hi H Q\/r' x lo hi H Q):=by
 intro pins s σ H x v vl vu lo hi sl Q I rx hs pl pu q
 rcases q with q | q
 ·exact h pins s σ H x v vl vu lo hi sl Q I rx hs pl pu q
 ·exact h' pins s σ H x v vl vu lo hi sl Q I rx hs pl pu q
def tSl (r:V->Option Int->Option Int->Hp->VK->Prop) (te:TE) (tl th:TO):TE:=fun σ H Q=>te σ H fun x H1=>tl σ H1 fun l H2=>th σ H2 fun u H3=>r x l u H3 Q
theorem Zer {r:V->Option Int->Option Int->Hp->VK->Prop} (hr:SlR X r) (he:PE X e te) (hl:PO X lo tl) (hu:PO X hi th):PE X (.Subscript e (.Slice lo hi none p2) pos) (tSl r te tl th):=by
 intro pins s σ H Q I h
 refine Subscript_ (thn (he pins s σ H _ I h) fun v s1 ⟨x,H1,I1,r1,q1⟩=>?_)
 refine wpAny_Slice (thn (hl pins s1 σ H1 _ I1 q1) fun vl s2 ⟨l,H2,I2,pl,q2⟩=>thn (hu pins s2 σ H2 _ I2 q2) fun vu s3 ⟨u,H3,I3,pu,q3⟩=>?_)
 rw [evalPart_none]
 refine wpAny_pure ?_
 have I4:Inv X pins σ H3 { s3 with heap:=s3.heap.push { cls:=.type "slice",data:=.fields #[vl,vu,.none] } }:=I3.kept (t':=s3.toks) fun b ob q=>Heap.get?_push_of_some _ q
 obtain ⟨T,id,hT,ht,hg⟩:=hr pins { s3 with heap:=s3.heap.push { cls:=.type "slice",data:=.fields #[vl,vu,.none] } } σ H3 x v vl vu l u s3.heap.objs.size Q I4 r1 (Heap.IsSliceOf.new ..) pl pu q3
 show wpAny (model X.prog X.w) X.A (subscriptTail e (.Slice lo hi none p2) v (.ref s3.heap.objs.size)) (EP X pins σ Q) X.xe { s3 with heap:=s3.heap.push { cls:=.type "slice",data:=.fields #[vl,vu,.none] } }
 exact tail_any (ops:=[.ref s3.heap.objs.size,v]) ht hT hg (by with_unfolding_all rfl)
def cutV (xs:List V) (lo hi:Option Int):List V:=(xs.drop (HT.sIx xs.length 0 lo)).take (HT.sIx xs.length xs.length hi - HT.sIx xs.length 0 lo)
theorem Zd6 (xs:List V) (lo hi:Option Int):(cutV xs lo hi).length<=xs.length:=by
 unfold cutV
 rw [List.length_take,List.length_drop]
 omega
def rSlT (K:PySem.W.Frag):V->Option Int->Option Int->Hp->VK->Prop:=fun x lo hi H Q=>∃ a xs,x=.ref a/\SqT K H a xs ∧
 ¬ (HT.sIx xs.length 0 lo=0/\HT.sIx xs.length xs.length hi=xs.length)/\∀ p,H p=none->Q (.ref p) (upd H p (.tup (cutV xs lo hi)))
theorem Zpq:SlR X (rSlT X.K):=by
 intro pins s σ H x v vl vu lo hi sl Q I rx hs pl pu h
 obtain ⟨a,xs,rfl,hx,hw,q⟩:=h
 cases rx
 obtain ⟨its,r,ht,hz⟩:=I.tuple hx
 have hlen:its.toArray.size=xs.length:=by rw [List.size_toArray]; exact r.length.symm
 refine ⟨"tuple",_,PyProof.Rows.slot_tuple_getitem.lookup,ht.typeIs,?_⟩
 refine HT.getItem_tuple_cut ht hs pl pu (by rw [hlen]; exact hw) ?_ (by rw [hlen]; exact hz)
 rw [hlen]
 refine ⟨.ref s.heap.objs.size,_,I.laid (t':=s.toks) (o:=.tup (cutV xs lo hi)) (fun b ob q=>Heap.get?_push_of_some _ q) (Nat.le_refl _) ?_,rfl,q _ (I.hok.fresh (Nat.le_refl _))⟩
 exact ⟨Nat.le_trans (Zd6 xs lo hi) hz,_,(r.drop (HT.sIx xs.length 0 lo)).take (HT.sIx xs.length xs.length hi - HT.sIx xs.length 0 lo),IsTupN.new _ _⟩
def rCatT (K:PySem.W.Frag):R2:=fun x y H Q=>∃ a b xs ys,x=.ref a/\y=.ref b/\SqT K H a xs/\SqT K H b ys/\xs ≠ []/\xs.length + ys.length<=sizeLine ∧
 (ys=[]->Q (.ref a) H)/\(ys ≠ []->∀ p,H p=none->Q (.ref p) (upd H p (.tup (xs ++ ys))))
theorem Vals.nil_iff {xs:List V} {us:List Value} (r:Vals xs us):us=[] ↔ xs=[]:=by
 cases r with
 | nil=>simp
 | cons _ _=>simp
theorem Zno:OpR X (binaryOp .Add) (rCatT X.K):=by
 intro pins s σ H x y v u Q I rx ry h
 obtain ⟨a,b,xs,ys,rfl,rfl,ha,hb,hx,hz,q1,q2⟩:=h
 cases rx
 cases ry
 obtain ⟨its,r1,p1,_⟩:=I.tuple ha
 obtain ⟨its2,r2,p2,_⟩:=I.tuple hb
 refine HT.cat_tup p1 p2 (fun z=>hx (r1.nil_iff.mp z)) (fun z=>⟨.ref a,H,I,rfl,q1 (r2.nil_iff.mp z)⟩) (fun z=>?_) (by rw [<- r1.length,<- r2.length]; exact hz)
 refine ⟨.ref s.heap.objs.size,_,I.laid (t':=s.toks) (o:=.tup (xs ++ ys)) (fun b ob q=>Heap.get?_push_of_some _ q) (Nat.le_refl _) ?_,rfl,q2 (fun w=>z (r2.nil_iff.mpr w)) _ (I.hok.fresh (Nat.le_refl _))⟩
 exact ⟨by rw [List.length_append]; exact hz,_,r1.append r2,IsTupN.new _ _⟩
end
end L2
namespace L2
open PySem PySem.Spec PyProof.Rows
def ixN (n:Nat) (i:Int):Option Nat:=if 0<=i then (if i < n then some i.toNat else none) else if -(n:Int)<=i then some (i + n).toNat else none
def atI {α:Type} (xs:List α) (i:Int):Option α:=(ixN xs.length i).bind fun j=>xs[j]?
theorem Zi5 {n:Nat} {i:Int} {j:Nat} (h:ixN n i=some j):seqIndex? i n=some j/\j < n /\ -(n:Int)<=i/\i < n:=by
 unfold ixN at h
 by_cases h0:0<=i
 ·rw [if_pos h0] at h
  by_cases h1:i < n
  ·rw [if_pos h1] at h
   have e:i.toNat=j:=Option.some.inj h
   exact ⟨by rw [seqIndex_of h0 h1,e],by omega,by omega,h1⟩
  ·rw [if_neg h1] at h; cases h
 ·rw [if_neg h0] at h
  by_cases h1:-(n:Int)<=i
  ·rw [if_pos h1] at h
   have e:(i + n).toNat=j:=Option.some.inj h
   exact ⟨by rw [seqIndex_neg (by omega) h1,e],by omega,h1,by omega⟩
  ·rw [if_neg h1] at h; cases h
theorem Zg0 {α:Type} {xs:List α} {i:Int} {v:α} (h:atI xs i=some v):∃ j,seqIndex? i xs.length=some j/\xs[j]? = some v/\j < xs.length /\ -(xs.length:Int)<=i/\i < xs.length:=by
 unfold atI at h
 cases e:ixN xs.length i with
 | none=>rw [e] at h; cases h
 | some j=>
  rw [e] at h
  obtain ⟨h1,h2,h3,h4⟩:=Zi5 e
  exact ⟨j,h1,h,h2,h3,h4⟩
theorem Zbn {α:Type} {xs:List α} {j:Nat} {v:α} (h:xs[j]? = some v):atI xs (j:Int)=some v:=by
 have hj:j < xs.length:=(List.getElem?_eq_some_iff.mp h).1
 have e:ixN xs.length (j:Int)=some j:=by
  unfold ixN
  rw [if_pos (by omega),if_pos (by omega)]; simp
 unfold atI; rw [e]; exact h
def PlainIx (b:Expr):Prop:=∀ o i,subscripted b false o i=operate [o,i] (getItem o i)
def IxR (X:Cx) (r:R2):Prop:=
 ∀ (value slice:Expr) (pins:List (Addr × Obj)) (s:Shared) (σ:St) (H:Hp) (x y:V) (v u:Value) (Q:VK),Inv X pins σ H s->RelV x v->RelV y u->r x y H Q →
  subscripted slice false v u=operate [v,u] (getItem v u)->wpAny (model X.prog X.w) X.A (subscriptTail value slice v u) (EP X pins σ Q) X.xe s
def MtR (X:Cx) (id:String) (r:V->List V->Hp->VK->Prop):Prop:=
 ∀ (pins:List (Addr × Obj)) (s:Shared) (σ:St) (H:Hp) (x:V) (xs:List V) (v:Value) (us:List Value) (Q:VK),Inv X pins σ H s->RelV x v->Vals xs us->r x xs H Q →
  wpAny (model X.prog X.w) X.A (call (.builtin id) (v :: us)) (EP X pins σ Q) X.xe s
section
variable {X:Cx} {a b:Expr} {ta tb:TE} {pos:Pos}
theorem IxR.or {r r':R2} (h:IxR X r) (h':IxR X r'):IxR X (fun x y H Q=>r x y H Q\/r' x y H Q):=by
 intro value slice pins s σ H x y v u Q I rx ry q hs
 rcases q with q | q
 ·exact h value slice pins s σ H x y v u Q I rx ry q hs
 ·exact h' value slice pins s σ H x y v u Q I rx ry q hs
theorem Zax {r:R2} (hr:IxR X r) (ha:PE X a ta) (hb:PE X b tb) (hs:PlainIx b):PE X (.Subscript a b pos) (tOp r ta tb):=by
 intro pins s σ H Q I h
 exact Subscript_ (binT ha hb I h fun v u s2 x y H2 I2 rx ry q=>hr a b pins s2 σ H2 x y v u Q I2 rx ry q (hs _ _))
def rIxL (K:PySem.W.Frag):R2:=fun x y H Q=>∃ p xs i v,x=.ref p/\y=.int i/\SqL K H p xs/\atI xs i=some v/\Q v H
def rIxT (K:PySem.W.Frag):R2:=fun x y H Q=>∃ p xs i v,x=.ref p/\y=.int i/\SqT K H p xs/\atI xs i=some v/\Q v H
def rIxS:R2:=fun x y H Q=>∃ z i c,x=.str z/\y=.int i/\z.length<=sizeLine/\atI z.cps.toList i=some c/\Q (.str ⟨#[c]⟩) H
theorem Zm2:IxR X (rIxL X.K):=by
 intro value slice pins s σ H x y v u Q I rx ry h hs
 obtain ⟨p,xs,i,z,rfl,rfl,hq,he,q⟩:=h
 cases rx
 obtain ⟨t,rfl⟩:=ry
 obtain ⟨its,r,pl,hz⟩:=I.list hq
 obtain ⟨j,h1,h2,h3,h4,h5⟩:=Zg0 he
 obtain ⟨w,ew,rw'⟩:=r.get h2
 have hl:=r.length
 have hn:=line63
 have fin:EP X pins σ Q w s:=⟨z,H,I,rw',q⟩
 by_cases h0:0<=i
 ·have hj:i.toNat=j:=by
   rw [seqIndex_of h0 h5] at h1
   exact Option.some.inj h1
  exact item_listR pl.isList h0 (by omega) (by rw [hj]; simpa using ew) fin hs
 ·have hj:(i + (its.toArray.size:Int)).toNat=j:=by
   rw [seqIndex_neg (by omega) h4] at h1
   rw [List.size_toArray,<- hl]
   exact Option.some.inj h1
  exact subscriptTail_builtinR (x:=w) pl.isList.typeIs slot_list_getitem.lookup
   (wpAny_getItem_list_neg (Q:=fun r s'=>r=w/\EP X pins σ Q r s') pl.isList (by omega) (by rw [List.size_toArray] <;> omega) (by omega) (by rw [hj]; simpa using ew) ⟨rfl,fin⟩) hs
theorem Zol:IxR X (rIxT X.K):=by
 intro value slice pins s σ H x y v u Q I rx ry h hs
 obtain ⟨p,xs,i,z,rfl,rfl,hq,he,q⟩:=h
 cases rx
 obtain ⟨t,rfl⟩:=ry
 obtain ⟨its,r,pl,hz⟩:=I.tuple hq
 obtain ⟨j,h1,h2,h3,h4,h5⟩:=Zg0 he
 obtain ⟨w,ew,rw'⟩:=r.get h2
 have hl:=r.length
 have hn:=line63
 have fin:EP X pins σ Q w s:=⟨z,H,I,rw',q⟩
 exact subscriptTail_builtinR (x:=w) pl.typeIs slot_tuple_getitem.lookup
  (getItem_tuple (j:=j) (Q:=fun r s'=>r=w/\EP X pins σ Q r s') pl (by omega) (by omega) (by rw [List.size_toArray,<- hl]; exact h1) (by simpa using ew) ⟨rfl,fin⟩) hs
theorem Zof:IxR X rIxS:=by
 intro value slice pins s σ H x y v u Q I rx ry h hs
 obtain ⟨z,i,c,rfl,rfl,hz,he,q⟩:=h
 obtain ⟨t,rfl⟩:=rx
 obtain ⟨t',rfl⟩:=ry
 obtain ⟨j,h1,h2,h3,h4,h5⟩:=Zg0 he
 have hl:z.cps.toList.length=z.length:=by simp [Str.length]
 rw [hl] at h1 h4 h5
 have hn:=line63
 exact tail_any (typeIs_str s z t) slot_str_getitem.lookup (getItem_str (c:=c) (by
  have e1:decide (i < -(2 ^ 63:Int))=false:=decide_eq_false (by omega)
  have e2:decide (i ≥ 2 ^ 63)=false:=decide_eq_false (by omega)
  rw [e1,e2,Bool.or_false]) (by rw [h1]; simpa using h2) ⟨.str ⟨#[c]⟩,H,I.tok _,⟨_,rfl⟩,q⟩) hs
def rIx (K:PySem.W.Frag):R2:=fun x y H Q=>rIxL K x y H Q\/rIxT K x y H Q\/rIxS x y H Q
theorem Zpp:IxR X (rIx X.K):=Zm2.or (Zol.or Zof)
theorem Zhz (its:List Value) (n j:Nat) (u:Value):Obj.mapSeq (·.setIfInBounds j u) { cls:=.type "list",data:=.seq its.toArray n } = { cls:=.type "list",data:=.seq (its.set j u).toArray n }:=by
 simp [Obj.mapSeq]
theorem Inv.lst {pins:List (Addr × Obj)} {σ:St} {H:Hp} {s:Shared} {p:Addr} {xs:List V} (I:Inv X pins σ H s) (h:H p=some (.lst xs)) :
  ∃ (its:List Value) (n:Nat),Vals xs its/\s.heap.get? p=some { cls:=.type "list",data:=.seq its.toArray n } /\ xs.length<=sizeLine:=by
 obtain ⟨z,its,n,r,e⟩:=I.hok p _ h
 exact ⟨its,n,r,e,z⟩
theorem Inv.lstUpd {pins:List (Addr × Obj)} {σ:St} {H:Hp} {s:Shared} {p:Addr} {xs ys:List V} {its its':List Value} {n n':Nat} {f:Obj->Obj} (I:Inv X pins σ H s) (h:H p=some (.lst xs))
  (ho:s.heap.get? p=some { cls:=.type "list",data:=.seq its.toArray n }) (hf:f { cls:=.type "list",data:=.seq its.toArray n } = { cls:=.type "list",data:=.seq its'.toArray n' }) (r:Vals ys its') (hz:ys.length<=sizeLine) (t:Nat) :
  Inv X pins σ (upd H p (.lst ys)) { s with heap:=s.heap.update p f,toks:=t }:=by
 have e:(s.heap.update p f).get? p=some { cls:=.type "list",data:=.seq its'.toArray n' }:=by
  rw [Heap.get?_update_self f ho (by rw [hf] <;> rfl),hf]
 refine I.write (x:=p) (e:=p) (by rw [h]; trivial) (.inl rfl) (fun b u hb q=>(Heap.get?_update_other _ _ (Ne.symm hb)).trans q) ⟨_,e⟩ ?_
 exact ⟨hz,its',n',r,e⟩
def rSetL:V->V->V->Hp->(Hp->Prop)->Prop:=fun o i v H Q=>∃ p xs k j,o=.ref p/\i=.int k/\H p=some (.lst xs)/\ixN xs.length k=some j/\Q (upd H p (.lst (xs.set j v)))
theorem Zku:PSet X rSetL:=by
 intro pins s σ H o i v ov iv u Q I ro ri rv h
 obtain ⟨p,xs,k,j,rfl,rfl,hp,hj,q⟩:=h
 cases ro
 obtain ⟨t,rfl⟩:=ri
 obtain ⟨its,n,r,ho,hz⟩:=I.lst hp
 obtain ⟨h1,h2,h3,h4⟩:=Zi5 hj
 have hl:=r.length
 have hn:=line63
 have I':Inv X pins σ (upd H p (.lst (xs.set j v))) { s with heap:=s.heap.update p (Obj.mapSeq (·.setIfInBounds j u)) }:=
  I.lstUpd hp ho (Zhz its n j u) (r.set rv j) (by rw [List.length_set]; exact hz) s.toks
 by_cases h0:0<=k
 ·have hk:k.toNat=j:=by
   rw [seqIndex_of h0 h4] at h1
   exact Option.some.inj h1
  exact PySem.W.ki_setAt ho h0 (by omega) (by rw [List.size_toArray,<- hl]; exact h4) (by rw [hk]; exact ⟨_,I',q⟩)
 ·have hk:(k + (its.toArray.size:Int)).toNat=j:=by
   rw [seqIndex_neg (by omega) h3] at h1
   rw [List.size_toArray,<- hl]
   exact Option.some.inj h1
  exact PySem.W.ki_setBack ho (by omega) (by rw [List.size_toArray,<- hl]; exact h3) (by omega) (by rw [hk]; exact ⟨_,I',q⟩)
theorem Zfx (lo hi:Option Int) (n:Nat):(sliceBounds lo hi none n).1=((HT.sIx n 0 lo:Nat):Int)/\(sliceBounds lo hi none n).2.1=((HT.sIx n n hi:Nat):Int)/\(sliceBounds lo hi none n).2.2=1:=by
 refine ⟨?_,?_,rfl⟩
 ·cases lo with
  | none=>simp [sliceBounds,HT.sIx]
  | some i=>
   simp only [sliceBounds,HT.sIx,Option.getD_none,show (1:Int) > 0 by decide,if_true]
   by_cases h:i < 0
   ·simp only [h,if_true] <;> omega
   ·simp only [h,if_false] <;> omega
 ·cases hi with
  | none=>simp [sliceBounds,HT.sIx]
  | some i=>
   simp only [sliceBounds,HT.sIx,Option.getD_none,show (1:Int) > 0 by decide,if_true]
   by_cases h:i < 0
   ·simp only [h,if_true] <;> omega
   ·simp only [h,if_false] <;> omega
theorem Ze9 (its:List Value) (lo hi:Option Int):slicePick its.toArray lo hi none=((its.drop (HT.sIx its.length 0 lo)).take (HT.sIx its.length its.length hi - HT.sIx its.length 0 lo)).toArray:=by
 obtain ⟨h1,h2,h3⟩:=Zfx lo hi its.toArray.size
 unfold slicePick
 rw [h1,h2,h3]
 simp only [sliceRange_one,pick_run,List.size_toArray] <;> rfl
def rSlL (K:PySem.W.Frag):V->Option Int->Option Int->Hp->VK->Prop:=fun x lo hi H Q=>∃ a xs,x=.ref a/\SqL K H a xs/\∀ p,H p=none->Q (.ref p) (upd H p (.lst (cutV xs lo hi)))
theorem Znx:SlR X (rSlL X.K):=by
 intro pins s σ H x v vl vu lo hi sl Q I rx hs pl pu h
 obtain ⟨a,xs,rfl,hx,q⟩:=h
 cases rx
 obtain ⟨its,r,ht,hz⟩:=I.list hx
 have hlen:=r.length
 refine ⟨"list",_,slot_list_getitem.lookup,ht.isList.typeIs,?_⟩
 refine wpAny_getItem_list_slice ht.isList hs pl pu .none (by simp) ?_ (by rw [List.size_toArray] <;> omega)
 rw [Ze9,<- hlen]
 refine ⟨.ref s.heap.objs.size,_,I.laid (t':=s.toks) (o:=.lst (cutV xs lo hi)) (fun b ob q=>Heap.get?_push_of_some _ q) (Nat.le_refl _) ?_,rfl,q _ (I.hok.fresh (Nat.le_refl _))⟩
 exact ⟨Nat.le_trans (Zd6 xs lo hi) hz,_,0,(r.drop (HT.sIx xs.length 0 lo)).take (HT.sIx xs.length xs.length hi - HT.sIx xs.length 0 lo),Heap.get?_push_size _ rfl⟩
def flatV:V->Bool
 | .non=>true
 | .bl _=>true
 | .int _=>true
 | .str _=>true
 | _=>false
def eqV:V->V->Bool
 | .non,.non=>true
 | .bl a,.bl b=>a == b
 | .bl a,.int b=>(if a then 1 else 0) == b
 | .int a,.bl b=>a == (if b then 1 else 0)
 | .int a,.int b=>a == b
 | .str a,.str b=>a == b
 | _,_=>false
theorem Zoo {A:Around} {s:Shared} {y x:V} {u v:Value} (ry:RelV y u) (rx:RelV x v) (fy:flatV y=true) (fx:flatV x=true):SeqAt.EqAt A s u v (eqV y x):=by
 cases y with
 | non=>
  cases ry
  cases x with
  | non=>cases rx; exact SeqAt.EqAt.same _
  | bl b=>cases rx; exact SeqAt.EqAt.none_bool b
  | int b=>obtain ⟨t,rfl⟩:=rx; exact SeqAt.EqAt.none_int b t
  | str b=>obtain ⟨t,rfl⟩:=rx; exact SeqAt.EqAt.none_str b t
  | _=>exact absurd (show false=true from fx) Bool.false_ne_true
 | bl a=>
  cases ry
  cases x with
  | non=>cases rx; exact SeqAt.EqAt.bool_none a
  | bl b=>cases rx; exact SeqAt.EqAt.bool_bool a b
  | int b=>obtain ⟨t,rfl⟩:=rx; exact SeqAt.EqAt.bool_int a b t
  | str b=>obtain ⟨t,rfl⟩:=rx; exact SeqAt.EqAt.bool_str a b t
  | _=>exact absurd (show false=true from fx) Bool.false_ne_true
 | int a=>
  obtain ⟨t',rfl⟩:=ry
  cases x with
  | non=>cases rx; exact SeqAt.EqAt.int_none a t'
  | bl b=>cases rx; exact SeqAt.EqAt.int_bool a t' b
  | int b=>obtain ⟨t,rfl⟩:=rx; exact SeqAt.EqAt.int_int a t' b t
  | str b=>obtain ⟨t,rfl⟩:=rx; exact SeqAt.EqAt.int_str a t' b t
  | _=>exact absurd (show false=true from fx) Bool.false_ne_true
 | str a=>
  obtain ⟨t',rfl⟩:=ry
  cases x with
  | non=>cases rx; exact SeqAt.EqAt.str_none a t'
  | bl b=>cases rx; exact SeqAt.EqAt.str_bool a t' b
  | int b=>obtain ⟨t,rfl⟩:=rx; exact SeqAt.EqAt.str_int a t' b t
  | str b=>obtain ⟨t,rfl⟩:=rx; exact SeqAt.EqAt.str_str a t' b t
  | _=>exact absurd (show false=true from fx) Bool.false_ne_true
 | _=>exact absurd (show false=true from fy) Bool.false_ne_true
def eqU (x:V) (u:Value):Bool:=match u with
 | .none=>eqV .non x
 | .bool b=>eqV (.bl b) x
 | .int i _=>eqV (.int i) x
 | .str z _=>eqV (.str z) x
 | _=>false
theorem Zl0 {x y:V} {u:Value} (r:RelV y u) (f:flatV y=true):eqU x u=eqV y x:=by
 cases y with
 | non=>cases r; rfl
 | bl b=>cases r; rfl
 | int i=>obtain ⟨t,rfl⟩:=r; rfl
 | str z=>obtain ⟨t,rfl⟩:=r; rfl
 | _=>exact absurd (show false=true from f) Bool.false_ne_true
theorem Zgx {x:V}:∀ {xs:List V} {us:List Value},Vals xs us->xs.all flatV=true->us.any (eqU x)=xs.any fun y=>eqV y x
 | _,_,.nil,_=>rfl
 | y :: xs,u :: us,.cons r t,f=>by
  rw [List.all_cons,Bool.and_eq_true] at f
  rw [List.any_cons,List.any_cons,Zl0 r f.1,Zgx t f.2]
theorem Zfe {A:Around} {s:Shared} {x:V} {v:Value} (rx:RelV x v) (fx:flatV x=true):∀ {xs:List V} {us:List Value},Vals xs us->xs.all flatV=true->∀ u ∈ us,SeqAt.EqAt A s u v (eqU x u)
 | _,_,.nil,_=>fun u hu=>by cases hu
 | y :: xs,u :: us,.cons r t,f=>fun u' hu=>by
  rw [List.all_cons,Bool.and_eq_true] at f
  rcases List.mem_cons.mp hu with rfl | hu
  ·rw [Zl0 r f.1]; exact Zoo r rx f.1 fx
  ·exact Zfe rx fx t f.2 u' hu
def inV (x:V) (xs:List V):Bool:=xs.any fun y=>eqV y x
def rIn (K:PySem.W.Frag) (neg:Bool):R2:=fun x y H Q=>∃ p xs,y=.ref p/\(SqL K H p xs\/SqT K H p xs)/\flatV x=true/\xs.all flatV=true/\Q (.bl (if neg then !inV x xs else inV x xs)) H
theorem Zh8:OpR X (compareOp .In) (rIn X.K false):=by
 intro pins s σ H x y v u Q I rx ry h
 obtain ⟨p,xs,rfl,hq,fx,fs,q⟩:=h
 cases ry
 rcases hq with hq | hq
 ·obtain ⟨its,r,pl,hz⟩:=I.list hq
  refine SeqAt.in_listAt (eqU x) pl.isList (fun w hw=>Zfe rx fx r fs w (by simpa using hw)) ⟨.bl _,H,I,rfl,?_⟩
  rw [show its.toArray.any (eqU x)=its.any (eqU x) by simp,Zgx r fs]
  exact q
 ·obtain ⟨its,r,pl,hz⟩:=I.tuple hq
  refine SeqAt.in_tupleAt (eqU x) pl (fun w hw=>Zfe rx fx r fs w (by simpa using hw)) ⟨.bl _,H,I,rfl,?_⟩
  rw [show its.toArray.any (eqU x)=its.any (eqU x) by simp,Zgx r fs]
  exact q
theorem Zf1:CallR X (.builtin "len") (fun xs H Q=>∃ p ys,xs=[.ref p]/\(SqL X.K H p ys\/SqT X.K H p ys)/\Q (.int ys.length) H):=by
 intro pins s σ H xs us Q I r h
 obtain ⟨p,ys,rfl,hq,q⟩:=h
 obtain ⟨u,rfl,rx⟩:=vals1 r
 cases rx
 have hn:=line63
 rcases hq with hq | hq
 ·obtain ⟨its,r',pl,hz⟩:=I.list hq
  have hlen:=r'.length
  exact Calls.call_len_list pl.isList (by simp only [List.size_toArray] <;> omega) ⟨.int ys.length,H,I.tok _,⟨s.toks + 1,by rw [List.size_toArray,hlen]⟩,q⟩
 ·obtain ⟨its,r',pl,hz⟩:=I.tuple hq
  have hlen:=r'.length
  exact len_tuple pl (by simp only [List.size_toArray] <;> omega) ⟨.int ys.length,H,I.tok _,⟨s.toks + 1,by rw [List.size_toArray,hlen]⟩,q⟩
theorem Zgb:CallR X (.builtin "len") (fun xs H Q=>∃ z,xs=[.str z]/\z.length<=sizeLine/\Q (.int z.length) H):=by
 intro pins s σ H xs us Q I r h
 obtain ⟨z,rfl,hz,q⟩:=h
 obtain ⟨u,rfl,t,rfl⟩:=vals1 r
 have hn:=line63
 exact len_str (by omega) ⟨.int z.length,H,I.tok _,⟨_,rfl⟩,q⟩
theorem CallR.or {f:Value} {r r':List V->Hp->VK->Prop} (h:CallR X f r) (h':CallR X f r'):CallR X f (fun xs H Q=>r xs H Q\/r' xs H Q):=by
 intro pins s σ H xs us Q I rs q
 rcases q with q | q
 ·exact h pins s σ H xs us Q I rs q
 ·exact h' pins s σ H xs us Q I rs q
theorem Zfa:CallR X (.type "tuple") (fun xs H Q=>∃ p ys,xs=[.ref p]/\((SqL X.K H p ys/\∀ l,H l=none->Q (.ref l) (upd H l (.tup ys)))\/(SqT X.K H p ys/\Q (.ref p) H))):=by
 intro pins s σ H xs us Q I r h
 obtain ⟨p,ys,rfl,h⟩:=h
 obtain ⟨u,rfl,rx⟩:=vals1 r
 cases rx
 rcases h with ⟨hq,q⟩ | ⟨hq,q⟩
 ·obtain ⟨its,r',pl,hz⟩:=I.list hq
  have hlen:=r'.length
  refine call_tuple_list pl.isList (fun h' kp=>?_) (by simp only [List.size_toArray] <;> omega)
  have I1:Inv X pins σ H { s with heap:=h' }:=I.kept (t':=s.toks) kp
  have I2:Inv X pins σ (upd H h'.objs.size (.tup ys)) { s with heap:=h'.push { cls:=.type "tuple",data:=.seq its.toArray } }:=
   I1.laid (t':=s.toks) (fun b o e=>Heap.get?_push_of_some _ e) (Nat.le_refl _) (show ObjOk X.prog X.w _ _ _ (.tup ys) from ⟨hz,its,r',IsTupN.new _ _⟩)
  exact ⟨.ref h'.objs.size,_,I2,rfl,q _ (I1.hok.fresh (Nat.le_refl _))⟩
 ·obtain ⟨its,r',pl,hz⟩:=I.tuple hq
  exact call_tuple_same pl ⟨.ref p,H,I,rfl,q⟩
def tyV (K:PySem.W.Frag) (T:String) (x:V) (H:Hp):Prop:=match x with
 | .str _=>T = "str"
 | .int _=>T = "int"
 | .ref p=>(T = "list" /\ ∃ xs,SqL K H p xs)\/(T = "tuple" /\ ((∃ o,K.lookup p=some o/\o.cls=.type "tuple" /\ o.dict=none)\/∃ xs,H p=some (.tup xs))) ∨
   (T = "dict" /\ ((∃ kvs,H p=some (.dK kvs))\/∃ kvs,H p=some (.dT kvs)))\/(T = "set" /\ ∃ S n,H p=some (.set S n))
 | _=>False
theorem Zob {pins:List (Addr × Obj)} {σ:St} {H:Hp} {s:Shared} {T:String} {x:V} {v:Value} (I:Inv X pins σ H s) (r:RelV x v) (ty:tyV X.K T x H) :
  s.TypeIs v T/\∀ a,v=.ref a->∃ ob,s.heap.get? a=some ob/\ob.dict=none:=by
 cases x with
 | str z=>
  obtain ⟨t,rfl⟩:=r
  cases (show T = "str" from ty)
  exact ⟨typeIs_str s z t,fun _ e=>nomatch e⟩
 | int i=>
  obtain ⟨t,rfl⟩:=r
  cases (show T = "int" from ty)
  exact ⟨typeIs_int s i t,fun _ e=>nomatch e⟩
 | ref p=>
  cases r
  rcases ty with ⟨rfl,xs,hq⟩ | ⟨rfl,(⟨o,hk,hc,hd⟩ | ⟨xs,hk⟩)⟩ | ⟨rfl,hk⟩ | ⟨rfl,S,n,hk⟩
  ·obtain ⟨its,_,pl,_⟩:=I.list hq
   refine ⟨pl.isList.typeIs,fun a e=>?_⟩
   cases e
   obtain ⟨o,n,e,c,hd,_⟩:=pl
   exact ⟨o,e,hd⟩
  ·refine ⟨⟨o,I.kIn p o hk,hc⟩,fun a e=>?_⟩
   cases e
   exact ⟨o,I.kIn _ o hk,hd⟩
  ·obtain ⟨_,_,_,o,e,⟨hc,_⟩,hd⟩:=I.hok p _ hk
   refine ⟨⟨o,e,hc⟩,fun a e2=>?_⟩
   cases e2
   exact ⟨o,e,hd⟩
  ·have z:∃ o,s.heap.get? p=some o/\o.ExactDict:=by
    rcases hk with ⟨kvs,hk⟩ | ⟨kvs,hk⟩
    ·obtain ⟨_,_,_,_,o,_,_,e,ex,_⟩:=I.hok p _ hk
     exact ⟨o,e,ex⟩
    ·obtain ⟨_,_,_,_,o,_,_,e,ex,_⟩:=I.hok p _ hk
     exact ⟨o,e,ex⟩
   obtain ⟨o,e,ex⟩:=z
   refine ⟨⟨o,e,ex.1⟩,fun a e2=>?_⟩
   cases e2
   exact ⟨o,e,ex.2.1⟩
  ·obtain ⟨o,_,_,_,e,ex,_⟩:=I.hok p _ hk
   refine ⟨⟨o,e,ex.1⟩,fun a e2=>?_⟩
   cases e2
   exact ⟨o,e,ex.2.1⟩
 | _=>exact False.elim ty
def tBM (K:PySem.W.Frag) (T:String) (r:V->List V->Hp->VK->Prop) (to:TE) (t:TA):TE:=fun σ H Q=>to σ H fun x H1=>tyV K T x H1/\t σ H1 fun xs H2=>r x xs H2 Q
variable {o e:Expr} {es:List Expr} {to:TE} {t:TA} {name:Str} {apos cpos:Pos} {T id:String} {r:V->List V->Hp->VK->Prop}
theorem Zp5 (pa:PlainAttrs T) (slot:Slot T name id) (hty:typeOf (.builtin id)=pure (.type "method_descriptor")) (hm:MtR X id r) (ho:PE X o to) (ha:PA X (e :: es) t)
  (hbase:attributeBase o name X.env (eval o X.env)=eval o X.env:=by rfl)
  (hfew:((backTo cpos (starEach (e :: es) X.env)).all (fun x=>!x.1) && (backToKw cpos (keywordEach [] X.env)).all (fun x=>x.1.isSome)
   && decide ((e :: es).length + ([]:List Keyword).length + (if ([]:List Keyword).isEmpty then 0 else 1) < 30))=true:=by rfl)
  (hline:(apos.endLine == cpos.line)=true:=by rfl) (hs:starEach (e :: es) X.env=(false,eval e X.env) :: starEach es X.env:=by rfl) (hplain:(backTo cpos (starEach es X.env)).any (·.1)=false:=by rfl) :
  PE X (.Call (.Attribute o name apos) (e :: es) [] cpos) (tBM X.K T r to t):=by
 intro pins s σ H Q I h
 refine wpAny_Call_method_late hbase hfew hline rfl (thn (ho pins s σ H _ I h) fun v s1 ⟨x,H1,I1,r1,ty,q1⟩=>?_)
 obtain ⟨h1,h2⟩:=Zob I1 r1 ty
 refine ⟨T,id,pa,slot,hty,h1,h2,?_⟩
 have hA:=ha cpos pins s1 σ H1 _ I1 q1
 rw [hs] at hA ⊢
 refine Calls.callWith_builtin (by show (false || (backTo cpos (starEach es X.env)).any (·.1))=false; rw [hplain] <;> rfl) (Calls.evalArgs_plain ?_)
 exact thn hA fun us s2 ⟨vs,H2,I2,r2,q2⟩=>hm pins s2 σ H2 x vs v us Q I2 r1 r2 q2
end
end L2
namespace L2
open PySem PySem.Spec PyProof.Rows
def MtM (X:Cx) (id:String) (r:V->List V->Hp->VK->Prop):Prop:=
 ∀ (pins:List (Addr × Obj)) (s:Shared) (σ:St) (H:Hp) (x:V) (xs:List V) (v:Value) (us:List Value) (Q:VK),Inv X pins σ H s->RelV x v->Vals xs us->r x xs H Q →
  wpAny (model X.prog X.w) X.A (call (.builtin id) (v :: us)) (EP X pins σ Q) X.xe s
theorem Vals.one:∀ {x:V} {us:List Value},Vals [x] us->∃ u,us=[u]/\RelV x u:=by
 intro x us h; cases h with | cons r t=>cases t; exact ⟨_,rfl,r⟩
theorem Vals.two:∀ {x y:V} {us:List Value},Vals [x,y] us->∃ u v,us=[u,v]/\RelV x u/\RelV y v:=by
 intro x y us h; cases h with | cons r t=>cases t with | cons q t=>cases t; exact ⟨_,_,rfl,r,q⟩
section
variable {X:Cx} {pins:List (Addr × Obj)} {σ:St} {H:Hp} {s:Shared} {l b:Addr} {xs ys zs:List V}
theorem Inv.lset {its its':List Value} {n:Nat} {f:Array Value->Array Value} {t':Nat} (I:Inv X pins σ H s) (hH:H l=some (.lst xs))
  (e:s.heap.get? l=some { cls:=.type "list",data:=.seq its.toArray n }) (hf:f its.toArray=its'.toArray) (hv:Vals ys its') (hz:ys.length<=sizeLine) :
  Inv X pins σ (upd H l (.lst ys)) { s with heap:=s.heap.update l (Obj.mapSeq f),toks:=t' }:=by
 have q:=PySem.IsL.update e f
 rw [hf] at q
 refine I.write (x:=l) (e:=l) (by rw [hH]; exact trivial) (.inl rfl) (fun b' u hb hu=>(Heap.get?_update_other s.heap (Obj.mapSeq f) (Ne.symm hb)).trans hu) ⟨_,q⟩ ?_
 exact ⟨hz,its',_,hv,q⟩
theorem Inv.lnew {its:List Value} {t':Nat} (I:Inv X pins σ H s) (hv:Vals ys its) (hz:ys.length<=sizeLine) :
  Inv X pins σ (upd H s.heap.objs.size (.lst ys)) { s with heap:=s.heap.push { cls:=.type "list",data:=.seq its.toArray },toks:=t' }:=
 I.laid (fun _ _ q=>Heap.get?_push_of_some _ q) (Nat.le_refl _) ⟨hz,its,0,hv,Heap.get?_push_size _ rfl⟩
theorem Inv.fresh (I:Inv X pins σ H s):H s.heap.objs.size=none:=I.hok.fresh (Nat.le_refl _)
theorem Inv.lstM (I:Inv X pins σ H s) (hH:H l=some (.lst xs)):xs.length<=sizeLine/\∃ (its:List Value) (n:Nat),Vals xs its/\xs.length=its.length/\s.heap.get? l=some { cls:=.type "list",data:=.seq its.toArray n }:=by
 obtain ⟨z,its,n,r,e⟩:=I.hok l _ hH
 exact ⟨z,its,n,r,r.length,e⟩
theorem notLongL {n:Nat} (h:n<=sizeLine):Builtin.List.listTooLong n=false:=by
 unfold Builtin.List.listTooLong
 exact decide_eq_false (by omega)
end
section
variable {X:Cx}
def rAppend:V->List V->Hp->VK->Prop:=fun x vs H Q=>∃ l xs y,x=.ref l/\vs=[y]/\H l=some (.lst xs)/\xs.length < sizeLine/\Q .non (upd H l (.lst (xs ++ [y])))
theorem Zc1:MtM X "list.append" rAppend:=by
 intro pins s σ H x vs v us Q I rx rv h
 obtain ⟨l,xs,y,rfl,rfl,hH,hz,q⟩:=h
 cases rx
 obtain ⟨u,rfl,ru⟩:=rv.one
 obtain ⟨z,its,n,r,hl,e⟩:=I.lstM hH
 refine call_meets F.slot_list_append ⟨_,e,rfl⟩ F.entry_list_append (F.args_list_append_2 _ _) (PySem.list_append l its.toArray n u (by rw [List.size_toArray]; omega)) ⟨e,?_⟩
 refine ⟨.non,_,I.lset (its':=its ++ [u]) hH e (by simp) (r.append (.cons ru .nil)) ?_,rfl,q⟩
 rw [List.length_append,List.length_singleton]
 omega
def rCat:R2:=fun x y H Q=>∃ l b xs zs,x=.ref l/\y=.ref b/\H l=some (.lst xs)/\H b=some (.lst zs)/\xs.length + zs.length<=sizeLine/\∀ p,H p=none->Q (.ref p) (upd H p (.lst (xs ++ zs)))
theorem Zod:OpR X (binaryOp .Add) rCat:=by
 intro pins s σ H x y v u Q I rx ry h
 obtain ⟨l,b,xs,zs,rfl,rfl,hH,hB,hz,q⟩:=h
 cases rx
 cases ry
 obtain ⟨z,its,n,r,hl,e⟩:=I.lstM hH
 obtain ⟨z2,its2,n2,r2,hl2,e2⟩:=I.lstM hB
 refine PySem.P.add_list e e2 ?_ (by rw [List.size_toArray,List.size_toArray]; omega)
 have ea:its.toArray ++ its2.toArray=(its ++ its2).toArray:=by simp
 rw [ea]
 exact ⟨.ref _,_,I.lnew (t':=s.toks) (r.append r2) (by rw [List.length_append]; omega),rfl,q _ I.fresh⟩
end
section
variable {X:Cx}
end
end L2
namespace Att
open PySem PySem.W PySem.Calls PyProof.Rows
theorem Zd5 {P:Params} {h:Heap}:∀ (ns:List Int) (vs:List Value),WellAll P h vs (ns.map WData.int)->IntsAre vs ns:=by
 intro ns
 induction ns with
 | nil=>
  intro vs w
  rw [List.map_nil] at w
  cases w
  exact .nil
 | cons n ns ih=>
  intro vs w
  rw [List.map_cons] at w
  cases w with
  | cons a b=>
   cases a
   exact .cons _ _ (ih _ b)
theorem Zjt {l:OpenLaw} {n:Nat} (hn:l.most=some n) {P:Params} {h:Heap} {args:List WData} {vals:List Value}
  (hpre:l.row.toRowW.claim.pre args=true) (hwl:WellAll P h vals args) :
  ∃ a vs ns,vals=[Value.ref a]/\args=[WData.list (ns.map WData.int)]/\h.get? a=some { cls:=.type "list",data:=.seq vs.toArray } /\ IntsAre vs ns/\ns.length<=n:=by
 have hsh:WShape.hasAll [] args [.list .int]=true:=(pre_splitW hpre).1
 have hc:l.pre.holds [] { args:=args } = true:=(pre_splitW hpre).2
 obtain ⟨d,r,rfl,h1,h2⟩:=hasAllW_cons hsh
 obtain rfl:=hasAllW_nil h2
 obtain ⟨xs,rfl,h3⟩:=hasW_list h1
 obtain ⟨ns,rfl⟩:=items_int h3
 have hlen:ns.length<=n:=by
  unfold OpenLaw.pre at hc
  have h4:(WTm.not (.lt (.lit (.int (n:Int))) (.len (.arg 0)))).holds [] { args:=[.list (ns.map .int)] } = true:=by
   have h4:=(holds_andW hc).1
   rw [hn] at h4
   exact h4
  have h5:=condW_of h4 (w_not (w_lt w_lit (w_len_list (w_arg rfl))))
  rw [List.length_map] at h5
  refine Nat.le_of_not_lt fun q=>?_
  have q':(n:Int) < ((ns.length:Nat):Int):=by omega
  first
   | (rw [decide_eq_true q'] at h5; exact absurd h5 (by decide))
   | (simp at h5; omega)
 cases hwl with
 | cons w1 w2=>
  cases w2
  cases w1 with
  | list ho hall=>exact ⟨_,_,ns,rfl,rfl,ho,Zd5 ns _ hall,hlen⟩
theorem Zh9 (l:OpenLaw) (args:List WData):l.row.toRowW.claim.post args (.bool true) args=true:=
 postW_of (r:=l.row.toRowW) (X:=(true == true))
  (show WShape.has [] (.bool true) .bool=true by first | rfl | decide | simp [WShape.has,WShape.arms,WShape.armsAll])
  (show (WTm.eq .res (.lit (.bool true))).value [] { args:=args,res:=some (.bool true),after:=args } = some (.bool (true == true)) from w_eq_bool (w_res rfl) w_lit) rfl
theorem attach_call {l:OpenLaw} {n:Nat} {q:Program} {loose:List Str} {XP:(Str->Option Value)->Heap->Prop} {YP:World->Heap->Prop} {d:DefRec}
  (hn:l.most=some n) (hdf:d.params.defaults=[])
  (call:∀ (w:World) (s₀ s₁:Shared) (mg mb:Str->Option Value) (fa:Addr) (o:Obj) (pm cd doc:Value) (a:Addr) (vs:List Value) (ns:List Int),
   Ground q loose [] XP w s₀ mg mb s₁.heap->YP w s₁.heap →
   s₁.heap.get? fa=some o->o.data=.func (docDef d.name d.params d.body d.scope pm cd doc)->s₁.heap.CodeRec cd d.name->mg d.name=some (.ref fa) →
   s₁.heap.get? a=some { cls:=.type "list",data:=.seq vs.toArray } -> IntsAre vs ns->ns.length<=n->s₁.gens = #[] →
   codeAny (model l.prog w) callerA (.call (.ref fa) ⟨[.ref a],[]⟩) (fun r s'=>r=.ok (.ret (.bool true))/\OldK s₁.heap s'.heap/\s'.os=s₁.os/\AllBare s'.gens) s₁) :
  WalkO q loose XP YP l.row.toRowW d [] (fun f vs=>PySem.call f vs):=by
 intro w s₀ s₁ mg mb G Y fa o pm cd doc dV kV ho hd hcd hD hmg hg args vals as hpre hlay hrd hwl hlo
 obtain rfl:dV=.none:=Dflts.none hD hdf
 obtain rfl:kV=.none:=Dflts.noKw hD
 obtain ⟨a,vs,ns,rfl,rfl,hobj,hints,hlen⟩:=Zjt hn hpre hwl
 refine enter_call (codeAny_mono (call w s₀ s₁ mg mb fa o pm cd doc a vs ns G Y ho (fd_plain hd) hcd hmg hobj hints hlen hg) fun r s' hq=>?_)
 obtain ⟨rfl,h2,h3,h4⟩:=hq
 exact ⟨.inl ⟨.bool true,.bool true,[],rfl,fun _=>rfl,.bool true,Zh9 l _,fun _=>⟨List.Pairwise.nil,fun _ hm=>(nomatch hm)⟩⟩,h2,h3,h4⟩
end Att
namespace L2
open PySem PySem.Spec PyProof.Rows
theorem Zd9:∀ {vs:List Value} {ns:List Int},IntsAre vs ns->Vals (ns.map V.int) vs
 | _,_,.nil=>.nil
 | _,_,.cons n t h=>.cons ⟨t,rfl⟩ (Zd9 h)
def Only (H:Hp):Prop:=∀ b,H b=none\/∃ o xs,H b=some (.frz o (.lst xs))
theorem Zln {P:Program} {w:World} {K:PySem.W.Frag} {mg mb:Str->Option Value} {CX:CXT} {k:Nat} {fa a:Addr} {fd:FuncData} {x:Str} {sp:Sp} {s₁:Shared} {vs:List Value} {ns:List Int}
  (KX:K.In s₁.heap) (hns:s₁.heap.Ns mainGlobals mg) (hb:s₁.heap.Ns builtinsNs mb) (hbb:∀ x:Str,x ≠ "__name__" -> mb x=bootBuiltins x) (hlim:s₁.heap.NoLimit) (hg:s₁.gens = #[])
  (ha:s₁.heap.get? a=some { cls:=.type "list",data:=.seq vs.toArray }) (hi:IntsAre vs ns) (hl:ns.length<=sizeLine) (hr:Room k callerA)
  (F:∀ base:Heap,K.In base->base.Ns mainGlobals mg->FnOk P w K mg base CX k fa fd [x] sp) (hbind:∀ (s:Shared) (u:Value),BindsTo s fd ⟨[u],[]⟩ [(x,u)])
  (hsp:∀ H:Hp,Only H->SqL K H a (ns.map V.int)->sp [.ref a] H (fun v _=>v=.bl true) fun _ _ _=>False)
  (hCX:∀ H e s',CX [] H s₁ (fun _ _ _=>False) e s' -> False) :
  codeAny (model P w) callerA (.call (.ref fa) ⟨[.ref a],[]⟩) (fun r s'=>r=.ok (.ret (.bool true))/\OldK s₁.heap s'.heap/\s'.os=s₁.os/\AllBare s'.gens) s₁:=by
 have rv:=Zd9 hi
 have lenV:=hi.length
 -- from an abstract heap in which nothing but the script may be tracked
 have core:∀ H:Hp,Only H->SqL K H a (ns.map V.int)->HOk P w H s₁.heap->(∀ b,H b ≠ none->b=a)->(H a ≠ none->K.lookup a=none) →
   codeAny (model P w) callerA (.call (.ref fa) ⟨[.ref a],[]⟩) (fun r s'=>r=.ok (.ret (.bool true))/\OldK s₁.heap s'.heap/\s'.os=s₁.os/\AllBare s'.gens) s₁:=by
  intro H hO hS hok hA hK
  have base_of:∀ {b:Addr} {o:Obj},s₁.heap.get? b=some o->H b=none->(hidT s₁.heap H).get? b=some o:=fun e n=>Zlg e n
  have noA:∀ {b:Addr} {o:Obj} {es:Array DictEntry} {ep:Nat},s₁.heap.get? b=some o->o.data=.dict es ep->H b=none:=fun {b o es ep} e d=>by
   cases q:H b with
   | none=>rfl
   | some u=>
    have e':b=a:=hA b (by rw [q]; simp)
    subst e'
    rw [ha] at e; cases e
    have d':Data.seq vs.toArray _=Data.dict es ep:=d
    cases d'
  have nsK:∀ {b:Addr} {m:Str->Option Value},s₁.heap.Ns b m->(hidT s₁.heap H).Ns b m:=fun {b m} ⟨o,es,ep,e,d,r⟩=>⟨o,es,ep,base_of e (noA e d),d,r⟩
  have hKb:K.In (hidT s₁.heap H):=fun b o e=>base_of (KX b o e) (by
   cases q:H b with
   | none=>rfl
   | some u=>
    have e':b=a:=hA b (by rw [q]; simp)
    subst e'
    rw [hK (by rw [q]; simp)] at e; cases e)
  have hM:Mod K mg (hidT s₁.heap H):=⟨hKb,nsK hns,⟨mb,nsK hb,hbb⟩,let ⟨mc,h1,h2⟩:=hlim; ⟨mc,nsK h1,h2⟩⟩
  have e0:Env0 P w K mg (hidT s₁.heap H) callerA [] s₁ H:=⟨rfl,hM,fun b o e=>Zm1 e,Nat.le_of_eq (Zj2 _ _),trivial,fun b hb=>absurd (show b ∈ ([]:List Addr) from hb) (by simp),hok,.of_eq hg⟩
  refine codeAny_mono ((F _ hKb (nsK hns)).run callerA [] s₁ H ⟨[.ref a],[]⟩ [.ref a] [.ref a] _ _ hr e0 (hbind s₁ (.ref a)) (.cons rfl .nil) (hsp H hO hS)) fun r s' h=>?_
  cases r with
  | error e=>exact (hCX H e s' h).elim
  | ok fl=>
   cases fl with
   | next=>exact False.elim h
   | brk=>exact False.elim h
   | cont=>exact False.elim h
   | ret u=>
    obtain ⟨v,H',os,bare,un,hok',r',q⟩:=h
    have q':v=.bl true:=q
    subst q'
    obtain rfl:u=Value.bool true:=r'
    refine ⟨rfl,OldK.of_keep fun b o e=>?_,os,bare⟩
    cases q:H b with
    | none=>exact un.keep b o e q (by intro z; exact absurd (show b ∈ ([]:List Addr) from z) (by simp)) (by simp)
    | some u=>
     rcases hO b with z | ⟨ob,xs,z⟩
     ·rw [q] at z; cases z
     ·have z2:=un.frzs b ob _ z
      obtain ⟨e1,_⟩:=hok b _ z
      obtain ⟨e2,_⟩:=hok' b _ z2
      rw [e] at e1; cases e1
      exact e2
 cases hk:K.lookup a with
 | some o=>
  -- the script is one of the module's own objects
  have e:=KX a o hk
  rw [ha] at e
  cases e
  refine core (fun _=>none) (fun _=>.inl rfl) (.inr ⟨_,vs.toArray,_,hk,rfl,rfl,rfl,by rw [List.size_toArray,lenV]; exact hl,by simpa using rv⟩) (fun b u z=>by have z':(none:Option HO)=some u:=z; cases z') (fun b z=>absurd rfl z) fun z=>absurd rfl z
 | none=>
  refine core (fun b=>if b=a then some (.frz { cls:=.type "list",data:=.seq vs.toArray } (.lst (ns.map V.int))) else none) (fun b=>?_) (.inl (.inr ⟨{ cls:=.type "list",data:=.seq vs.toArray },if_pos rfl⟩)) (fun b u z=>?_) (fun b z=>?_) fun _=>hk
  ·by_cases hb:b=a
   ·exact .inr ⟨_,_,if_pos hb⟩
   ·exact .inl (if_neg hb)
  ·by_cases hb:b=a
   ·have z':=(if_pos hb).symm.trans z
    cases z'
    subst hb
    exact ⟨ha,by rw [List.length_map]; exact hl,vs,_,rv,ha⟩
   ·have z':=(if_neg hb).symm.trans z
    cases z'
  ·by_cases hb:b=a
   ·exact hb
   ·exact absurd (if_neg hb) z
end L2
namespace L2
open PySem PySem.Spec PyProof.Rows
theorem walk_of {l:PySem.W.OpenLaw} {n k:Nat} {q:Program} {loose:List Str} {XP:(Str->Option Value)->Heap->Prop} {YP:World->Heap->Prop} {d:DefRec} {K:Params->PySem.W.Frag} {CX:World->CXT} {sp:World->Sp} {x:Str}
  (hn:l.most=some n) (hn2:n<=sizeLine) (hdf:d.params.defaults=[]) (hr:Room k callerA)
  (hY:∀ (w:World) (h:Heap),YP w h->(K w.params).In h)
  (F:∀ (w:World) (mg:Str->Option Value) (fa:Addr) (h:Heap),(K w.params).In h->h.Ns mainGlobals mg->mg d.name=some (.ref fa) →
   ∃ fd:FuncData,(∀ (s:Shared) (u:Value),BindsTo s fd ⟨[u],[]⟩ [(x,u)]) ∧
    ∀ base:Heap,(K w.params).In base->base.Ns mainGlobals mg->FnOk l.prog w (K w.params) mg base (CX w) k fa fd [x] (sp w))
  (hsp:∀ (w:World) (H:Hp) (a:Addr) (ns:List Int),ns.length<=n->Only H->SqL (K w.params) H a (ns.map V.int)->sp w [.ref a] H (fun v _=>v=.bl true) fun _ _ _=>False)
  (hCX:∀ (w:World) (H:Hp) (s:Shared) (e:Value) (s':Shared),CX w [] H s (fun _ _ _=>False) e s' -> False) :
  PySem.W.WalkO q loose XP YP l.row.toRowW d [] (fun f vs=>PySem.call f vs):=by
 refine Att.attach_call hn hdf fun w s₀ s₁ mg mb fa o pm cd doc a vs ns G Y ho hd hcd hmg hobj hints hlen hg=>?_
 have KX:=hY w _ Y
 obtain ⟨fd,hb,hF⟩:=F w mg fa _ KX G.T.g hmg
 exact Zln KX G.T.g G.T.b G.T.builtins G.T.nolimit hg hobj hints (Nat.le_trans hlen hn2) hr hF hb (fun H hO hS=>hsp w H a ns hlen hO hS) fun H e s'=>hCX w H s₁ e s'
end L2
namespace L2
open PySem PySem.Spec PyProof.Rows
def defArgs (s:Stmt):Arguments:=match s with
 | .FunctionDef _ a _ _ _ _ _ _ _ _=>a
 | _=>{ posonlyargs:=[],args:=[],vararg:=none,kwonlyargs:=[],kw_defaults:=[],kwarg:=none,defaults:=[] }
def defBody (s:Stmt):List Stmt:=match s with
 | .FunctionDef _ _ b _ _ _ _ _ _ _=>b
 | _=>[]
def defScope (s:Stmt):Scope:=match s with
 | .FunctionDef _ _ _ _ _ _ sc _ _ _=>sc
 | _=>{ kind:=.function,names:=[],isGenerator:=false,isCoroutine:=false }
abbrev CX0:CXT:=fun _ _ _ _ _ _=>False
abbrev E0:XK:=fun _ _ _=>False
theorem pass0 {X:Cx}:Passes CX0 X E0:=fun _ _ _ _ _ _ _ h=>h.elim
structure Fun (K:PySem.W.Frag) (x qual:Str) (st:Stmt) (f:Addr) (fd:FuncData):Prop where
 ex:∃ (oc:Value) (od:Option Addr) (kV doc pm:Value) (an:Option Addr) (cdv ct:Value) (osl:Array (Option Value)),
  fd=PySem.W.fnOf x qual (defArgs st) (defBody st) (defScope st) .none kV doc pm an cdv ct/\K.lookup f=some ⟨oc,od,.func fd,osl⟩ /\ PySem.W.codeIn K cdv qual=true
 kp:PySem.W.keepIn K (.ref f)=true
section
variable {P:Program} {w:World} {K:PySem.W.Frag} {mg:Str->Option Value} {base:Heap}
theorem Fun.ok {x qual:Str} {st:Stmt} {f:Addr} {fd:FuncData} {N ps:List Str} {k:Nat} {sp:Sp} (F:Fun K x qual st f fd) (S:FnScope N ps (defScope st)) (len:∀ vs H Q E,sp vs H Q E->vs.length=ps.length)
  (hbody:∀ (cdv:Value) (A:Around) (outer:List Env) (s:Shared) (H:Hp) (vs:List V) (Q:VK) (E:XK),Room k (A.deeper (envOfC qual (defScope st) s.heap.objs.size f cdv))->sp vs H Q E →
   ∃ t,PSs (cxOf CX0 P w K mg base N qual (defScope st) f cdv A outer s H E).nox (defBody st) t/\t { nx:=fun _ H'=>Q .non H',rt:=Q } (start N vs) H):FnOk P w K mg base CX0 (k + 1) f fd ps sp:=by
 obtain ⟨oc,od,kV,doc,pm,an,cdv,ct,osl,rfl,lk,hcd⟩:=F.ex
 refine Zp2 lk hcd S len fun A outer s H vs Q E hr hsp=>?_
 obtain ⟨t,h,q⟩:=hbody cdv A outer s H vs Q E hr hsp
 exact ⟨t,h.nox,q⟩
theorem Fun.binds {x qual:Str} {st:Stmt} {f:Addr} {fd:FuncData} {ps:List Str} (F:Fun K x qual st f fd)
  (h:∀ (kV doc pm:Value) (an:Option Addr) (cdv ct:Value) (us:List Value),us.length=ps.length->bindArgs (PySem.W.fnOf x qual (defArgs st) (defBody st) (defScope st) .none kV doc pm an cdv ct) ⟨us,[]⟩ = pure (ps.zip us)):Binds K fd ps []:=by
 obtain ⟨oc,od,kV,doc,pm,an,cdv,ct,osl,rfl,lk,hcd⟩:=F.ex
 exact .all (h kV doc pm an cdv ct)
theorem Zoj {x qual:Str} {st:Stmt} {f:Addr} {oc:Value} {od an:Option Addr} {osl:Array (Option Value)} {kV doc pm cdv ct:Value} (l:K.lookup f=some ⟨oc,od,.func (PySem.W.fnOf x qual (defArgs st) (defBody st) (defScope st) .none kV doc pm an cdv ct),osl⟩)
  (c:PySem.W.codeIn K cdv qual=true) (k:PySem.W.keepIn K (.ref f)=true):Fun K x qual st f (PySem.W.fnOf x qual (defArgs st) (defBody st) (defScope st) .none kV doc pm an cdv ct):=⟨⟨oc,od,kV,doc,pm,an,cdv,ct,osl,rfl,l,c⟩,k⟩
end
theorem Zb2 {A:Around} {k:Nat} (hr:Room k A):A.units + 1 < cLine:=Nat.lt_of_le_of_lt (Nat.add_le_add_left (by decide:1<=64) _) hr.units
theorem small1000 {n:Nat} (h:n<=1000):n < sizeLine:=Nat.lt_of_le_of_lt h (by decide)
section
variable {X:Cx}
theorem pv (i:Nat) {x:Str} {pos:Pos} (hN:X.N[i]? = some x:=by rfl) (hv:Vis X.env.scope x:=by first | exact Or.inl rfl | exact Or.inr (Or.inl rfl) | exact Or.inr (Or.inr rfl)) (hd:(x == ("__debug__":Str))=false:=by decide)
  (hcd:(x == ("__classdict__":Str))=false:=by decide):PE X (.Name x pos) (tVar i):=Zo8 hN hv hd hcd
end
theorem iteF {A B:Prop} (h:B):if false=true then A else B:=by
 rw [if_neg Bool.false_ne_true]
 exact h
theorem iteT {A B:Prop} (h:A):if true=true then A else B:=by
 rw [if_pos rfl]
 exact h
theorem ite2 {c A B:Prop} [Decidable c] (h1:c->A) (h2:¬ c->B):if c then A else B:=by
 by_cases h:c
 ·rw [if_pos h]
  exact h1 h
 ·rw [if_neg h]
  exact h2 h
def Same (H H':Hp):Prop:=∀ b o,H b=some o->H' b=some o
theorem Same.refl (H:Hp):Same H H:=fun _ _ h=>h
theorem Same.trans {H H1 H2:Hp} (a:Same H H1) (b:Same H1 H2):Same H H2:=fun c o h=>b c o (a c o h)
theorem Same.seq {K:PySem.W.Frag} {H H':Hp} {a:Addr} {xs:List V} (e:Same H H') (h:SqL K H a xs):SqL K H' a xs:=by
 rcases h with (h | ⟨o,h⟩) | h
 ·exact .inl (.inl (e _ _ h))
 ·exact .inl (.inr ⟨o,e _ _ h⟩)
 ·exact .inr h
end L2
namespace L2
open PySem PySem.Spec PyProof.Rows
section
variable {κ:Type} [DecidableEq κ]
def valV (kvs:List (κ × V)) (k:κ):Option V:=(kvs.find? fun kv=>decide (kv.1=k)).map (·.2)
def putK (kvs:List (κ × V)) (k:κ) (v:V):List (κ × V):=
 if (kvs.any fun kv=>decide (kv.1=k))=true then kvs.map (fun kv=>if kv.1=k then (kv.1,v) else kv) else kvs ++ [(k,v)]
theorem Zeu {p:κ × V} {r:List (κ × V)} {k:κ} (e:p.1=k):valV (p :: r) k=some p.2:=by simp [valV,List.find?_cons,e]
theorem Zfj {p:κ × V} {r:List (κ × V)} {k:κ} (e:¬ p.1=k):valV (p :: r) k=valV r k:=by simp [valV,List.find?_cons,e]
theorem Zhq (k:κ):∀ kvs:List (κ × V),(kvs.any fun kv=>decide (kv.1=k))=(valV kvs k).isSome
 | []=>rfl
 | p :: r=>by
  rw [List.any_cons]
  by_cases e:p.1=k
  ·simp only [Zeu e,decide_eq_true e,Bool.true_or,Option.isSome_some]
  ·rw [Zfj e,decide_eq_false e,Bool.false_or]; exact Zhq k r
theorem Zed (kvs:List (κ × V)) (k:κ) (v:V):(putK kvs k v).length<=kvs.length + 1:=by
 unfold putK
 split
 ·rw [List.length_map]; omega
 ·rw [List.length_append,List.length_cons,List.length_nil]; omega
theorem RelO.isSome_eq {o:Option V} {u:Option Value} (r:RelO o u):o.isSome=u.isSome:=by
 cases o with
 | none=>cases u with
  | none=>rfl
  | some _=>exact (show False from r).elim
 | some _=>cases u with
  | none=>exact (show False from r).elim
  | some _=>rfl
theorem KV.val {kvs:List (κ × V)} {vs:List (κ × Value)} (r:KV kvs vs) (k:κ):RelO (valV kvs k) (valueAt vs k):=by
 unfold KV at r
 induction r with
 | nil=>exact True.intro
 | @cons p q ps qs h t ih=>
  obtain ⟨h1,h2⟩:=h
  by_cases e:p.1=k
  ·have e':q.1=k:=h1.symm.trans e
   have b:valueAt (q :: qs) k=some q.2:=by simp [valueAt,List.find?_cons,e']
   rw [Zeu e,b]; exact h2
  ·have e':¬ q.1=k:=fun z=>e (h1.trans z)
   have b:valueAt (q :: qs) k=valueAt qs k:=by simp [valueAt,List.find?_cons,e']
   rw [Zfj e,b]; exact ih
theorem KV.any {kvs:List (κ × V)} {vs:List (κ × Value)} (r:KV kvs vs) (k:κ):(kvs.any fun kv=>decide (kv.1=k))=vs.any fun kv=>decide (kv.1=k):=by
 unfold KV at r
 induction r with
 | nil=>rfl
 | cons h t ih=>rw [List.any_cons,List.any_cons,ih,h.1]
theorem KV.repl {kvs:List (κ × V)} {vs:List (κ × Value)} (r:KV kvs vs) (k:κ) {y:V} {u:Value} (ry:RelV y u) :
  KV (kvs.map fun kv=>if kv.1=k then (kv.1,y) else kv) (vs.map fun kv=>if kv.1=k then (kv.1,u) else kv):=by
 unfold KV at r ⊢
 induction r with
 | nil=>exact .nil
 | @cons p q ps qs h t ih=>
  rw [List.map_cons,List.map_cons]
  refine .cons ?_ ih
  obtain ⟨h1,h2⟩:=h
  by_cases e:p.1=k
  ·rw [if_pos e,if_pos (h1.symm.trans e)]; exact ⟨h1,ry⟩
  ·rw [if_neg e,if_neg (fun z=>e (h1.trans z))]; exact ⟨h1,h2⟩
theorem KV.put {kvs:List (κ × V)} {vs:List (κ × Value)} (r:KV kvs vs) (k:κ) {y:V} {u:Value} (ry:RelV y u):KV (putK kvs k y) (stored vs k u):=by
 unfold putK stored
 rw [r.any k]
 by_cases e:(vs.any fun kv=>decide (kv.1=k))=true
 ·rw [if_pos e,if_pos e]; exact r.repl k ry
 ·rw [if_neg e,if_neg e]; exact Paired.snoc r ⟨rfl,ry⟩
theorem KV.length {kvs:List (κ × V)} {vs:List (κ × Value)} (r:KV kvs vs):kvs.length=vs.length:=Paired.length r
end
theorem Zk7 {P:Program} {w:World} {k:Key} {u:Value} (r:RelV (kV k) u):(mixKind P w).is k u=true:=by
 cases k with
 | inl i=>obtain ⟨t,e⟩:=(show ∃ t,u=Value.int i t from r); subst e; exact Zg7 P w i t
 | inr x=>obtain ⟨t,e⟩:=(show ∃ t,u=Value.str x t from r); subst e; exact Zg3 P w x t
theorem Zft {P:Program} {w:World}:∀ {ks:List Key} {us:List Value},Vals (ks.map kV) us->ItemsAre (mixKind P w) ks us
 | [],_,r=>by rw [List.map_nil] at r; cases r; exact .nil
 | k :: ks,_,r=>by
  rw [List.map_cons] at r
  cases r with
  | cons h t=>exact .cons (Zk7 h) (Zft t)
abbrev KT (H:Hp):List (List Key × V)->List (List Key × Addr × Value)->Prop:=Paired fun p q=>p.1=q.1/\H q.2.1=some (.tup (p.1.map kV))/\RelV p.2 q.2.2
theorem KT.val {H:Hp} {kvs:List (List Key × V)} {xs:List (List Key × Addr × Value)} (r:KT H kvs xs) (k:List Key):RelO (valV kvs k) ((atKey xs k).map (·.2)):=by
 induction r with
 | nil=>exact True.intro
 | @cons p q ps qs h t ih=>
  obtain ⟨h1,_,h2⟩:=h
  by_cases e:p.1=k
  ·have e':q.1=k:=h1.symm.trans e
   have b:atKey (q :: qs) k=some q.2:=by simp [atKey,List.find?_cons,e']
   rw [Zeu e,b]; exact h2
  ·have e':¬ q.1=k:=fun z=>e (h1.trans z)
   have b:atKey (q :: qs) k=atKey qs k:=by simp [atKey,List.find?_cons,e']
   rw [Zfj e,b]; exact ih
theorem KT.repl {H:Hp} {kvs:List (List Key × V)} {xs:List (List Key × Addr × Value)} (r:KT H kvs xs) (k:List Key) {y:V} {u:Value} (ry:RelV y u) :
  KT H (kvs.map fun kv=>if kv.1=k then (kv.1,y) else kv) (xs.map (putAt k u)):=by
 induction r with
 | nil=>exact .nil
 | @cons p q ps qs h t ih=>
  rw [List.map_cons,List.map_cons]
  refine .cons ?_ ih
  obtain ⟨h1,h2,h3⟩:=h
  unfold putAt
  by_cases e:p.1=k
  ·rw [if_pos e,if_pos (h1.symm.trans e)]; exact ⟨h1,h2,ry⟩
  ·rw [if_neg e,if_neg (fun z=>e (h1.trans z))]; exact ⟨h1,h2,h3⟩
theorem KT.put {H:Hp} {kvs:List (List Key × V)} {xs:List (List Key × Addr × Value)} (r:KT H kvs xs) (k:List Key) {b:Addr} {y:V} {u:Value} (hb:H b=some (.tup (k.map kV))) (ry:RelV y u) :
  KT H (putK kvs k y) (storedH xs k b u):=by
 have e:(kvs.any fun kv=>decide (kv.1=k))=(atKey xs k).isSome:=by
  rw [Zhq,(r.val k).isSome_eq,Option.isSome_map]
 unfold putK storedH
 rw [e]
 by_cases q:(atKey xs k).isSome=true
 ·rw [if_pos q,if_pos q]; exact r.repl k ry
 ·rw [if_neg q,if_neg q]; exact Paired.snoc r ⟨rfl,hb,ry⟩
theorem KT.keeps {H H':Hp} {kvs:List (List Key × V)} {xs:List (List Key × Addr × Value)} (r:KT H kvs xs) (ht:∀ b ys,H b=some (.tup ys)->H' b=some (.tup ys)):KT H' kvs xs:=
 Paired.mapP r fun _ _ z=>⟨z.1,ht _ _ z.2.1,z.2.2⟩
section
variable {P:Program} {w:World} {H:Hp} {h:Heap} {a:Addr}
theorem Zn9 {u:HO} (ok:HOk P w H h) (e:Rd H a u):ObjOk P w H h a u:=e.ok ok
theorem Zjn {kvs:List (Key × V)} (ok:HOk P w H h) (e:Rd H a (.dK kvs)):kvs.length<=sizeLine/\(a == sysModules)=false/\∃ vs,KV kvs vs/\h.DictOf (mixKind P w) a vs:=
 show ObjOk P w H h a (.dK kvs) from Zn9 ok e
theorem Zpx {kvs:List (Key × V)} (ok:HOk P w H h) (e:H a=some (.dK kvs)):kvs.length<=sizeLine/\(a == sysModules)=false/\∃ vs,KV kvs vs/\h.DictOf (mixKind P w) a vs:=Zjn ok (.inl e)
theorem Zhj {ks:List Key} (ok:HOk P w H h) (e:H a=some (.tup (ks.map kV))):(tupleKind (mixKind P w)).is h ks a:=by
 obtain ⟨_,its,r,o,h1,⟨h2,n,h3⟩,_⟩:=(show ObjOk P w H h a (.tup (ks.map kV)) from ok a _ e)
 exact ⟨o,its.toArray,n,h1,h2,h3,by simpa using Zft r⟩
theorem Zkn {kvs:List (List Key × V)} (ok:HOk P w H h) (e:Rd H a (.dT kvs)):kvs.length<=sizeLine/\(a == sysModules)=false ∧
  ∃ xs,KT H kvs xs/\h.DictOfH (tupleKind (mixKind P w)) a xs:=by
 obtain ⟨z,y,xs,r,o,es,ep,h1,h2,h3,h4,h5⟩:=(show ObjOk P w H h a (.dT kvs) from Zn9 ok e)
 refine ⟨z,y,xs,r,o,es,ep,h1,h2,h3,h4,fun x hx=>?_,h5⟩
 have all:∀ {l:List (List Key × V)} {m:List (List Key × Addr × Value)},KT H l m->∀ x ∈ m,(tupleKind (mixKind P w)).is h x.1 x.2.1:=by
  intro l m q
  induction q with
  | nil=>intro x hx; exact nomatch hx
  | @cons p q ps qs hq t ih=>
   intro x hx
   rcases List.mem_cons.mp hx with e | hx
   ·subst e
    exact Zhj ok (by rw [<- hq.1]; exact hq.2.1)
   ·exact ih x hx
 exact all r x hx
theorem Zpu {kvs:List (List Key × V)} (ok:HOk P w H h) (e:H a=some (.dT kvs)):kvs.length<=sizeLine/\(a == sysModules)=false ∧
  ∃ xs,KT H kvs xs/\h.DictOfH (tupleKind (mixKind P w)) a xs:=Zkn ok (.inl e)
end
def DGet (H:Hp) (a:Addr) (y:V) (r:Option V):Prop:=
 (∃ kvs k,Rd H a (.dK kvs)/\y=kV k/\r=valV kvs k)\/∃ kvs k b,Rd H a (.dT kvs)/\y=.ref b/\H b=some (.tup (k.map kV))/\r=valV kvs k
def DPut (H:Hp) (a:Addr) (y v:V) (H':Hp):Prop:=
 (∃ kvs k,H a=some (.dK kvs)/\y=kV k/\kvs.length < sizeLine/\H' = upd H a (.dK (putK kvs k v))) ∨
 ∃ kvs k b,H a=some (.dT kvs)/\y=.ref b/\H b=some (.tup (k.map kV))/\kvs.length < sizeLine/\H' = upd H a (.dT (putK kvs k v))
section
variable {X:Cx} {pins:List (Addr × Obj)} {σ:St} {H:Hp} {s:Shared} {a:Addr} {y v:V} {u r:Value} {o:Option V} {A:Around} {E:Value->Shared->Prop}
theorem Zjv {Q:Value->Shared->Prop} (hu:A.units + 1 < cLine) (I:Inv X pins σ H s) (g:DGet H a y (some v)) (ry:RelV y u) (h:∀ w' s',Inv X pins σ H s' -> RelV v w' -> Q w' s') :
  wpAny (model X.prog X.w) A (getItem (.ref a) u) Q E s:=by
 rcases g with ⟨kvs,k,e,ey,l⟩ | ⟨kvs,k,b,e,ey,eb,l⟩
 ·subst ey
  obtain ⟨z,hd,vs,rel,dd⟩:=Zjn I.hok e
  obtain ⟨w',hw,rw'⟩:=RelO.some_of (v:=v) (o:=valueAt vs k) (by rw [l]; exact rel.val k)
  exact wpAny_getItem_of (Zk7 ry) dd.mapOf hw (h w' _ (I.tok _) rw')
 ·subst ey
  cases (show u=Value.ref b from ry)
  obtain ⟨z,hd,xs,rel,dd⟩:=Zkn I.hok e
  obtain ⟨w',hw,rw'⟩:=RelO.some_of (v:=v) (o:=(atKey xs k).map (·.2)) (by rw [l]; exact rel.val k)
  obtain ⟨p,hp,hp2⟩:=Option.map_eq_some_iff.mp hw
  refine wpAny_getItem_heap (tupleKind_room_in1 hu) (Zhj I.hok eb) dd hp ?_
  rw [hp2]
  exact h w' _ (I.tok _) rw'
theorem d_in {Q:Value->Shared->Prop} (hu:A.units + 1 < cLine) (I:Inv X pins σ H s) (g:DGet H a y o) (ry:RelV y u) (h:∀ s',Inv X pins σ H s' -> Q (.bool o.isSome) s') :
  wpAny (model X.prog X.w) A (compareOp .In u (.ref a)) Q E s:=by
 rcases g with ⟨kvs,k,e,ey,l⟩ | ⟨kvs,k,b,e,ey,eb,l⟩
 ·subst ey
  obtain ⟨z,hd,vs,rel,dd⟩:=Zjn I.hok e
  refine wpAny_in_of (Zk7 ry) hd dd.mapOf ?_
  rw [<- (rel.val k).isSome_eq,<- l]
  exact h _ (I.tok _)
 ·subst ey
  cases (show u=Value.ref b from ry)
  obtain ⟨z,hd,xs,rel,dd⟩:=Zkn I.hok e
  refine wpAny_in_heap (tupleKind_room_in1 hu) (Zhj I.hok eb) hd dd ?_
  have q:=(rel.val k).isSome_eq
  rw [Option.isSome_map] at q
  rw [<- q,<- l]
  exact h _ (I.tok _)
theorem Zif {h':Heap} {t':Nat} {ob:HO} (I:Inv X pins σ H s) (mu:Mut (H a)) (hs:Heap.SameBut a s.heap h') (he:∃ q,h'.get? a=some q) (new:ObjOk X.prog X.w (upd H a ob) h' a ob) :
  Inv X pins σ (upd H a ob) { s with heap:=h',toks:=t' }:=
 I.write (x:=a) (e:=a) mu (.inl rfl) (fun b q hb z=>(hs.2 b hb).trans z) he new
theorem Zoq {P:Program} {w:World} {H':Hp} {h':Heap} {kvs:List (Key × V)} {vs:List (Key × Value)} (z:kvs.length<=sizeLine) (hd:(a == sysModules)=false) (rel:KV kvs vs) (dd:h'.DictOf (mixKind P w) a vs) :
  ObjOk P w H' h' a (.dK kvs):=⟨z,hd,vs,rel,dd⟩
theorem Zji {H':Hp} {Q:Unit->Shared->Prop} (hu:A.units + 1 < cLine) (I:Inv X pins σ H s) (g:DPut H a y v H') (ry:RelV y u) (rv:RelV v r) (h:∀ s',Inv X pins σ H' s' -> Q () s') :
  wpAny (model X.prog X.w) A (setItem (.ref a) u r) Q E s:=by
 rcases g with ⟨kvs,k,e,ey,l,eH⟩ | ⟨kvs,k,b,e,ey,eb,l,eH⟩
 ·subst ey eH
  obtain ⟨z,hd,vs,rel,dd⟩:=Zpx I.hok e
  have hz:vs.length<=sizeLine:=by rw [<- rel.length]; exact z
  have hl:(putK kvs k v).length<=sizeLine:=by have:=Zed kvs k v; omega
  refine wpAny_setItem_pairs (hsz:=hz) (Zk7 ry) dd fun h' dd' hs=>h _ ?_
  have he:∃ q,h'.get? a=some q:=let ⟨q,_,_,hq,_⟩:=dd'; ⟨q,hq⟩
  exact Zif I (by rw [e]; exact True.intro) hs he (Zoq hl hd (rel.put k rv) dd')
 ·subst ey eH
  cases (show u=Value.ref b from ry)
  obtain ⟨z,hd,xs,rel,dd⟩:=Zpu I.hok e
  have hz:xs.length<=sizeLine:=by rw [<- Paired.length rel]; exact z
  have hl:(putK kvs k v).length<=sizeLine:=by have:=Zed kvs k v; omega
  refine wpAny_setItem_heap (hsz:=hz) (tupleKind_room_in1 hu) (Zhj I.hok eb) dd fun h' dd' hs=>h _ ?_
  obtain ⟨q,es,ep,hq,h2,h3,h4,_,h5⟩:=dd'
  refine Zif I (by rw [e]; exact True.intro) hs ⟨q,hq⟩ ⟨hl,hd,_,(rel.put k eb rv).keeps fun c ys ec=>?_,q,es,ep,hq,h2,h3,h4,h5⟩
  rw [Zai (Zpv ec e (fun z=>nomatch z))]
  exact ec
end
section
variable {X:Cx} {pins:List (Addr × Obj)} {σ:St} {H:Hp} {s:Shared} {a:Addr} {kvs:List (Key × V)} {k:Key} {u:Value} {A:Around} {E:Value->Shared->Prop}
theorem Zpy {Q:Value->Shared->Prop} (I:Inv X pins σ H s) (e:Rd H a (.dK kvs)) (h:∀ t s',Inv X pins σ H s' -> Q (.int kvs.length t) s'):wpAny (model X.prog X.w) A (call (.builtin "len") [.ref a]) Q E s:=by
 obtain ⟨z,hd,vs,rel,dd⟩:=Zjn I.hok e
 refine call_len_dict hd dd (by rw [<- rel.length]; rw [sizeLine_eq] at z; omega) ?_
 rw [<- rel.length]
 exact h _ _ (I.tok _)
end
theorem Zg8 {X:Cx} {pins:List (Addr × Obj)} {σ:St} {H:Hp} {s:Shared} {a:Addr} {y:V} {o:Option V} (I:Inv X pins σ H s) (g:DGet H a y o):s.TypeIs (.ref a) "dict":=by
 rcases g with ⟨kvs,k,e,_,_⟩ | ⟨kvs,k,b,e,_,_,_⟩
 ·obtain ⟨_,_,vs,_,dd⟩:=Zjn I.hok e
  exact dd.typeIs
 ·obtain ⟨_,_,xs,_,dd⟩:=Zkn I.hok e
  exact dd.typeIs
section
variable {X:Cx} {pos:Pos}
end
section
variable {X:Cx} {o e f:Expr} {apos cpos:Pos} {td ty tx:TE}
end
section
variable {X:Cx} {pins:List (Addr × Obj)} {σ:St} {H:Hp} {s:Shared} {a:Addr} {y:V} {u:Value} {A:Around} {E:Value->Shared->Prop}
end
end L2
namespace L2
open PySem PySem.Spec PyProof.Rows
section
variable {X:Cx}
theorem Zjw:CallR X (.builtin "len") (fun xs H Q=>∃ a kvs,xs=[V.ref a]/\H a=some (.dK kvs)/\Q (.int kvs.length) H):=by
 intro pins s σ H xs us Q I r h
 obtain ⟨a,kvs,rfl,ha,q⟩:=h
 obtain ⟨u,rfl,ru⟩:=vals1 r
 cases ru
 exact Zpy I (.inl ha) fun t s' I'=>⟨.int kvs.length,H,I',⟨t,rfl⟩,q⟩
end
end L2
set_option Elab.async false
set_option linter.all false
set_option maxRecDepth 100000
namespace L2
open PySem PySem.Spec PyProof.Rows
def clOf (env:Env):List (Str × NameKind)->List (Str × Addr)->List (Str × Addr)
 | [],cs=>cs
 | (n,k) :: r,cs=>if k == .free then (match env.cells.lookup n with
     | some a=>clOf env r ((n,a) :: cs)
     | none=>clOf env r cs) else clOf env r cs
theorem Zdv {env:Env}:∀ (names:List (Str × NameKind)) (cs:List (Str × Addr)),(∀ n,(n,NameKind.free) ∈ names->∃ a,env.cells.lookup n=some a) →
  (forIn names cs fun (x:Str × NameKind) (cs:List (Str × Addr))=>if (x.2 == .free)=true then (do let a ← cellOf env x.1; pure (ForInStep.yield ((x.1,a) :: cs))) else pure (ForInStep.yield cs):Sem (List (Str × Addr)))=pure (clOf env names cs)
 | [],cs,_=>rfl
 | (n,k) :: r,cs,h=>by
  rw [List.forIn_cons]
  have hr:∀ m,(m,NameKind.free) ∈ r->∃ a,env.cells.lookup m=some a:=fun m hm=>h m (List.mem_cons_of_mem _ hm)
  cases hk:k == NameKind.free with
  | false=>
   have e:clOf env ((n,k) :: r) cs=clOf env r cs:=by simp [clOf,hk]
   rw [e,<- Zdv r cs hr]
   simp only [hk,Bool.false_eq_true,if_false]
   rfl
  | true=>
   have hk':k=.free:=by simpa using hk
   subst hk'
   obtain ⟨a,ha⟩:=h n List.mem_cons_self
   have e:clOf env ((n,.free) :: r) cs=clOf env r ((n,a) :: cs):=by simp [clOf,ha]
   have ec:cellOf env n=pure a:=by simp [cellOf,ha]
   rw [e,<- Zdv r ((n,a) :: cs) hr]
   simp only [hk,if_true,ec]
   rfl
theorem Zcl {env:Env} {scope:Scope} (h:∀ n,(n,NameKind.free) ∈ scope.names->∃ a,env.cells.lookup n=some a):closureFor scope env=pure (clOf env scope.names []):=by
 rw [<- Zdv scope.names [] h]
 simp only [closureFor]
 exact Eq.trans (bind_pure _) rfl
theorem Zba {env:Env}:∀ (names:List (Str × NameKind)) (cs:List (Str × Addr)) {x:Str} {c:Addr},(∀ y d,cs.lookup y=some d->env.cells.lookup y=some d)->(clOf env names cs).lookup x=some c->env.cells.lookup x=some c
 | [],cs,x,c,h,e=>h x c e
 | (n,k) :: r,cs,x,c,h,e=>by
  unfold clOf at e
  split at e
  ·split at e
   ·rename_i a ha
    refine Zba r ((n,a) :: cs) (fun y d q=>?_) e
    rw [List.lookup_cons] at q
    split at q
    ·rename_i hy
     have hy':y=n:=by simpa using hy
     cases q
     rw [hy']; exact ha
    ·exact h y d q
   ·exact Zba r cs h e
  ·exact Zba r cs h e
theorem Zc7 {env:Env}:∀ (names:List (Str × NameKind)) (cs:List (Str × Addr)) {x:Str},(∃ c,cs.lookup x=some c)->∃ c,(clOf env names cs).lookup x=some c
 | [],cs,x,h=>h
 | (n,k) :: r,cs,x,h=>by
  have h2:∀ a,∃ c,((n,a) :: cs).lookup x=some c:=fun a=>by
   rw [List.lookup_cons]
   split
   ·exact ⟨_,rfl⟩
   ·exact h
  unfold clOf
  split
  ·split
   ·exact Zc7 r _ (h2 _)
   ·exact Zc7 r cs h
  ·exact Zc7 r cs h
theorem Zc3 {env:Env}:∀ (names:List (Str × NameKind)) (cs:List (Str × Addr)) {x:Str},(x,NameKind.free) ∈ names->(∃ a,env.cells.lookup x=some a)->∃ c,(clOf env names cs).lookup x=some c
 | [],_,_,h,_=>by simp at h
 | (n,k) :: r,cs,x,h,⟨a,ha⟩=>by
  rcases List.mem_cons.mp h with e | hm
  ·have e1:n=x:=(congrArg Prod.fst e).symm
   have e2:k=.free:=(congrArg Prod.snd e).symm
   subst e1; subst e2
   have e:clOf env ((n,.free) :: r) cs=clOf env r ((n,a) :: cs):=by simp [clOf,ha]
   rw [e]
   exact Zc7 r _ ⟨a,by simp⟩
  ·unfold clOf
   split
   ·split
    ·exact Zc3 r _ hm ⟨a,ha⟩
    ·exact Zc3 r _ hm ⟨a,ha⟩
   ·exact Zc3 r _ hm ⟨a,ha⟩
def relab (osc scope:Scope):Scope:=
 { scope with names:=scope.names.map fun (n,k)=>if (k == .free && osc.kind == .function && osc.names.lookup n == some .cell) then (n,.cell) else (n,k) }
theorem Zgc {osc scope:Scope} {x:Str} {k:NameKind} (hk:k=.cell\/k=.free) (hc:∀ y ∈ scope.names,y.2 ≠ .cell) (h:(relab osc scope).names.lookup x=some k):(x,NameKind.free) ∈ scope.names:=by
 have hm:=PySem.mem_of_lookup h
 obtain ⟨⟨n,j⟩,hy,e⟩:=List.mem_map.mp hm
 dsimp only at e
 split at e
 ·rename_i hj
  have e1:n=x:=congrArg Prod.fst e
  have hj':j=.free:=by
   simp only [Bool.and_eq_true,beq_iff_eq] at hj
   exact hj.1.1
  rw [<- e1,<- hj']; exact hy
 ·have e1:n=x:=congrArg Prod.fst e
  have e2:j=k:=congrArg Prod.snd e
  rcases hk with z | z
  ·exact absurd (show ((n,j):Str × NameKind).2=.cell from e2.trans z) (hc _ hy)
  ·rw [<- e1,<- z,<- e2]; exact hy
theorem Zej {osc:Scope} {x:Str}:∀ {names:List (Str × NameKind)},names.lookup x=some .free →
  (names.map fun (n,k)=>if (k == NameKind.free && osc.kind == .function && osc.names.lookup n == some .cell) then (n,NameKind.cell) else (n,k)).lookup x=some .cell ∨
  (names.map fun (n,k)=>if (k == NameKind.free && osc.kind == .function && osc.names.lookup n == some .cell) then (n,NameKind.cell) else (n,k)).lookup x=some .free
 | [],h=>by simp at h
 | (n,k) :: r,h=>by
  have ih:=@Zej osc x r
  rw [List.map_cons]
  cases hx:x == n with
  | true=>
   simp only [List.lookup_cons,hx] at h
   cases h
   dsimp only
   split
   ·left; simp [List.lookup_cons,hx]
   ·right; simp [List.lookup_cons,hx]
  | false=>
   simp only [List.lookup_cons,hx] at h
   dsimp only
   split
   ·simpa only [List.lookup_cons,hx] using ih h
   ·simpa only [List.lookup_cons,hx] using ih h
structure CompSc (osc:Scope) (oN:List Str) (scope:Scope) (fvs:List Str) (sel:List Nat):Prop where
 kind:scope.kind=.function
 nocell:∀ y ∈ scope.names,y.2 ≠ .cell
 names:∀ y ∈ scope.names,y.2=.local->scope.names.lookup y.1=some .local
 free:∀ y ∈ scope.names,y.2=.free->osc.names.lookup y.1=some .cell\/osc.names.lookup y.1=some .free
 len:fvs.length=sel.length
 fv:∀ p ∈ fvs.zip sel,oN[p.2]? = some p.1/\scope.names.lookup p.1=some .free
def compCx (X:Cx) (scope:Scope) (N:List Str) (C:Addr) (s:Shared) (H:Hp) (ex:List Addr) (pn:List (Addr × Obj)):Cx where
 prog:=X.prog
 w:=X.w
 K:=X.K
 mg:=X.mg
 base:=X.base
 A:=X.A
 N:=N
 s₀:=s
 H₀:=H
 env:=compEnvC scope (clOf X.env scope.names []) C X.env
 outer:=X.stack
 stack:=X.stack
 ex:=ex
 fn:=fun _=>false
 calm:=X.calm
 pn:=pn
 xe:=fun _ _=>False
def compSt (n:Nat) (sel:List Nat) (σ:St):St:=List.replicate n none ++ sel.map fun i=>(σ[i]?).getD none
section
variable {X:Cx} {pins:List (Addr × Obj)} {σ:St} {H:Hp} {s:Shared} {fp:List Addr} {scope:Scope} {tgs fvs:List Str} {sel:List Nat}
theorem Zdd (S:CompSc X.env.scope X.N scope fvs sel) (ok:X.Ok):∀ n,(n,NameKind.free) ∈ scope.names->∃ a,X.env.cells.lookup n=some a:=fun n hn=>
 ok.has n (S.free _ hn rfl)
theorem Znd (S:CompSc X.env.scope X.N scope fvs sel) (N:List Str) (I:Inv X pins σ H s) (hf:∀ b ∈ fp,FpOk X pins H b) (hlt:∀ b ∈ fp,b < s.heap.objs.size):(compCx X scope N s.heap.objs.size s H fp (X.pn ++ pins)).Ok where
 mod:=I.ok.mod
 kind:=S.kind
 glob:=I.ok.glob
 blt:=I.ok.blt
 above:=Nat.le_refl _
 inj:=fun x y c h1 h2=>I.ok.inj x y c (Zba _ _ (fun _ _ z=>by simp at z) h1) (Zba _ _ (fun _ _ z=>by simp at z) h2)
 has:=fun x hx=>by
  have hm:(x,NameKind.free) ∈ scope.names:=by
   rcases hx with z | z
   ·exact Zgc (osc:=X.env.scope) (.inl rfl) S.nocell z
   ·exact Zgc (osc:=X.env.scope) (.inr rfl) S.nocell z
  exact Zc3 scope.names [] hm (Zdd S I.ok x hm)
 cab:=fun x c h _=>by cases h
 hd:=I.ok.hd
 frames:=I.ok.frames
 stk:=.inl rfl
 exf:=fun b hb=>⟨Nat.ne_of_lt (hlt b hb),fun x c e=>(hf b hb).2.2.2.2.1 x c (Zba _ _ (fun _ _ z=>by simp at z) e)⟩
 bs:=I.bs
 bsz:=Nat.le_trans I.ok.bsz I.sz
 noex:=fun b o e hb=>by
  rcases (hf b hb).2.2.2.1 with z | z
  ·exact I.ok.noex b o e z
  ·exact absurd (Nat.lt_of_lt_of_le (Heap.lt_size e) (Nat.le_trans I.ok.bsz z)) (Nat.lt_irrefl _)
 exfs:=fun b hb z=>by
  rcases List.mem_cons.mp (I.stkSub b z) with e | z
  ·exact (hf b hb).2.1 e
  ·exact (hf b hb).2.2.1 z
 funs:=I.stack
 frf:=I.stkFree
theorem Zla (S:CompSc X.env.scope X.N scope fvs sel) (I:Inv X pins σ H s) (hf:∀ b ∈ fp,FpOk X pins H b) (hlt:∀ b ∈ fp,b < s.heap.objs.size) {h':Heap} {tk:Nat} {m:Str->Option Value}
  (hns:h'.Ns s.heap.objs.size m) (old:∀ b o,s.heap.get? b=some o->h'.get? b=some o) :
  Inv (compCx X scope (tgs ++ fvs) s.heap.objs.size s H fp (X.pn ++ pins)) [] (compSt tgs.length sel σ) H { s with heap:=h',toks:=tk } where
 ok:=Znd S _ I hf hlt
 os:=rfl
 bare:=I.bare
 base:=Un.kept old
 loc:=by
  refine ⟨m,hns,fun i x v h1 h2 h3=>?_⟩
  have h1:(tgs ++ fvs)[i]? = some x:=h1
  unfold compSt at h2
  by_cases hi:i < tgs.length
  ·rw [List.getElem?_append_left (by simpa using hi),List.getElem?_replicate,if_pos hi] at h2
   cases h2
  ·have hi':tgs.length<=i:=Nat.le_of_not_lt hi
   rw [List.getElem?_append_right (by simpa using hi'),List.getElem?_map,List.length_replicate] at h2
   rw [List.getElem?_append_right hi'] at h1
   cases hj:sel[i - tgs.length]? with
   | none=>rw [hj] at h2; cases h2
   | some j=>
    rw [hj] at h2
    have h2:(σ[j]?).getD none=some v:=by simpa using h2
    have hz:(x,j) ∈ fvs.zip sel:=by
     refine List.mem_of_getElem? (i:=i - tgs.length) ?_
     rw [List.getElem?_zip_eq_some]
     exact ⟨h1,hj⟩
    obtain ⟨hN,hfr⟩:=S.fv _ hz
    have hσ:σ[j]? = some (some v):=by
     cases q:σ[j]? with
     | none=>rw [q] at h2; cases h2
     | some o=>rw [q] at h2; exact congrArg some h2
    have hko:X.env.scope.names.lookup x=some .cell\/X.env.scope.names.lookup x=some .free:=S.free (x,.free) (PySem.mem_of_lookup hfr) rfl
    obtain ⟨m0,hn0,hl0⟩:=I.loc
    obtain ⟨u,r,l⟩:=hl0 j x v hN hσ (.inr hko)
    refine ⟨u,r,.inr ⟨Zej hfr,?_⟩⟩
    rcases l with ⟨hk,_⟩ | ⟨_,c,hc,hcell⟩
    ·have hk:X.env.scope.names.lookup x=some .local:=hk
     rcases hko with z | z <;> (rw [hk] at z; cases z)
    ·obtain ⟨c',hc'⟩:=Zc3 scope.names [] (PySem.mem_of_lookup hfr) ⟨c,hc⟩
     have e:=Zba scope.names [] (fun _ _ z=>by simp at z) hc'
     rw [hc] at e; cases e
     obtain ⟨o,ho,hd⟩:=hcell
     exact ⟨c,hc',o,old _ _ ho,hd⟩
 cell:=fun x c e=>by
  obtain ⟨v,o,ho,hd⟩:=I.cell x c (Zba _ _ (fun _ _ z=>by simp at z) e)
  exact ⟨v,o,old _ _ ho,hd⟩
 free:=I.hok.fresh (Nat.le_refl _)
 freeC:=fun x c e=>I.freeC x c (Zba _ _ (fun _ _ z=>by simp at z) e)
 pin:=fun p hp=>by
  have hp:p ∈ (X.pn ++ pins) ++ []:=hp
  rw [List.append_nil] at hp
  obtain ⟨e,n,ne,nf,d⟩:=I.pin p hp
  refine ⟨old _ _ e,n,Nat.ne_of_lt (Heap.lt_size e),fun z=>?_,d⟩
  rcases List.mem_cons.mp (I.stkSub p.1 z) with q | q
  ·exact ne q
  ·exact nf q
 hok:=I.hok.kept old
 len:=by
  unfold compSt
  show _=(tgs ++ fvs).length
  rw [List.length_append,List.length_append,List.length_replicate,List.length_map,S.len]
theorem Zih {N:List Str} {σ':St} {H':Hp} {s':Shared} {h':Heap} (I:Inv X pins σ H s) (hf:∀ b ∈ fp,FpOk X pins H b)
  (J:Inv (compCx X scope N s.heap.objs.size s H fp (X.pn ++ pins)) [] σ' H' s') (sb:Heap.SameBut s.heap.objs.size s'.heap h'):Inv X pins σ H' { s' with heap:=h' }:=by
 have B:Un (frs X.stack) fp H H' s.heap s'.heap:=J.base
 have ne:∀ b o,s.heap.get? b=some o->b ≠ s.heap.objs.size:=fun b o e=>Nat.ne_of_lt (Heap.lt_size e)
 have fr:H' s.heap.objs.size=none:=J.free
 refine I.call' (s':={ s' with heap:=h' }) (ch:=fp) J.os ⟨fun b o e n h1 h2=>?_,fun b o e n h1 h2=>?_,B.free,fun b o e h2=>?_,B.tups,B.frzs,B.tbls⟩ (fun b ob e=>?_) J.bare fun b hb=>?_
 ·exact (sb.2 b (ne b o e)).trans (B.keep b o e n h1 h2)
 ·obtain ⟨sl,q⟩:=B.slot b o e n h1 h2
  exact ⟨sl,(sb.2 b (ne b o e)).trans q⟩
 ·obtain ⟨o',q⟩:=B.there b o e h2
  exact ⟨o',(sb.2 b (ne b o e)).trans q⟩
 ·refine (J.hok b ob e).stay (fun c w' hc q=>(sb.2 c ?_).trans q) (fun _ q=>q) fun _ _ q=>q
  intro z
  rcases hc with hc | hc
  ·rw [<- hc,z,fr] at e; cases e
  ·rw [z,fr] at hc; cases hc
 ·exact ⟨(hf b hb).2.2.2.1,(hf b hb).2.1,(hf b hb).2.2.2.2.1,(hf b hb).2.2.2.2.2⟩
end
def PTs (X:Cx) (ifs:List Expr) (t:TT):Prop:=
 ∀ (pins:List (Addr × Obj)) (s:Shared) (σ:St) (H:Hp) (Q:Bool->Hp->Prop),Inv X pins σ H s->t σ H Q →
  wpAny (model X.prog X.w) X.A (forIn ifs true fun c r=>if r=true then do let ok ← isTrue c X.env (eval c X.env); pure (ForInStep.yield ok) else pure (ForInStep.yield r)) (TP X pins σ Q) X.xe s
def tTrue:TT:=fun _ H Q=>Q true H
theorem Zbo {X:Cx}:PTs X [] tTrue:=fun pins s σ H Q I h=>wpAny_tests_nil ⟨H,I,h⟩
theorem Zjp {X:Cx} {c:Expr} {t:TT} (h:PT X c t):PTs X [c] t:=fun pins s σ H Q I hq=>wpAny_tests_one (h pins s σ H Q I hq)
def tComp (n:Nat) (sel:List Nat) (wi:TI) (g:TG) (tc:TT) (te:TE):TE:=fun σ H Q=>wi σ H fun J H1=>∀ acc,H1 acc=none->∃ W:Nat->Nat->St->Hp->Prop,
 (∃ m,W 0 m (compSt n sel σ) (upd H1 acc (.lst [])))/\∀ i m σ' H',W i m σ' H' →
  (J.stop i H' /\ Q (.ref acc) H')\/(J.go i H' /\ ∃ N:St->Hp->Prop,(∀ σ2 H2,N σ2 H2->∃ m',m' < m/\W (i + 1) m' σ2 H2) ∧
   ∀ x H2,J.yld i H' x H2->g x σ' H2 fun σ2 H3=>tc σ2 H3 fun b H4=>if b=true then te σ2 H4 fun y H5=>∃ ys,H5 acc=some (.lst ys)/\ys.length < sizeLine/\N σ2 (upd H5 acc (.lst (ys ++ [y]))) else N σ2 H4)
section
variable {X:Cx}
theorem Zfo {elt tg iter:Expr} {ifs:List Expr} {scope:Scope} {pos:Pos} {tgs fvs:List Str} {sel:List Nat} {g:TG} {tc:TT} {te:TE} (S:CompSc X.env.scope X.N scope fvs sel) {Cm:Cx->Prop} (hc:∀ C s H ex pn,Cm (compCx X scope (tgs ++ fvs) C s H ex pn))
  (hg:∀ C s H ex pn,PG (compCx X scope (tgs ++ fvs) C s H ex pn) tg g) (ht:∀ C s H ex pn,PTs (compCx X scope (tgs ++ fvs) C s H ex pn) ifs tc) (he:∀ C s H ex pn,PE (compCx X scope (tgs ++ fvs) C s H ex pn) elt te)
  {pins:List (Addr × Obj)} {σ:St} {s:Shared} {itv:Value} {Q:VK} {E:Value->Shared->Prop} {RR:Value->Addr->Result->Shared->Prop}
  (h2:PIEG Cm X pins σ tg (fun J H1=>∀ acc,H1 acc=none->∃ W:Nat->Nat->St->Hp->Prop,
   (∃ m,W 0 m (compSt tgs.length sel σ) (upd H1 acc (.lst [])))/\∀ i m σ' H',W i m σ' H' →
   (J.stop i H' /\ Q (.ref acc) H')\/(J.go i H' /\ ∃ N:St->Hp->Prop,(∀ σ2 H2,N σ2 H2->∃ m',m' < m/\W (i + 1) m' σ2 H2) ∧
   ∀ x H2,J.yld i H' x H2->g x σ' H2 fun σ2 H3=>tc σ2 H3 fun b H4=>if b=true then te σ2 H4 fun y H5=>∃ ys,H5 acc=some (.lst ys)/\ys.length < sizeLine/\N σ2 (upd H5 acc (.lst (ys ++ [y]))) else N σ2 H4)) itv s)
  (fin:∀ (s':Shared) (C acc:Addr) (H':Hp) (m:Str->Option Value),s'.heap.Ns C m->FpOk X pins H' C->(∀ h',Heap.SameBut C s'.heap h' -> Inv X pins σ H' { s' with heap:=h' })->Q (.ref acc) H' -> RR (.ref acc) C (.ok .next) s') :
  wpAny (model X.prog X.w) X.A (newList []) (fun acc s3=>wpAny (model X.prog X.w) X.A (newFunctionEnv scope X.env.globals (clOf X.env scope.names []) [] X.env.qual none .none (some X.env)) (fun cenv s4=>
   codeAny (model X.prog X.w) X.A (.compStart (.ListComp elt [⟨tg,iter,ifs,0⟩] scope pos) 0 itv acc { cenv with scope:=relabel scope X.env }) (RR acc cenv.locals) s4) E s3) E s:=by
 obtain ⟨it,fp,tn,J,H1,e,I,T,st,f2,h2⟩:=h2
 subst e
 have hlt:∀ b ∈ fp,b < s.heap.objs.size:=fun b hb=>let ⟨o,ho,_⟩:=T.obj 0 _ st b hb; Heap.lt_size ho
 refine wpAny_newObj_type (wpAny_newFunctionEnv S.nocell (by intro y hy; simp at hy) (fun h1 hns hsb=>?_) S.kind)
 dsimp only at hns hsb ⊢
 have I3:Inv X pins σ (upd H1 s.heap.objs.size (.lst [])) { s with heap:=s.heap.push { cls:=.type "list",data:=.seq ([]:List Value).toArray },toks:=s.toks }:=I.lnew (its:=[]) .nil (by decide)
 have hacc:H1 s.heap.objs.size=none:=I.hok.fresh (Nat.le_refl _)
 obtain ⟨W,⟨m0,w0⟩,turn⟩:=h2 s.heap.objs.size hacc
 generalize hs3:({ s with heap:=s.heap.push { cls:=.type "list",data:=.seq ([]:List Value).toArray },toks:=s.toks }:Shared)=s3 at I3
 have hh3:s3.heap=s.heap.push { cls:=.type "list",data:=.seq ([]:List Value).toArray }:=by rw [<- hs3]
 have old3:∀ b o,s.heap.get? b=some o->s3.heap.get? b=some o:=fun b o q=>by rw [hh3]; exact Heap.get?_push_of_some _ q
 have hf3:∀ b ∈ fp,FpOk X pins (upd H1 s.heap.objs.size (.lst [])) b:=fun b hb=>⟨by rw [Zai (Nat.ne_of_lt (hlt b hb))]; exact (f2 b hb).1,(f2 b hb).2⟩
 have hlt3:∀ b ∈ fp,b < s3.heap.objs.size:=fun b hb=>by rw [hh3,Heap.size_push]; exact Nat.lt_succ_of_lt (hlt b hb)
 have tn3:tn 0 s3.heap:=T.keep 0 _ _ st fun b hb o q=>old3 b o q
 have old4:∀ b o,s3.heap.get? b=some o->h1.get? b=some o:=fun b o q=>by
  have hb:b ≠ s3.heap.objs.size:=Nat.ne_of_lt (Heap.lt_size q)
  rw [hh3] at hb q
  exact (hsb.2 b hb).trans (Heap.get?_push_of_some _ q)
 have tn4:tn 0 h1:=T.keep 0 _ _ tn3 fun b hb o q=>old4 b o q
 have hC:(s.heap.push { cls:=.type "list",data:=.seq ([]:List Value).toArray }).objs.size=s3.heap.objs.size:=by rw [hh3]
 rw [hC] at hns
 have J0:=Zla (tgs:=tgs) (tk:=s.toks + ([]:List (Str × Value)).length) S I3 hf3 hlt3 hns old4
 have es:({ s3 with heap:=h1,toks:=s.toks + ([]:List (Str × Value)).length }:Shared) = { s with heap:=h1,toks:=s.toks + ([]:List (Str × Value)).length }:=by rw [<- hs3]
 rw [es] at J0
 generalize hY:compCx X scope (tgs ++ fvs) s3.heap.objs.size s3 (upd H1 s.heap.objs.size (.lst [])) fp (X.pn ++ pins)=Y at J0
 have hYp:Y.prog=X.prog:=by rw [<- hY]; rfl
 have hYw:Y.w=X.w:=by rw [<- hY]; rfl
 have hYK:Y.K=X.K:=by rw [<- hY]; rfl
 have hYA:Y.A=X.A:=by rw [<- hY]; rfl
 have hYc:Cm Y:=by rw [<- hY]; exact hc _ _ _ _ _
 have hYx:Y.xe=fun _ _=>False:=by rw [<- hY]; rfl
 have hYe:Y.env=compEnvC scope (clOf X.env scope.names []) s3.heap.objs.size X.env:=by rw [<- hY]; rfl
 have stat:∀ {H':Hp},(∀ b ∈ fp,H' b=none)->∀ b ∈ fp,FpOk Y [] H' b:=fun hn b hb=>by
  rw [<- hY]
  refine ⟨hn b hb,Nat.ne_of_lt (hlt3 b hb),fun z=>?_,.inl hb,fun x c e=>?_,fun p hp z=>?_⟩
  ·rcases List.mem_cons.mp (I3.stkSub b z) with q | q
   ·exact (hf3 b hb).2.1 q
   ·exact (hf3 b hb).2.2.1 q
  ·exact (hf3 b hb).2.2.2.2.1 x c (Zba _ _ (fun _ _ z=>by simp at z) e)
  ·have hp:p ∈ (X.pn ++ pins) ++ []:=hp
   rw [List.append_nil] at hp
   exact (hf3 b hb).2.2.2.2.2 p hp z
 have loop:codeAny (model X.prog X.w) X.A (.compLoop (.ListComp elt [⟨tg,iter,ifs,0⟩] scope pos) 0 (.ref it) (.ref s.heap.objs.size) Y.env) (RR (.ref s.heap.objs.size) s3.heap.objs.size)
   { s with heap:=h1,toks:=s.toks + ([]:List (Str × Value)).length }:=by
  refine codeAny_loop rfl (fun n s'=>∃ i σ' H',Inv Y [] σ' H' s' /\ tn i s'.heap/\(∀ b ∈ fp,H' b=none)/\W i n σ' H') ?_ m0 ⟨0,_,_,J0,tn4,fun b hb=>(hf3 b hb).1,w0⟩
  rintro n s5 ⟨i,σ5,H5,I5,st5,fr5,w5⟩
  show wpAny _ X.A ((compTurn (.ListComp elt [⟨tg,iter,ifs,0⟩] scope pos) 0 (.ref it) (.ref s.heap.objs.size) Y.env).onRaise (fun x=>do noteFrame x Y.env; theTreesLotGoes x)) _ _ s5
  refine wpAny_noted (wpAny_mono (E:=fun _ _=>False) ?_ (fun _ _ q=>q) fun _ _ z=>z.elim)
  rw [compTurn_list]
  refine wpAny_bind (wpAny_standAt (wpAny_bind ?_))
  rcases turn i n σ5 H5 w5 with ⟨stop,qn⟩ | ⟨go,N,hN,step⟩
  ·have D:=T.done Y hYp hYw hYK hYc i [] s5 σ5 H5 (fun _ _=>False) I5 (stat fr5) st5 stop
   rw [hYA] at D
   refine thn D fun r s6 ⟨hr,I6⟩=>?_
   subst hr
   refine wpAny_pure ?_
   obtain ⟨m6,hn6,_⟩:=I6.loc
   rw [hYe] at hn6
   refine fin s6 _ _ H5 m6 hn6 (I3.fpOk (Nat.le_refl _) (by have z:=I6.free; rw [hYe] at z; exact z)) (fun h' sb=>?_) qn
   have I6':Inv (compCx X scope (tgs ++ fvs) s3.heap.objs.size s3 (upd H1 s.heap.objs.size (.lst [])) fp (X.pn ++ pins)) [] σ5 H5 s6:=by rw [hY]; exact I6
   exact Zih I3 hf3 I6' sb
  ·have D:=T.item Y hYp hYw hYK hYc i [] s5 σ5 H5 (fun _ _=>False) I5 (stat fr5) st5 go
   rw [hYA] at D
   refine thn D fun r s6 ⟨u,hr,h6⟩=>?_
   subst hr
   refine wpAny_bind (thn h6 fun _ s7 ⟨x,H7,I7,r7,y7,st7,fr7⟩=>?_)
   have I7':=I7.pinned (stat fr7) (T.obj _ _ st7)
   have G:=hg s3.heap.objs.size s3 (upd H1 s.heap.objs.size (.lst [])) fp (X.pn ++ pins)
   have TT:=ht s3.heap.objs.size s3 (upd H1 s.heap.objs.size (.lst [])) fp (X.pn ++ pins)
   have EE:=he s3.heap.objs.size s3 (upd H1 s.heap.objs.size (.lst [])) fp (X.pn ++ pins)
   rw [hY] at G TT EE
   have G1:=G _ s7 σ5 H7 x u _ I7' r7 (step x H7 y7)
   rw [hYp,hYw,hYA,hYx] at G1
   refine wpAny_bind (thn G1 fun _ s8 ⟨σ8,H8,I8,q8⟩=>?_)
   have T1:=TT _ s8 σ8 H8 _ I8 q8
   rw [hYp,hYw,hYA,hYx] at T1
   refine wpAny_bind (thn T1 fun ok s9 ⟨H9,I9,q9⟩=>?_)
   have again:∀ {s':Shared} {σ':St} {H':Hp},Inv Y ([] ++ pinsAt fp s7.heap) σ' H' s' -> N σ' H' -> ∃ m,m < n/\∃ i σ' H',Inv Y [] σ' H' s' /\ tn i s'.heap/\(∀ b ∈ fp,H' b=none)/\W i m σ' H':=fun {s' σ' H'} K7 n7=>by
    obtain ⟨m',hm,w7⟩:=hN σ' H' n7
    refine ⟨m',hm,i + 1,σ',H',K7.unpinned,T.keep _ _ _ st7 fun b hb o e=>(K7.pin (b,o) (List.mem_append_right _ (List.mem_append_right _ (Zct hb e)))).1,fun b hb=>?_,w7⟩
    obtain ⟨o,e,d⟩:=T.obj _ _ st7 b hb
    exact (K7.pin (b,o) (List.mem_append_right _ (List.mem_append_right _ (Zct hb e)))).2.1
   cases ok with
   | false=>
    have q9:N σ8 H9:=q9
    exact wpAny_pure ⟨by rw [hYe],again I9 q9⟩
   | true=>
    have q9:te σ8 H9 fun y H5=>∃ ys,H5 s.heap.objs.size=some (.lst ys)/\ys.length < sizeLine/\N σ8 (upd H5 s.heap.objs.size (.lst (ys ++ [y]))):=q9
    have E1:=EE _ s9 σ8 H9 _ I9 q9
    rw [hYp,hYw,hYA,hYx] at E1
    refine wpAny_bind (wpAny_bind (thn E1 fun v sa ⟨y,Ha,Ia,ra,ys,ea,za,na⟩=>?_))
    have M:=Zc1 (X:=Y) _ sa σ8 Ha (.ref s.heap.objs.size) [y] (.ref s.heap.objs.size) [v] (fun _ H=>N σ8 H) Ia rfl (.cons ra .nil) ⟨_,ys,y,rfl,rfl,ea,za,na⟩
    rw [hYp,hYw,hYA,hYx] at M
    refine wpAny_bind (thn M fun _ sb ⟨_,Hb,Ib,_,nb⟩=>wpAny_pure (wpAny_pure ⟨by rw [hYe],again Ib nb⟩))
 have hcs:(relabel scope X.env)=(relabel scope X.env):=rfl
 have loop':=loop
 rw [hYe] at loop'
 show codeAny (model X.prog X.w) X.A (.compStart (.ListComp elt [⟨tg,iter,ifs,0⟩] scope pos) 0 (.ref it) (.ref s.heap.objs.size) (compEnvC scope (clOf X.env scope.names []) (s.heap.push { cls:=.type "list",data:=.seq ([]:List Value).toArray }).objs.size X.env)) (RR (.ref s.heap.objs.size) (s.heap.push { cls:=.type "list",data:=.seq ([]:List Value).toArray }).objs.size) _
 rw [hC]
 exact codeAny_compStart_list loop' (T.self _ 0 _ _ _ tn4 loop')
theorem Zbf {elt tg iter:Expr} {ifs:List Expr} {scope:Scope} {pos:Pos} {fvs:List Str} {sel:List Nat} {wi:TI} {g:TG} {tc:TT} {te:TE} (tgs:List Str) (S:CompSc X.env.scope X.N scope fvs sel) (hc:X.calm=true)
  (hi:PI X tg iter wi) (hg:∀ C s H ex pn,PG (compCx X scope (tgs ++ fvs) C s H ex pn) tg g) (ht:∀ C s H ex pn,PTs (compCx X scope (tgs ++ fvs) C s H ex pn) ifs tc) (he:∀ C s H ex pn,PE (compCx X scope (tgs ++ fvs) C s H ex pn) elt te)
  (hs:∀ x,foldedSetIterable iter X.env x=pure x:=by intro _; rfl) :
  PE X (.ListComp elt [⟨tg,iter,ifs,0⟩] scope pos) (tComp tgs.length sel wi g tc te):=by
 intro pins s σ H Q I h
 rw [eval_ListComp]
 refine wpAny_comprehension_free (use:=none) rfl hs (Zcl (Zdd S I.ok)) S.kind S.names (thn (hi pins s σ H _ I h) fun v s1 h1=>thn h1 fun itv s2 h2=>?_)
 refine Zfo (Cm:=fun X=>X.calm=true) S (fun _ _ _ _ _=>hc) hg ht he (RR:=fun acc C=>compPost (model X.prog X.w) X.A X.xe none (EP X pins σ Q) acc C) (Q:=Q) h2 ?_
 intro s' C acc H' m hn _ hI q
 exact ⟨m,hn,fun h' sb=>⟨.ref acc,H',hI h' sb,rfl,q⟩⟩
theorem Zff {elt tg iter:Expr} {ifs:List Expr} {scope:Scope} {pos spos py:Pos} {fvs:List Str} {sel:List Nat} {wi:TI} {g:TG} {tc:TT} {te:TE} {i:Nat} {y:Str} (tgs:List Str) (S:CompSc X.env.scope X.N scope fvs sel) (hc:X.calm=true)
  (hN:X.N.Nodup) (hiy:X.N[i]? = some y) (hx:Loc X.env.scope y)
  (hi:PI X tg iter wi) (hg:∀ C s H ex pn,PG (compCx X scope (tgs ++ fvs) C s H ex pn) tg g) (ht:∀ C s H ex pn,PTs (compCx X scope (tgs ++ fvs) C s H ex pn) ifs tc) (he:∀ C s H ex pn,PE (compCx X scope (tgs ++ fvs) C s H ex pn) elt te)
  (hs:∀ x,foldedSetIterable iter X.env x=pure x:=by intro _; rfl) (hsw:swapsWith (.ListComp elt [⟨tg,iter,ifs,0⟩] scope pos) (some (.Name y py)) spos.line X.env=pure true:=by rfl)
  (hf:X.fn y=true\/X.env.scope.names.lookup y=some .local:=by first | exact .inl rfl | exact .inr rfl | assumption) :
  PS X (.Assign [.Name y py] (.ListComp elt [⟨tg,iter,ifs,0⟩] scope pos) spos) (tAsg (tComp tgs.length sel wi g tc te) (gName i)):=by
 intro pins s σ H D I h
 rw [exec_Assign_Name_used _ _ _ _ hsw]
 refine wpAny_bind (wpAny_standAt (wpAny_bind ?_))
 show wpAny _ X.A (do let _ ← comprehension (.ListComp elt [⟨tg,iter,ifs,0⟩] scope pos) scope X.env _ (newList []) false (eval iter X.env) (some (assign (.Name y py) X.env))) _ _ s
 refine wpAny_bind (wpAny_mono (wpAny_comprehension_free (use:=some (assign (.Name y py) X.env)) (Q:=fun _ s'=>SP X pins D .next s') rfl hs (Zcl (Zdd S I.ok)) S.kind S.names
  (thn (hi pins s σ H _ I h) fun v s1 h1=>thn h1 fun itv s2 h2=>?_)) (fun _ s' hq=>wpAny_pure (wpAny_pure hq)) fun _ _ e=>e)
 refine Zfo (Cm:=fun X=>X.calm=true) S (fun _ _ _ _ _=>hc) hg ht he (RR:=fun acc C=>compPost (model X.prog X.w) X.A X.xe (some (assign (.Name y py) X.env)) (fun _ s'=>SP X pins D .next s') acc C) (Q:=fun v H'=>D.nx (σ.set i (some v)) H') h2 ?_
 intro s' C acc H' m hn fp hI q
 have I0:Inv X pins σ H' s':=hI s'.heap (.refl ..)
 show wpAny _ X.A (assign (.Name y py) X.env (.ref acc)) _ _ _
 refine wpAny_assign_Name (Zf2 (v:=.ref acc) I0 hN hiy hx rfl (fun s2 I2 hsb=>?_) hf)
 obtain ⟨a,sb,ha⟩:=hsb
 have hCa:C ≠ a:=by
  rcases ha with z | z
  ·rw [z]; exact fp.2.1
  ·exact Ne.symm (fp.2.2.2.2.1 y a z)
 refine ⟨m,hn.sameBut sb hCa,fun h' sb'=>?_⟩
 obtain ⟨f0,f1,f2,f3,f4,f5⟩:=fp
 exact ⟨_,H',I2.turned (t':=s2.toks) (it:=C) (fun b o hb e=>(sb'.2 b hb).trans e) f0 f1 f3 f4 f5,q⟩
end
end L2
set_option Elab.async false
set_option linter.all false
set_option maxRecDepth 100000
namespace L2
open PySem PySem.Spec PyProof.Rows
def InsC (a C:Addr) (h:Heap):Prop:=∃ ox vs,h.get? a=some ox/\ox.cls=.ref C/\ox.data=.fields vs/\vs[2]? = some .none
inductive D where
 | non | bl (b:Bool) | int (i:Int) | str (x:Str) | ty (n:String) | tup (ds:List D) | lst (ds:List D) | scr (ds:List D) | adr (a:Addr) | dct (ks:List Key) (ds:List D) | exc (a C:Addr)
mutual
inductive Rep (K:PySem.W.Frag) (G:Hp):V->D->Prop
 | non:Rep K G .non .non
 | bl (b:Bool):Rep K G (.bl b) (.bl b)
 | int (i:Int):Rep K G (.int i) (.int i)
 | str (x:Str):Rep K G (.str x) (.str x)
 | ty (n:String):Rep K G (.ty n) (.ty n)
 | tup {a:Addr} {vs:List V} {ds:List D}:G a=some (.tup vs)->Reps K G vs ds->Rep K G (.ref a) (.tup ds)
 | lst {a:Addr} {vs:List V} {ds:List D}:G a=some (.lst vs)->Reps K G vs ds->Rep K G (.ref a) (.lst ds)
 | scr {a:Addr} {vs:List V} {ds:List D}:SqL K G a vs->Reps K G vs ds->Rep K G (.ref a) (.scr ds)
 | adr (a:Addr):Rep K G (.ref a) (.adr a)
 | dct {a:Addr} {ks:List Key} {vs:List V} {ds:List D}:G a=some (.dK (ks.zip vs))->ks.length=vs.length->Reps K G vs ds->Rep K G (.ref a) (.dct ks ds)
 | exc {a C:Addr}:G a=some (.ext (InsC a C))->Rep K G (.ref a) (.exc a C)
inductive Reps (K:PySem.W.Frag) (G:Hp):List V->List D->Prop
 | nil:Reps K G [] []
 | cons {v:V} {d:D} {vs:List V} {ds:List D}:Rep K G v d->Reps K G vs ds->Reps K G (v :: vs) (d :: ds)
end
def RepI (K:PySem.W.Frag) (G:Hp) (v:V):D->Prop
 | .non=>v=.non
 | .bl b=>v=.bl b
 | .int i=>v=.int i
 | .str x=>v=.str x
 | .ty n=>v=.ty n
 | .tup ds=>∃ a vs,v=.ref a/\G a=some (.tup vs)/\Reps K G vs ds
 | .lst ds=>∃ a vs,v=.ref a/\G a=some (.lst vs)/\Reps K G vs ds
 | .scr ds=>∃ a vs,v=.ref a/\SqL K G a vs/\Reps K G vs ds
 | .adr a=>v=.ref a
 | .dct ks ds=>∃ a vs,v=.ref a/\G a=some (.dK (ks.zip vs))/\ks.length=vs.length/\Reps K G vs ds
 | .exc a C=>v=.ref a/\G a=some (.ext (InsC a C))
theorem Rep.inv {K:PySem.W.Frag} {G:Hp} {v:V} {d:D} (r:Rep K G v d):RepI K G v d:=by
 cases r with
 | tup h r=>exact ⟨_,_,rfl,h,r⟩
 | lst h r=>exact ⟨_,_,rfl,h,r⟩
 | scr h r=>exact ⟨_,_,rfl,h,r⟩
 | dct h l r=>exact ⟨_,_,rfl,h,l,r⟩
 | exc h=>exact ⟨rfl,h⟩
 | _=>rfl
def RepsI (K:PySem.W.Frag) (G:Hp) (vs:List V):List D->Prop
 | []=>vs=[]
 | d :: ds=>∃ v ws,vs=v :: ws/\Rep K G v d/\Reps K G ws ds
theorem Reps.inv {K:PySem.W.Frag} {G:Hp} {vs:List V} {ds:List D} (r:Reps K G vs ds):RepsI K G vs ds:=by
 cases r with
 | nil=>rfl
 | cons a b=>exact ⟨_,_,rfl,a,b⟩
section
variable {K:PySem.W.Frag} {G G' H H':Hp}
mutual
theorem Rep.mono (s:Same G G'):∀ {v:V} {d:D},Rep K G v d->Rep K G' v d
 | _,_,.non=>.non
 | _,_,.bl b=>.bl b
 | _,_,.int i=>.int i
 | _,_,.str x=>.str x
 | _,_,.ty n=>.ty n
 | _,_,.tup h r=>.tup (s _ _ h) (Reps.mono s r)
 | _,_,.lst h r=>.lst (s _ _ h) (Reps.mono s r)
 | _,_,.scr h r=>.scr (s.seq h) (Reps.mono s r)
 | _,_,.adr a=>.adr a
 | _,_,.dct h l r=>.dct (s _ _ h) l (Reps.mono s r)
 | _,_,.exc h=>.exc (s _ _ h)
theorem Reps.mono (s:Same G G'):∀ {vs:List V} {ds:List D},Reps K G vs ds->Reps K G' vs ds
 | _,_,.nil=>.nil
 | _,_,.cons h r=>.cons (Rep.mono s h) (Reps.mono s r)
end
theorem Reps.length:∀ {vs:List V} {ds:List D},Reps K G vs ds->vs.length=ds.length
 | _,_,.nil=>rfl
 | _,_,.cons _ r=>by rw [List.length_cons,List.length_cons,r.length]
theorem Reps.get:∀ {vs:List V} {ds:List D} {i:Nat} {d:D},Reps K G vs ds->ds[i]? = some d->∃ v,vs[i]? = some v/\Rep K G v d
 | _,_,_,_,.nil,e=>by simp at e
 | _,_,0,_,.cons r _,e=>by simp at e; subst e; exact ⟨_,rfl,r⟩
 | _,_,i + 1,d,.cons _ t,e=>by
  obtain ⟨u,h1,h2⟩:=Reps.get (i:=i) (d:=d) t (by simpa using e)
  exact ⟨u,by simpa using h1,h2⟩
theorem Reps.append:∀ {vs ws:List V} {ds es:List D},Reps K G vs ds->Reps K G ws es->Reps K G (vs ++ ws) (ds ++ es)
 | _,_,_,_,.nil,s=>s
 | _,_,_,_,.cons r t,s=>.cons r (Reps.append t s)
theorem Reps.take:∀ {vs:List V} {ds:List D} (n:Nat),Reps K G vs ds->Reps K G (vs.take n) (ds.take n)
 | _,_,0,_=>.nil
 | _,_,_ + 1,.nil=>.nil
 | _,_,n + 1,.cons r t=>.cons r (Reps.take n t)
theorem Reps.drop:∀ {vs:List V} {ds:List D} (n:Nat),Reps K G vs ds->Reps K G (vs.drop n) (ds.drop n)
 | _,_,0,r=>r
 | _,_,_ + 1,.nil=>.nil
 | _,_,n + 1,.cons _ t=>Reps.drop n t
theorem Reps.reverse {vs:List V} {ds:List D} (h:Reps K G vs ds):Reps K G vs.reverse ds.reverse:=by
 induction vs generalizing ds with
 | nil=>cases h; exact .nil
 | cons v vs ih=>
  cases h with
  | cons r t=>rw [List.reverse_cons,List.reverse_cons]; exact (ih t).append (.cons r .nil)
theorem Reps.set:∀ {vs:List V} {ds:List D} {v:V} {d:D} (i:Nat),Reps K G vs ds->Rep K G v d->Reps K G (vs.set i v) (ds.set i d)
 | _,_,_,_,_,.nil,_=>.nil
 | _,_,_,_,0,.cons _ t,q=>.cons q t
 | _,_,_,_,i + 1,.cons r t,q=>.cons r (Reps.set i t q)
theorem Reps.ints {vs:List V}:∀ {ns:List Int},Reps K G vs (ns.map D.int)->vs=ns.map V.int:=by
 induction vs with
 | nil=>intro ns h; cases ns with
  | nil=>rfl
  | cons n ns=>cases h
 | cons v vs ih=>intro ns h; cases ns with
  | nil=>cases h
  | cons n ns=>
   cases h with
   | cons r t=>cases r.inv; rw [ih t]; rfl
theorem Reps.ofInts:∀ (ns:List Int),Reps K G (ns.map V.int) (ns.map D.int)
 | []=>.nil
 | n :: ns=>.cons (.int n) (Reps.ofInts ns)
theorem Zes {vs:List V} {ds:List D} {i:Int} {d:D} (r:Reps K G vs ds) (h:atI ds i=some d):∃ v,atI vs i=some v/\Rep K G v d:=by
 unfold atI at h ⊢
 rw [<- r.length] at h
 cases e:ixN vs.length i with
 | none=>rw [e] at h; cases h
 | some j=>rw [e] at h; exact r.get h
end
inductive OD where
 | lst (ds:List D) | dct (kvs:List (Key × D)) | set (S:Int->Bool) (n:Nat) | dtt (kvs:List (List Key × D)) | ext (R:Hp->(Heap->Prop)->Prop)
def OwnRep (K:PySem.W.Frag) (G:Hp):HO->OD->Prop
 | .lst vs,.lst ds=>Reps K G vs ds
 | .dK kvs,.dct kds=>Paired (fun (p:Key × V) (q:Key × D)=>p.1=q.1/\Rep K G p.2 q.2) kvs kds
 | .set S n,.set S' n'=>S=S' /\ n=n'
 | .dT kvs,.dtt kds=>Paired (fun (p:List Key × V) (q:List Key × D)=>p.1=q.1/\Rep K G p.2 q.2) kvs kds
 | .ext φ,.ext R=>∃ G0,Same G0 G/\R G0 φ
 | _,_=>False
theorem OwnRep.mono {K:PySem.W.Frag} {G G':Hp} (s:Same G G') {o:HO} {od:OD} (h:OwnRep K G o od):OwnRep K G' o od:=by
 cases o <;> cases od <;> first
  | exact h.elim
  | exact Reps.mono s h
  | exact Paired.mapP h fun _ _ z=>⟨z.1,z.2.mono s⟩
  | exact (let ⟨g0,s0,r⟩:=h; ⟨g0,s0.trans s,r⟩)
  | exact h
inductive Slot where
 | any | val (d:D) | own (o:OD) | bor (o:OD) | ownA (a:Addr) (o:OD)
abbrev Evt:=List Slot
def Slot.od:Slot->Option OD
 | .own o=>some o
 | .bor o=>some o
 | .ownA _ o=>some o
 | _=>none
structure Gm where
 B:Addr->Prop
 F:Hp
 Hz:Hp
 Xo:Hp
def SlotAt (g:Gm) (x:Slot) (a:Addr):Prop:=match x with
 | .own _=>g.Hz a=none
 | .bor _=>g.B a
 | .ownA b _=>b=a/\g.Hz a=none
 | _=>True
structure Ok (K:PySem.W.Frag) (g:Gm) (G H:Hp) (σ:St) (Δ:Evt):Prop where
 same:∀ b o,¬ g.B b->g.Hz b=some o->H b=some o
 lent:∀ b,g.B b->H b ≠ none
 sub:Same g.F G
 frz:∀ b o,G b=some o->H b=some o/\(g.Hz b=none\/g.F b=some o)
 ext:∀ b o,g.Xo b=some o->H b=some o/\G b=none/\∀ (i:Nat) x od,Δ[i]? = some x->x.od=some od -> σ[i]? ≠ some (some (.ref b))
 len:Δ.length = σ.length
 val:∀ (i:Nat) d,Δ[i]? = some (.val d)->∃ v,σ[i]? = some (some v)/\Rep K G v d
 own:∀ (i:Nat) x od,Δ[i]? = some x->x.od=some od->∃ a o,σ[i]? = some (some (.ref a))/\H a=some o/\OwnRep K G o od/\G a=none/\SlotAt g x a
 dis:∀ (i j:Nat) x y od od' a,Δ[i]? = some x->x.od=some od -> Δ[j]? = some y->y.od=some od' -> σ[i]? = some (some (.ref a)) -> σ[j]? = some (some (.ref a))->i=j
section
variable {K:PySem.W.Frag} {g:Gm} {G H G' H':Hp} {σ:St} {Δ:Evt}
theorem Ok.live (k:Ok K g G H σ Δ):Same G H:=fun b o e=>(k.frz b o e).1
theorem Ok.there (k:Ok K g G H σ Δ) {b:Addr} (h:H b=none):g.Hz b=none:=by
 cases e:g.Hz b with
 | none=>rfl
 | some o=>
  by_cases hb:g.B b
  ·exact absurd h (k.lent b hb)
  ·have:=k.same b o hb e
   rw [h] at this; cases this
theorem Ok.grow (k:Ok K g G H σ Δ) (sg:Same G G') (sh:Same H H') (hg:∀ b o,G' b=some o->H' b=some o/\(G b=some o\/H b=none)):Ok K g G' H' σ Δ where
 same:=fun b o hb e=>sh b o (k.same b o hb e)
 lent:=fun b hb z=>by
  cases e:H b with
  | none=>exact k.lent b hb e
  | some o=>rw [sh b o e] at z; cases z
 sub:=k.sub.trans sg
 frz:=fun b o e=>by
  obtain ⟨h1,h2⟩:=hg b o e
  refine ⟨h1,?_⟩
  rcases h2 with z | z
  ·exact (k.frz b o z).2
  ·exact .inl (k.there z)
 ext:=fun b o e=>by
  obtain ⟨h1,h2,h3⟩:=k.ext b o e
  refine ⟨sh b o h1,?_,h3⟩
  cases q:G' b with
  | none=>rfl
  | some o'=>
   rcases (hg b o' q).2 with z | z
   ·rw [h2] at z; cases z
   ·rw [h1] at z; cases z
 len:=k.len
 val:=fun i d e=>by
  obtain ⟨v,h1,h2⟩:=k.val i d e
  exact ⟨v,h1,h2.mono sg⟩
 own:=fun i x od e1 e2=>by
  obtain ⟨a,o,h1,h2,h3,h4,h5⟩:=k.own i x od e1 e2
  refine ⟨a,o,h1,sh a o h2,h3.mono sg,?_,h5⟩
  cases q:G' a with
  | none=>rfl
  | some o'=>
   rcases (hg a o' q).2 with z | z
   ·rw [h4] at z; cases z
   ·rw [h2] at z; cases z
 dis:=k.dis
theorem Ok.laid (k:Ok K g G H σ Δ) {p:Addr} (hp:H p=none) (o:HO):Ok K g (upd G p o) (upd H p o) σ Δ /\ Same G (upd G p o):=by
 have hG:G p=none:=by
  cases e:G p with
  | none=>rfl
  | some u=>rw [k.live p u e] at hp; cases hp
 have sg:Same G (upd G p o):=fun b u e=>by rw [Zai (Zah e hG)]; exact e
 refine ⟨k.grow sg (fun b u e=>by rw [Zai (Zah e hp)]; exact e) fun b u e=>?_,sg⟩
 by_cases hb:b=p
 ·subst hb; rw [Zal] at e ⊢; exact ⟨e,.inr hp⟩
 ·rw [Zai hb] at e ⊢; exact ⟨k.live b u e,.inl e⟩
theorem Ok.lt (k:Ok K g G H σ Δ) {i:Nat} {x:Slot} (h:Δ[i]? = some x):i < σ.length:=by
 rw [<- k.len]; exact (List.getElem?_eq_some_iff.mp h).1
def Pend (K:PySem.W.Frag) (g:Gm) (G H:Hp) (σ:St) (Δ:Evt) (a:Addr) (od:OD):Prop:=
 ∃ o,H a=some o/\OwnRep K G o od/\G a=none/\g.Hz a=none/\g.Xo a=none/\∀ (i:Nat) x od',Δ[i]? = some x->x.od=some od' -> σ[i]? ≠ some (some (.ref a))
theorem Ok.setVal (k:Ok K g G H σ Δ) {v:V} {d:D} {i:Nat} (hi:i < Δ.length) (r:Rep K G v d):Ok K g G H (σ.set i (some v)) (Δ.set i (.val d)):=by
 have hs:i < σ.length:=by rw [<- k.len]; exact hi
 have old:∀ (j:Nat) x od,(Δ.set i (.val d))[j]? = some x->x.od=some od->j ≠ i /\ Δ[j]? = some x/\(σ.set i (some v))[j]? = σ[j]?:=fun j x od e1 e2=>by
  by_cases hj:j=i
  ·subst hj
   rw [List.getElem?_set_self hi] at e1
   cases e1; cases e2
  ·rw [List.getElem?_set_ne (Ne.symm hj)] at e1
   exact ⟨hj,e1,List.getElem?_set_ne (Ne.symm hj)⟩
 refine ⟨k.same,k.lent,k.sub,k.frz,fun b o e=>?_,by simp [k.len],fun j e h=>?_,fun j x od e1 e2=>?_,fun j l x y od od' a e1 e2 e3 e4 e5 e6=>?_⟩
 ·obtain ⟨h1,h2,h3⟩:=k.ext b o e
  refine ⟨h1,h2,fun j x od e1 e2=>?_⟩
  obtain ⟨_,q1,q2⟩:=old j x od e1 e2
  rw [q2]; exact h3 j x od q1 e2
 ·by_cases hj:j=i
  ·subst hj
   rw [List.getElem?_set_self hi] at h
   cases h
   exact ⟨v,List.getElem?_set_self hs,r⟩
  ·rw [List.getElem?_set_ne (Ne.symm hj)] at h ⊢
   exact k.val j e h
 ·obtain ⟨_,q1,q2⟩:=old j x od e1 e2
  rw [q2]; exact k.own j x od q1 e2
 ·obtain ⟨_,q1,q2⟩:=old j x od e1 e2
  obtain ⟨_,q3,q4⟩:=old l y od' e3 e4
  rw [q2] at e5; rw [q4] at e6
  exact k.dis j l x y od od' a q1 e2 q3 e4 e5 e6
theorem Ok.setOwn (k:Ok K g G H σ Δ) {a:Addr} {od:OD} {i:Nat} (hi:i < Δ.length) (p:Pend K g G H σ Δ a od):Ok K g G H (σ.set i (some (.ref a))) (Δ.set i (.own od)):=by
 obtain ⟨o,p1,p2,p3,p4,p5,p6⟩:=p
 have hs:i < σ.length:=by rw [<- k.len]; exact hi
 have old:∀ (j:Nat) x,j ≠ i->(Δ.set i (.own od))[j]? = some x -> Δ[j]? = some x/\(σ.set i (some (.ref a)))[j]? = σ[j]?:=fun j x hj e1=>by
  rw [List.getElem?_set_ne (Ne.symm hj)] at e1
  exact ⟨e1,List.getElem?_set_ne (Ne.symm hj)⟩
 refine ⟨k.same,k.lent,k.sub,k.frz,fun b ob e=>?_,by simp [k.len],fun j e h=>?_,fun j x od' e1 e2=>?_,fun j l x y od1 od2 c e1 e2 e3 e4 e5 e6=>?_⟩
 ·obtain ⟨h1,h2,h3⟩:=k.ext b ob e
  refine ⟨h1,h2,fun j x od' e1 e2=>?_⟩
  by_cases hj:j=i
  ·subst hj
   rw [List.getElem?_set_self hs]
   intro z
   cases z
   rw [p5] at e; cases e
  ·obtain ⟨q1,q2⟩:=old j x hj e1
   rw [q2]; exact h3 j x od' q1 e2
 ·by_cases hj:j=i
  ·subst hj
   rw [List.getElem?_set_self hi] at h
   cases h
  ·rw [List.getElem?_set_ne (Ne.symm hj)] at h ⊢
   exact k.val j e h
 ·by_cases hj:j=i
  ·subst hj
   rw [List.getElem?_set_self hi] at e1
   cases e1
   cases e2
   exact ⟨a,o,List.getElem?_set_self hs,p1,p2,p3,p4⟩
  ·obtain ⟨q1,q2⟩:=old j x hj e1
   rw [q2]; exact k.own j x od' q1 e2
 ·by_cases hj:j=i
  ·by_cases hl:l=i
   ·rw [hj,hl]
   ·obtain ⟨q3,q4⟩:=old l y hl e3
    rw [q4] at e6
    rw [hj,List.getElem?_set_self hs] at e5
    cases e5
    exact absurd e6 (p6 l y od2 q3 e4)
  ·obtain ⟨q1,q2⟩:=old j x hj e1
   rw [q2] at e5
   by_cases hl:l=i
   ·rw [hl,List.getElem?_set_self hs] at e6
    cases e6
    exact absurd e5 (p6 j x od1 q1 e2)
   ·obtain ⟨q3,q4⟩:=old l y hl e3
    rw [q4] at e6
    exact k.dis j l x y od1 od2 c q1 e2 q3 e4 e5 e6
def Slot.put:Slot->OD->Slot
 | .own _,o=>.own o
 | .bor _,o=>.bor o
 | .ownA a _,o=>.ownA a o
 | x,_=>x
theorem SlotAt.put {g:Gm} {x:Slot} {a:Addr} {o:OD} (h:SlotAt g x a):SlotAt g (x.put o) a:=by cases x <;> exact h
theorem SlotAt.free {g:Gm} {x:Slot} {a:Addr} {od:OD} (h:SlotAt g x a) (ho:x.od=some od):g.Hz a=none\/g.B a:=by
 cases x with
 | any=>cases ho
 | val d=>cases ho
 | own o=>exact .inl h
 | bor o=>exact .inr h
 | ownA b o=>exact .inl h.2
theorem Slot.put_od {x:Slot} {od o:OD} (h:x.od=some od):(x.put o).od=some o:=by cases x <;> cases h <;> rfl
theorem Ok.write (k:Ok K g G H σ Δ) {a:Addr} {od od':OD} {x:Slot} {i:Nat} {o':HO} (hx:Δ[i]? = some x) (hod:x.od=some od) (ha:σ[i]? = some (some (.ref a))) (r:OwnRep K G o' od'):Ok K g G (upd H a o') σ (Δ.set i (x.put od')):=by
 obtain ⟨a',o,q1,q2,q3,q4,q5⟩:=k.own i x od hx hod
 rw [ha] at q1; cases q1
 have hi:i < Δ.length:=(List.getElem?_eq_some_iff.mp hx).1
 have other:∀ (j:Nat) y od2,(Δ.set i (x.put od'))[j]? = some y->y.od=some od2->j ≠ i -> Δ[j]? = some y:=fun j y od2 e1 e2 hj=>by
  rw [List.getElem?_set_ne (Ne.symm hj)] at e1; exact e1
 have anyOd:∀ (j:Nat) y od2,(Δ.set i (x.put od'))[j]? = some y->y.od=some od2->∃ y' od3,Δ[j]? = some y' /\ y'.od=some od3:=fun j y od2 e1 e2=>by
  by_cases hj:j=i
  ·subst hj; exact ⟨x,od,hx,hod⟩
  ·exact ⟨y,od2,other j y od2 e1 e2 hj,e2⟩
 refine ⟨fun b u hb e=>?_,fun b hb=>?_,k.sub,fun b u e=>?_,fun b u e=>?_,by simp [k.len],fun j e h=>?_,fun j y od2 e1 e2=>?_,fun j l y z od1 od2 c e1 e2 e3 e4 e5 e6=>?_⟩
 ·have hba:b ≠ a:=by
   intro z; subst z
   rcases q5.free hod with z | z
   ·rw [z] at e; cases e
   ·exact hb z
  rw [Zai hba]; exact k.same b u hb e
 ·by_cases hba:b=a
  ·subst hba; rw [Zal]; intro z; cases z
  ·rw [Zai hba]; exact k.lent b hb
 ·have hba:b ≠ a:=by intro z; subst z; rw [q4] at e; cases e
  rw [Zai hba]; exact k.frz b u e
 ·obtain ⟨h1,h2,h3⟩:=k.ext b u e
  have hba:b ≠ a:=by intro z; subst z; exact h3 i x od hx hod ha
  rw [Zai hba]
  refine ⟨h1,h2,fun j y od2 e1 e2=>?_⟩
  obtain ⟨y',od3,z1,z2⟩:=anyOd j y od2 e1 e2
  exact h3 j y' od3 z1 z2
 ·by_cases hj:j=i
  ·subst hj
   rw [List.getElem?_set_self hi] at h
   cases x <;> cases hod <;> cases h
  ·rw [List.getElem?_set_ne (Ne.symm hj)] at h
   exact k.val j e h
 ·by_cases hj:j=i
  ·subst hj
   rw [List.getElem?_set_self hi] at e1
   cases e1
   rw [Slot.put_od hod] at e2; cases e2
   exact ⟨a,o',ha,Zal,r,q4,q5.put⟩
  ·have e1':=other j y od2 e1 e2 hj
   obtain ⟨c,oc,w1,w2,w3,w4,w5⟩:=k.own j y od2 e1' e2
   have hca:c ≠ a:=by
    intro z; subst z
    exact hj (k.dis j i y x od2 od c e1' e2 hx hod w1 ha)
   exact ⟨c,oc,w1,by rw [Zai hca]; exact w2,w3,w4,w5⟩
 ·obtain ⟨y',od3,z1,z2⟩:=anyOd j y od1 e1 e2
  obtain ⟨y'',od4,z3,z4⟩:=anyOd l z od2 e3 e4
  exact k.dis j l y' y'' od3 od4 c z1 z2 z3 z4 e5 e6
theorem Ok.freeze (k:Ok K g G H σ Δ) {a:Addr} {ds:List D} {vs:List V} (p:Pend K g G H σ Δ a (.lst ds)) (hv:H a=some (.lst vs)):Ok K g (upd G a (.lst vs)) H σ Δ /\ Same G (upd G a (.lst vs))/\Rep K (upd G a (.lst vs)) (.ref a) (.lst ds):=by
 obtain ⟨o,p1,p2,p3,p4,p5,p6⟩:=p
 rw [hv] at p1; cases p1
 have p2:Reps K G vs ds:=p2
 have sg:Same G (upd G a (.lst vs)):=fun b u e=>by rw [Zai (Zah e p3)]; exact e
 refine ⟨⟨k.same,k.lent,k.sub.trans sg,fun b u e=>?_,fun b u e=>?_,k.len,fun j d h=>?_,fun j x od e1 e2=>?_,k.dis⟩,sg,.lst Zal (p2.mono sg)⟩
 ·by_cases hb:b=a
  ·subst hb; rw [Zal] at e; cases e; exact ⟨hv,.inl p4⟩
  ·rw [Zai hb] at e; exact k.frz b u e
 ·obtain ⟨h1,h2,h3⟩:=k.ext b u e
  have hb:b ≠ a:=by intro z; subst z; rw [p5] at e; cases e
  exact ⟨h1,by rw [Zai hb]; exact h2,h3⟩
 ·obtain ⟨v,h1,h2⟩:=k.val j d h
  exact ⟨v,h1,h2.mono sg⟩
 ·obtain ⟨c,o,w1,w2,w3,w4,w5⟩:=k.own j x od e1 e2
  have hc:c ≠ a:=by intro z; subst z; exact p6 j x od e1 e2 w1
  exact ⟨c,o,w1,w2,w3.mono sg,by rw [Zai hc]; exact w4,w5⟩
theorem Ok.drop (k:Ok K g G H σ Δ) (i:Nat):Ok K g G H σ (Δ.set i .any):=by
 have old:∀ (j:Nat) x,(Δ.set i .any)[j]? = some x->x=.any\/(Δ[j]? = some x/\j ≠ i):=fun j x e1=>by
  by_cases hj:j=i
  ·subst hj
   rw [List.getElem?_set] at e1
   simp at e1
   exact .inl e1.2.symm
  ·rw [List.getElem?_set_ne (Ne.symm hj)] at e1
   exact .inr ⟨e1,hj⟩
 have oldO:∀ (j:Nat) x od,(Δ.set i .any)[j]? = some x->x.od=some od -> Δ[j]? = some x:=fun j x od e1 e2=>by
  rcases old j x e1 with z | z
  ·subst z; cases e2
  ·exact z.1
 refine ⟨k.same,k.lent,k.sub,k.frz,fun b o e=>?_,by simp [k.len],fun j e h=>?_,fun j x od e1 e2=>k.own j x od (oldO j x od e1 e2) e2,fun j l x y od od' a e1 e2 e3 e4=>k.dis j l x y od od' a (oldO j x od e1 e2) e2 (oldO l y od' e3 e4) e4⟩
 ·obtain ⟨h1,h2,h3⟩:=k.ext b o e
  exact ⟨h1,h2,fun j x od e1 e2=>h3 j x od (oldO j x od e1 e2) e2⟩
 ·rcases old j _ h with z | z
  ·cases z
  ·exact k.val j e z.1
theorem Ok.take (k:Ok K g G H σ Δ) {i:Nat} {od:OD} (h:Δ[i]? = some (.own od)):∃ a,σ[i]? = some (some (.ref a))/\Pend K g G H σ (Δ.set i .any) a od:=by
 obtain ⟨a,o,h1,h2,h3,h4,h5⟩:=k.own i _ od h rfl
 have h5:g.Hz a=none:=h5
 refine ⟨a,h1,o,h2,h3,h4,h5,?_,fun j x od' e1 e2 e3=>?_⟩
 ·cases q:g.Xo a with
  | none=>rfl
  | some u=>exact absurd h1 ((k.ext a u q).2.2 i _ od h rfl)
 ·by_cases hj:j=i
  ·subst hj
   rw [List.getElem?_set] at e1
   simp at e1
   obtain ⟨_,e1⟩:=e1
   subst e1
   cases e2
  ·rw [List.getElem?_set_ne (Ne.symm hj)] at e1
   exact hj (k.dis j i x _ od' od a e1 e2 h rfl e3 h1)
end
end L2
set_option Elab.async false
set_option linter.all false
set_option maxRecDepth 100000
namespace L2
open PySem PySem.Spec PyProof.Rows
def Cont (K:PySem.W.Frag) (g:Gm) (G:Hp) (σ:St) (P:D->Evt->Prop) (Q:VK):Prop:=
 ∀ v d G' H' Δ',Ok K g G' H' σ Δ' -> Same G G' -> Rep K G' v d->P d Δ' -> Q v H'
def JE (K:PySem.W.Frag) (t:TE) (Δ:Evt) (P:D->Evt->Prop):Prop:=
 ∀ g G H σ Q,Ok K g G H σ Δ -> Cont K g G σ P Q->t σ H Q
def JT (K:PySem.W.Frag) (t:TT) (Δ:Evt) (P:Bool->Evt->Prop):Prop:=
 ∀ g G H σ Q,Ok K g G H σ Δ -> (∀ b G' H' Δ',Ok K g G' H' σ Δ' -> Same G G' -> P b Δ' -> Q b H')->t σ H Q
def JA (K:PySem.W.Frag) (t:TA) (Δ:Evt) (P:List D->Evt->Prop):Prop:=
 ∀ g G H σ Q,Ok K g G H σ Δ -> (∀ vs ds G' H' Δ',Ok K g G' H' σ Δ' -> Same G G' -> Reps K G' vs ds->P ds Δ' -> Q vs H')->t σ H Q
def JO (K:PySem.W.Frag) (t:TE) (Δ:Evt) (P:OD->Evt->Prop):Prop:=
 ∀ g G H σ Q,Ok K g G H σ Δ -> (∀ a od G' H' Δ',Ok K g G' H' σ Δ' -> Same G G' -> Pend K g G' H' σ Δ' a od->P od Δ' -> Q (.ref a) H')->t σ H Q
def JR2 (K:PySem.W.Frag) (r:R2) (d e:D) (Δ:Evt) (P:D->Evt->Prop):Prop:=
 ∀ g G H σ Q x y,Ok K g G H σ Δ -> Rep K G x d->Rep K G y e->Cont K g G σ P Q->r x y H Q
def JR1 (K:PySem.W.Frag) (r:V->Hp->VK->Prop) (d:D) (Δ:Evt) (P:D->Evt->Prop):Prop:=
 ∀ g G H σ Q x,Ok K g G H σ Δ -> Rep K G x d->Cont K g G σ P Q->r x H Q
def JC (K:PySem.W.Frag) (r:List V->Hp->VK->Prop) (ds:List D) (Δ:Evt) (P:D->Evt->Prop):Prop:=
 ∀ g G H σ Q vs,Ok K g G H σ Δ -> Reps K G vs ds->Cont K g G σ P Q->r vs H Q
structure Pst where
 nx:Evt->Prop
 rt:D->Evt->Prop
 bk:Evt->Prop:=fun _=>False
 ct:Evt->Prop:=fun _=>False
 ro:OD->Evt->Prop:=fun _ _=>False
structure SCont (K:PySem.W.Frag) (g:Gm) (P:Pst) (E:Ends):Prop where
 nx:∀ σ G H Δ,Ok K g G H σ Δ -> P.nx Δ -> E.nx σ H
 rt:∀ v d σ G H Δ,Ok K g G H σ Δ -> Rep K G v d->P.rt d Δ -> E.rt v H
 bk:∀ σ G H Δ,Ok K g G H σ Δ -> P.bk Δ -> E.bk σ H
 ct:∀ σ G H Δ,Ok K g G H σ Δ -> P.ct Δ -> E.ct σ H
 ro:∀ a od σ G H Δ,Ok K g G H σ Δ -> Pend K g G H σ Δ a od->P.ro od Δ -> E.rt (.ref a) H
def JS (K:PySem.W.Frag) (t:TS) (Δ:Evt) (P:Pst):Prop:=
 ∀ g G H σ E,Ok K g G H σ Δ -> SCont K g P E->t E σ H
def JG (K:PySem.W.Frag) (t:TG) (d:D) (Δ:Evt) (P:Evt->Prop):Prop:=
 ∀ g G H σ v (R:St->Hp->Prop),Ok K g G H σ Δ -> Rep K G v d->(∀ σ' G' H' Δ',Ok K g G' H' σ' Δ' -> Same G G' -> P Δ' -> R σ' H')->t v σ H R
def JGs (K:PySem.W.Frag) (t:TGs) (ds:List D) (Δ:Evt) (P:Evt->Prop):Prop:=
 ∀ g G H σ vs (R:St->Hp->Prop),Ok K g G H σ Δ -> Reps K G vs ds->(∀ σ' G' H' Δ',Ok K g G' H' σ' Δ' -> Same G G' -> P Δ' -> R σ' H')->t vs σ H R
section
variable {K:PySem.W.Frag} {Δ:Evt}
theorem Cont.up {g:Gm} {G G1:Hp} {σ:St} {P:D->Evt->Prop} {Q:VK} (c:Cont K g G σ P Q) (s:Same G G1):Cont K g G1 σ P Q:=
 fun v d G' H' Δ' k s' r p=>c v d G' H' Δ' k (s.trans s') r p
theorem JE.mono {t:TE} {P P':D->Evt->Prop} (h:JE K t Δ P) (hp:∀ d Δ,P d Δ -> P' d Δ):JE K t Δ P':=
 fun g G H σ Q k c=>h g G H σ Q k fun v d G' H' Δ' k' s r p=>c v d G' H' Δ' k' s r (hp d Δ' p)
theorem JS.mono {t:TS} {P P':Pst} (h:JS K t Δ P) (hn:∀ Δ,P.nx Δ -> P'.nx Δ) (hr:∀ d Δ,P.rt d Δ -> P'.rt d Δ) (hb:∀ Δ,P.bk Δ -> P'.bk Δ) (hc:∀ Δ,P.ct Δ -> P'.ct Δ) (ho:∀ od Δ,P.ro od Δ -> P'.ro od Δ):JS K t Δ P':=
 fun g G H σ E k c=>h g G H σ E k ⟨fun σ' G' H' Δ' k' p=>c.nx σ' G' H' Δ' k' (hn _ p),fun v d σ' G' H' Δ' k' r p=>c.rt v d σ' G' H' Δ' k' r (hr _ _ p),fun σ' G' H' Δ' k' p=>c.bk σ' G' H' Δ' k' (hb _ p),fun σ' G' H' Δ' k' p=>c.ct σ' G' H' Δ' k' (hc _ p),fun a od σ' G' H' Δ' k' r p=>c.ro a od σ' G' H' Δ' k' r (ho _ _ p)⟩
theorem Zac {i:Nat} {d:D} {P:D->Evt->Prop} (h:Δ[i]? = some (.val d)) (p:P d Δ):JE K (tVar i) Δ P:=fun g G H σ Q k c=>by
 obtain ⟨v,h1,h2⟩:=k.val i d h
 exact ⟨v,h1,c v d G H Δ k (Same.refl _) h2 p⟩
theorem Zgl {i:Nat} {ds:List D} {P:D->Evt->Prop} (h:Δ[i]? = some (.own (.lst ds))) (p:P (.lst ds) (Δ.set i (.val (.lst ds)))):JE K (tVar i) Δ P:=fun g G H σ Q k c=>by
 obtain ⟨a,h1,pd⟩:=k.take h
 obtain ⟨o,q1,q2,_⟩:=id pd
 cases o with
 | lst vs=>
  obtain ⟨k2,sg,r⟩:=(k.drop i).freeze pd q1
  have k3:=k2.setVal (i:=i) (by simpa using (List.getElem?_eq_some_iff.mp h).1) r
  have e1:σ.set i (some (.ref a)) = σ:=by
   apply List.ext_getElem?
   intro j
   by_cases hj:j=i
   ·subst hj; rw [List.getElem?_set_self (k.lt h),h1]
   ·rw [List.getElem?_set_ne (Ne.symm hj)]
  rw [e1,List.set_set] at k3
  exact ⟨.ref a,h1,c _ _ _ H _ k3 sg r p⟩
 | _=>exact absurd q2 (fun z=>z)
theorem Zao {i:Int} {P:D->Evt->Prop} (p:P (.int i) Δ):JE K (tC (.int i)) Δ P:=fun g G H σ Q k c=>c _ _ G H Δ k (Same.refl _) (.int i) p
theorem Zog {b:Bool} {P:D->Evt->Prop} (p:P (.bl b) Δ):JE K (tC (.bl b)) Δ P:=fun g G H σ Q k c=>c _ _ G H Δ k (Same.refl _) (.bl b) p
theorem Zdr {P:D->Evt->Prop} (p:P .non Δ):JE K (tC .non) Δ P:=fun g G H σ Q k c=>c _ _ G H Δ k (Same.refl _) .non p
theorem Zbd {x:Str} {P:D->Evt->Prop} (p:P (.str x) Δ):JE K (tC (.str x)) Δ P:=fun g G H σ Q k c=>c _ _ G H Δ k (Same.refl _) (.str x) p
theorem Zdq {x:String} {P:D->Evt->Prop} (p:P (.ty x) Δ):JE K (tC (.ty x)) Δ P:=fun g G H σ Q k c=>c _ _ G H Δ k (Same.refl _) (.ty x) p
theorem Zan {r:R2} {ta tb:TE} {P:D->Evt->Prop} (h:JE K ta Δ fun d Δ1=>JE K tb Δ1 fun e Δ2=>JR2 K r d e Δ2 P):JE K (tOp r ta tb) Δ P:=fun g G H σ Q k c=>
 h g G H σ _ k fun x d G1 H1 Δ1 k1 s1 r1 p1=>p1 g G1 H1 σ _ k1 fun y e G2 H2 Δ2 k2 s2 r2 p2=>p2 g G2 H2 σ Q x y k2 (r1.mono s2) r2 (c.up (s1.trans s2))
theorem Zpz {r:V->Hp->VK->Prop} {ta:TE} {P:D->Evt->Prop} (h:JE K ta Δ fun d Δ1=>JR1 K r d Δ1 P):JE K (tUn r ta) Δ P:=fun g G H σ Q k c=>
 h g G H σ _ k fun x d G1 H1 Δ1 k1 s1 r1 p1=>p1 g G1 H1 σ Q x k1 r1 (c.up s1)
theorem Zae {P:List D->Evt->Prop} (p:P [] Δ):JA K tNil Δ P:=fun g G H σ Q k c=>c [] [] G H Δ k (Same.refl _) .nil p
theorem Zab {ta:TE} {tr:TA} {P:List D->Evt->Prop} (h:JE K ta Δ fun d Δ1=>JA K tr Δ1 fun ds Δ2=>P (d :: ds) Δ2):JA K (tCons ta tr) Δ P:=fun g G H σ Q k c=>
 h g G H σ _ k fun x d G1 H1 Δ1 k1 s1 r1 p1=>p1 g G1 H1 σ _ k1 fun vs ds G2 H2 Δ2 k2 s2 r2 p2=>c _ _ G2 H2 Δ2 k2 (s1.trans s2) (.cons (r1.mono s2) r2) p2
theorem Zaz {r:List V->Hp->VK->Prop} {ta:TA} {P:D->Evt->Prop} (h:JA K ta Δ fun ds Δ1=>JC K r ds Δ1 P):JE K (tCB r ta) Δ P:=fun g G H σ Q k c=>
 h g G H σ _ k fun vs ds G1 H1 Δ1 k1 s1 r1 p1=>p1 g G1 H1 σ Q vs k1 r1 (c.up s1)
theorem Zbb {ta:TA} {P:D->Evt->Prop} (h:JA K ta Δ fun ds Δ1=>ds.length<=sizeLine/\P (.tup ds) Δ1):JE K (tTup ta) Δ P:=fun g G H σ Q k c=>
 h g G H σ _ k fun vs ds G1 H1 Δ1 k1 s1 r1 ⟨z,p1⟩=>⟨by rw [r1.length]; exact z,fun p hp=>by
  obtain ⟨k2,sg⟩:=k1.laid hp (.tup vs)
  exact c _ _ _ _ Δ1 k2 (s1.trans sg) (.tup Zal (r1.mono sg)) p1⟩
theorem Zmb {ta:TA} {P:D->Evt->Prop} (h:JA K ta Δ fun ds Δ1=>ds.length<=sizeLine/\P (.lst ds) Δ1):JE K (tLst ta) Δ P:=fun g G H σ Q k c=>
 h g G H σ _ k fun vs ds G1 H1 Δ1 k1 s1 r1 ⟨z,p1⟩=>⟨by rw [r1.length]; exact z,fun p hp=>by
  obtain ⟨k2,sg⟩:=k1.laid hp (.lst vs)
  exact c _ _ _ _ Δ1 k2 (s1.trans sg) (.lst Zal (r1.mono sg)) p1⟩
theorem Ok.fresh {g:Gm} {G H:Hp} {σ:St} (k:Ok K g G H σ Δ) {p:Addr} {o:HO} {od:OD} (hp:H p=none) (r:OwnRep K G o od):Ok K g G (upd H p o) σ Δ /\ Pend K g G (upd H p o) σ Δ p od:=by
 have hG:G p=none:=by
  cases e:G p with
  | none=>rfl
  | some u=>rw [k.live p u e] at hp; cases hp
 refine ⟨k.grow (Same.refl _) (fun b u e=>by rw [Zai (Zah e hp)]; exact e) fun b u e=>⟨?_,.inl e⟩,o,Zal,r,hG,k.there hp,?_,fun j x od' e1 e2 e3=>?_⟩
 ·have hb:b ≠ p:=by intro z; subst z; rw [hG] at e; cases e
  rw [Zai hb]; exact k.live b u e
 ·cases q:g.Xo p with
  | none=>rfl
  | some u=>have z:=(k.ext p u q).1; rw [hp] at z; cases z
 ·obtain ⟨a,oo,w1,w2,_⟩:=k.own j x od' e1 e2
  rw [e3] at w1; cases w1
  rw [hp] at w2; cases w2
theorem Zfv {ta:TA} {P:OD->Evt->Prop} (h:JA K ta Δ fun ds Δ1=>ds.length<=sizeLine/\P (.lst ds) Δ1):JO K (tLst ta) Δ P:=fun g G H σ Q k c=>
 h g G H σ _ k fun vs ds G1 H1 Δ1 k1 s1 r1 ⟨z,p1⟩=>⟨by rw [r1.length]; exact z,fun p hp=>by
  obtain ⟨k2,pd⟩:=k1.fresh (od:=.lst ds) hp (show OwnRep K G1 (.lst vs) (.lst ds) from r1)
  exact c p _ G1 _ Δ1 k2 s1 pd p1⟩
theorem Zcd {t:TE} {P:D->Evt->Prop} (h:JO K t Δ fun od Δ1=>∃ ds,od=.lst ds/\P (.lst ds) Δ1):JE K t Δ P:=fun g G H σ Q k c=>
 h g G H σ Q k fun a od G1 H1 Δ1 k1 s1 pd hq_=>by
  obtain ⟨ds,e,p1⟩:=hq_
  subst e
  obtain ⟨o,q1,q2,_⟩:=id pd
  cases o with
  | lst vs=>
   obtain ⟨k2,sg,r⟩:=k1.freeze pd q1
   exact c _ _ _ H1 Δ1 k2 (s1.trans sg) r p1
  | _=>exact absurd q2 (fun z=>z)
theorem Zdm {c:TT} {ta tb:TE} {P:D->Evt->Prop} (h:JT K c Δ fun b Δ1=>if b=true then JE K ta Δ1 P else JE K tb Δ1 P):JE K (tIf c ta tb) Δ P:=fun g G H σ Q k q=>
 h g G H σ _ k fun b G1 H1 Δ1 k1 s1 p1=>by
  cases b with
  | true=>exact (show JE K ta Δ1 P from p1) g G1 H1 σ Q k1 (q.up s1)
  | false=>exact (show JE K tb Δ1 P from p1) g G1 H1 σ Q k1 (q.up s1)
theorem Zar {t:TE} {P:Bool->Evt->Prop} (h:JE K t Δ fun d Δ1=>∃ b,d=.bl b/\P b Δ1):JT K (tTest t) Δ P:=fun g G H σ Q k c=>
 h g G H σ _ k fun v d G1 H1 Δ1 k1 s1 r1 hq_=>by obtain ⟨b,e,p1⟩:=hq_; subst e; cases r1.inv; exact ⟨b,rfl,c b G1 H1 Δ1 k1 s1 p1⟩
theorem Zfn {a b:TT} {P:Bool->Evt->Prop} (h:JT K a Δ fun x Δ1=>if x=true then JT K b Δ1 P else P false Δ1):JT K (tAnd a b) Δ P:=fun g G H σ Q k c=>
 h g G H σ _ k fun x G1 H1 Δ1 k1 s1 p1=>by
  cases x with
  | true=>exact (show JT K b Δ1 P from p1) g G1 H1 σ _ k1 fun y G2 H2 Δ2 k2 s2 p2=>c y G2 H2 Δ2 k2 (s1.trans s2) p2
  | false=>exact c false G1 H1 Δ1 k1 s1 p1
theorem Zee {a b:TT} {P:Bool->Evt->Prop} (h:JT K a Δ fun x Δ1=>if x=true then P true Δ1 else JT K b Δ1 P):JT K (tOr a b) Δ P:=fun g G H σ Q k c=>
 h g G H σ _ k fun x G1 H1 Δ1 k1 s1 p1=>by
  cases x with
  | true=>exact c true G1 H1 Δ1 k1 s1 p1
  | false=>exact (show JT K b Δ1 P from p1) g G1 H1 σ _ k1 fun y G2 H2 Δ2 k2 s2 p2=>c y G2 H2 Δ2 k2 (s1.trans s2) p2
theorem Zbx {a:TT} {P:Bool->Evt->Prop} (h:JT K a Δ fun x Δ1=>P (!x) Δ1):JT K (tNot a) Δ P:=fun g G H σ Q k c=>
 h g G H σ _ k fun x G1 H1 Δ1 k1 s1 p1=>c (!x) G1 H1 Δ1 k1 s1 p1
theorem Zbh {P:Bool->Evt->Prop} (p:P true Δ):JT K tTrue Δ P:=fun g G H σ Q k c=>c true G H Δ k (Same.refl _) p
theorem Zmr {P:Pst} (p:P.nx Δ):JS K tNext Δ P:=fun g G H σ E k c=>c.nx σ G H Δ k p
theorem Zlw {t u:TS} {P:Pst} (h:JS K t Δ { P with nx:=fun Δ1=>JS K u Δ1 P }):JS K (tSeq t u) Δ P:=fun g G H σ E k c=>
 h g G H σ _ k ⟨fun σ1 G1 H1 Δ1 k1 p1=>p1 g G1 H1 σ1 E k1 c,c.rt,c.bk,c.ct,c.ro⟩
theorem Zn2 {te:TE} {P:Pst} (h:JE K te Δ P.rt):JS K (tRet te) Δ P:=fun g G H σ E k c=>
 h g G H σ _ k fun v d G1 H1 Δ1 k1 s1 r1 p1=>c.rt v d σ G1 H1 Δ1 k1 r1 p1
theorem Znz {te:TE} {P:Pst} (h:JO K te Δ P.ro):JS K (tRet te) Δ P:=fun g G H σ E k c=>
 h g G H σ _ k fun a od G1 H1 Δ1 k1 s1 pd p1=>c.ro a od σ G1 H1 Δ1 k1 pd p1
theorem Zpt {c:TT} {t u:TS} {P:Pst} (h:JT K c Δ fun b Δ1=>if b=true then JS K t Δ1 P else JS K u Δ1 P):JS K (tIfS c t u) Δ P:=fun g G H σ E k q=>
 h g G H σ _ k fun b G1 H1 Δ1 k1 s1 p1=>by
  cases b with
  | true=>exact (show JS K t Δ1 P from p1) g G1 H1 σ E k1 q
  | false=>exact (show JS K u Δ1 P from p1) g G1 H1 σ E k1 q
theorem Zpn {te:TE} {t:TG} {P:Pst} (h:JE K te Δ fun d Δ1=>JG K t d Δ1 P.nx):JS K (tAsg te t) Δ P:=fun g G H σ E k c=>
 h g G H σ _ k fun v d G1 H1 Δ1 k1 s1 r1 p1=>p1 g G1 H1 σ v _ k1 r1 fun σ2 G2 H2 Δ2 k2 s2 p2=>c.nx σ2 G2 H2 Δ2 k2 p2
theorem Znl {i:Nat} {d:D} {P:Evt->Prop} (hi:i < Δ.length) (p:P (Δ.set i (.val d))):JG K (gName i) d Δ P:=fun g G H σ v R k r c=>c _ G H _ (k.setVal hi r) (Same.refl _) p
theorem Zd4 {P:Evt->Prop} (p:P Δ):JGs K gNil [] Δ P:=fun g G H σ vs R k r c=>by cases r; exact ⟨rfl,c σ G H Δ k (Same.refl _) p⟩
theorem Zbq {t:TG} {u:TGs} {d:D} {ds:List D} {P:Evt->Prop} (h:JG K t d Δ fun Δ1=>JGs K u ds Δ1 P):JGs K (gCons t u) (d :: ds) Δ P:=fun g G H σ vs R k r c=>by
 obtain ⟨_,_,rfl,r1,rr⟩:=r.inv
 next=>exact ⟨_,_,rfl,h g G H σ _ _ k r1 fun σ1 G1 H1 Δ1 k1 s1 p1=>p1 g G1 H1 σ1 _ R k1 (rr.mono s1) fun σ2 G2 H2 Δ2 k2 s2 p2=>c σ2 G2 H2 Δ2 k2 (s1.trans s2) p2⟩
theorem Zf6 {n:Nat} {t:TGs} {ds:List D} {P:Evt->Prop} (hl:ds.length=n) (h:JGs K t ds Δ P):JG K (gTup K n t) (.tup ds) Δ P:=fun g G H σ v R k r c=>by
 obtain ⟨_,_,rfl,ha,rs⟩:=r.inv
 next=>exact ⟨_,_,rfl,SqT.of (k.live _ _ ha),by rw [rs.length]; exact hl,h g G H σ _ R k rs c⟩
def ItOk (K:PySem.W.Frag) (G:Hp) (J:It) (ds:List D):Prop:=
 ∀ G1 H1,Same G G1->Same G1 H1->J.stop ds.length H1/\∀ (i:Nat) d,ds[i]? = some d->J.go i H1/\∀ x H2,J.yld i H1 x H2->∃ G2,Same G1 G2/\Same H1 H2/\(∀ b o,G2 b=some o->H2 b=some o/\(G1 b=some o\/H1 b=none))/\Rep K G2 x d
def JI (K:PySem.W.Frag) (wi:TI) (Δ:Evt) (P:List D->Evt->Prop):Prop:=
 ∀ g G H σ (R:It->Hp->Prop),Ok K g G H σ Δ -> (∀ J ds G' H' Δ',Ok K g G' H' σ Δ' -> Same G G' -> ItOk K G' J ds->P ds Δ' -> R J H')->wi σ H R
theorem Zou {tl:TE} {P:List D->Evt->Prop} (h:JE K tl Δ fun d Δ1=>∃ ds,d=.tup ds/\P ds Δ1):JI K (iTup K tl) Δ P:=fun g G H σ R k c=>
 h g G H σ _ k fun v d G1 H1 Δ1 k1 s1 r1 hq_=>by
  obtain ⟨ds,e,p1⟩:=hq_
  subst e
  obtain ⟨a,vs,rfl,ha,rs⟩:=r1.inv
  next=>
   refine ⟨a,rfl,⟨vs,SqT.of (k1.live _ _ ha)⟩,c _ ds G1 H1 Δ1 k1 s1 (fun G2 H2 sg sh=>⟨⟨vs,SqT.of (sh _ _ (sg _ _ ha)),by rw [rs.length]; exact Nat.le_refl _⟩,fun i d e=>?_⟩) p1⟩
   obtain ⟨v,hv,rv⟩:=rs.get e
   refine ⟨⟨vs,v,SqT.of (sh _ _ (sg _ _ ha)),hv⟩,fun x H3 ⟨e3,y3⟩=>⟨G2,Same.refl _,by rw [e3]; exact Same.refl _,fun b o q=>⟨by rw [e3]; exact sh b o q,.inl q⟩,?_⟩⟩
   have:=y3 vs (SqT.of (sh _ _ (sg _ _ ha)))
   rw [hv] at this; cases this
   exact rv.mono sg
theorem Znb {tl:TE} {P:List D->Evt->Prop} (h:JE K tl Δ fun d Δ1=>∃ ds,(d=.lst ds\/d=.scr ds)/\P ds Δ1):JI K (iList K tl) Δ P:=fun g G H σ R k c=>
 h g G H σ _ k fun v d G1 H1 Δ1 k1 s1 r1 hq_=>by
  obtain ⟨ds,e,p1⟩:=hq_
  obtain ⟨a,vs,ea,hs,rs⟩:∃ a vs,v=.ref a/\SqL K G1 a vs/\Reps K G1 vs ds:=by
   rcases e with e | e
   ·subst e; cases r1 with | lst ha rs=>exact ⟨_,_,rfl,SqL.of ha,rs⟩
   ·subst e; cases r1 with | scr ha rs=>exact ⟨_,_,rfl,ha,rs⟩
  subst ea
  refine ⟨a,rfl,⟨vs,k1.live.seq hs⟩,c _ ds G1 H1 Δ1 k1 s1 (fun G2 H2 sg sh=>⟨⟨vs,sh.seq (sg.seq hs),by rw [rs.length]; exact Nat.le_refl _⟩,fun i d e=>?_⟩) p1⟩
  obtain ⟨v,hv,rv⟩:=rs.get e
  refine ⟨⟨vs,v,sh.seq (sg.seq hs),hv⟩,fun x H3 ⟨e3,y3⟩=>⟨G2,Same.refl _,by rw [e3]; exact Same.refl _,fun b o q=>⟨by rw [e3]; exact sh b o q,.inl q⟩,?_⟩⟩
  have:=y3 vs (sh.seq (sg.seq hs))
  rw [hv] at this; cases this
  exact rv.mono sg
def rngD (lo:Int) (n:Nat):List D:=(List.range n).map fun i:Nat=>D.int (lo + (i:Int))
theorem Zbt (lo:Int) (n:Nat):(rngD lo n).length=n:=by simp [rngD]
theorem Zc4 {lo:Int} {n i:Nat} {d:D} (h:(rngD lo n)[i]? = some d):i < n/\d=.int (lo + (i:Int)):=by
 unfold rngD at h
 rw [List.getElem?_map] at h
 cases e:(List.range n)[i]? with
 | none=>rw [e] at h; cases h
 | some j=>
  rw [e] at h
  obtain ⟨h1,h2⟩:=List.getElem?_eq_some_iff.mp e
  rw [List.getElem_range] at h2
  subst h2
  exact ⟨by simpa using h1,(Option.some.inj h).symm⟩
theorem Zld {G:Hp} (lo:Int) (n:Nat):ItOk K G (Itr lo n) (rngD lo n):=fun G1 H1 sg sh=>by
 refine ⟨by show n<=(rngD lo n).length; rw [Zbt]; exact Nat.le_refl _,fun i d e=>?_⟩
 obtain ⟨h1,h2⟩:=Zc4 e
 subst h2
 refine ⟨h1,fun x H2 ⟨e2,y2⟩=>⟨G1,Same.refl _,by rw [e2]; exact Same.refl _,fun b o q=>⟨by rw [e2]; exact sh b o q,.inl q⟩,?_⟩⟩
 subst y2
 exact .int _
theorem Zcj {ta:TA} {P:List D->Evt->Prop} (h:JA K ta Δ fun ds Δ1=>∃ n:Int,ds=[.int n] /\ -(2 ^ 62)<=n/\n < 2 ^ 62/\P (rngD 0 n.toNat) Δ1):JI K (iRng1 ta) Δ P:=fun g G H σ R k c=>
 h g G H σ _ k fun vs ds G1 H1 Δ1 k1 s1 r1 hq_=>by
  obtain ⟨n,e,h1,h2,p1⟩:=hq_
  subst e
  obtain ⟨_,_,rfl,ra,rr⟩:=r1.inv
  next=>
   cases rr.inv; cases ra.inv
   exact ⟨n,rfl,h1,h2,c _ _ G1 H1 Δ1 k1 s1 (Zld 0 _) p1⟩
theorem Zo4 {wi:TI} {t:TG} {tb:TS} {P:Pst} (h:JI K wi Δ fun ds Δ1=>∃ I:Nat->Evt->Prop,I 0 Δ1/\(∀ i d Δ2,ds[i]? = some d->I i Δ2->JG K t d Δ2 fun Δ3=>JS K tb Δ3 ⟨I (i + 1),P.rt,P.nx,I (i + 1),P.ro⟩)/\∀ Δ2,I ds.length Δ2->P.nx Δ2) :
  JS K (tFor wi t tb) Δ P:=fun g G H σ E k c=>
 h g G H σ _ k fun J ds G1 H1 Δ1 k1 s1 it hq_=>by
  obtain ⟨I,h0,ht,he⟩:=hq_
  refine ⟨fun i m σ H=>m=ds.length - i/\i<=ds.length/\∃ G Δ,Ok K g G H σ Δ /\ Same G1 G/\I i Δ,⟨ds.length,by simp,Nat.zero_le _,G1,Δ1,k1,Same.refl _,h0⟩,?_⟩
  rintro i m σ2 H2 ⟨rfl,hi,G2,Δ2,k2,s2,h2⟩
  obtain ⟨stop,go⟩:=it G2 H2 s2 k2.live
  by_cases hlt:i < ds.length
  ·obtain ⟨g1,g2⟩:=go i _ (List.getElem?_eq_getElem hlt)
   refine .inr ⟨g1,fun σ' H'=>i + 1<=ds.length/\∃ G Δ,Ok K g G H' σ' Δ /\ Same G1 G/\I (i + 1) Δ,fun σ' H' p'=>⟨ds.length - (i + 1),by omega,rfl,p'.1,p'.2⟩,fun x H3 y=>?_⟩
   obtain ⟨G3,a1,a2,a3,a4⟩:=g2 x H3 y
   have k3:=k2.grow a1 a2 a3
   refine ht i _ Δ2 (List.getElem?_eq_getElem hlt) h2 { g with F:=G3,Xo:=g.Xo } G3 H3 σ2 x _ ?_ a4 fun σ4 G4 H4 Δ4 k4 s4 p4=>?_
   ·exact ⟨k3.same,k3.lent,Same.refl _,fun b o q=>⟨(k3.frz b o q).1,.inr q⟩,k3.ext,k3.len,k3.val,k3.own,k3.dis⟩
   ·have cv:∀ {G5 H5:Hp} {σ5:St} {Δ5:Evt},Ok K { g with F:=G3,Xo:=g.Xo } G5 H5 σ5 Δ5->Ok K g G5 H5 σ5 Δ5/\Same G1 G5:=fun {G5 H5 σ5 Δ5} k5=>
     ⟨⟨k5.same,k5.lent,k3.sub.trans k5.sub,fun b o q=>by
      obtain ⟨q1,q2⟩:=k5.frz b o q
      refine ⟨q1,?_⟩
      rcases q2 with z | z
      ·exact .inl z
      ·exact (k3.frz b o z).2,k5.ext,k5.len,k5.val,k5.own,k5.dis⟩,s2.trans (a1.trans k5.sub)⟩
    refine p4 _ G4 H4 σ4 _ k4 ⟨fun σ5 G5 H5 Δ5 k5 p5=>?_,fun v d σ5 G5 H5 Δ5 k5 r5 p5=>?_,fun σ5 G5 H5 Δ5 k5 p5=>?_,fun σ5 G5 H5 Δ5 k5 p5=>?_,fun a od σ5 G5 H5 Δ5 k5 pd5 p5=>?_⟩
    ·exact ⟨hlt,G5,Δ5,(cv k5).1,(cv k5).2,p5⟩
    ·exact c.rt v d σ5 G5 H5 Δ5 (cv k5).1 r5 p5
    ·exact c.nx σ5 G5 H5 Δ5 (cv k5).1 p5
    ·exact ⟨hlt,G5,Δ5,(cv k5).1,(cv k5).2,p5⟩
    ·exact c.ro a od σ5 G5 H5 Δ5 (cv k5).1 pd5 p5
  ·have e:i=ds.length:=by omega
   subst e
   exact .inl ⟨stop,c.nx σ2 G2 H2 Δ2 k2 (he Δ2 h2)⟩
end
end L2
set_option Elab.async false
set_option linter.all false
set_option maxRecDepth 100000
namespace L2
open PySem PySem.Spec PyProof.Rows
section
variable {K:PySem.W.Frag} {Δ:Evt} {P:D->Evt->Prop}
theorem jr_I {C:Int->Int->Prop} {f:Int->Int->Int} {i j:Int} (hc:C i j) (p:P (.int (f i j)) Δ):JR2 K (rI C fun i j=>.int (f i j)) (.int i) (.int j) Δ P:=fun g G H σ Q x y k rx ry c=>by
 cases rx.inv; cases ry.inv
 exact ⟨i,j,rfl,rfl,hc,c _ _ G H Δ k (Same.refl _) (.int _) p⟩
theorem Zlq {f:Int->Int->Int} {i j:Int} (p:P (.int (f i j)) Δ):JR2 K (rI0 fun i j=>.int (f i j)) (.int i) (.int j) Δ P:=fun g G H σ Q x y k rx ry c=>by
 cases rx.inv; cases ry.inv
 exact ⟨i,j,rfl,rfl,c _ _ G H Δ k (Same.refl _) (.int _) p⟩
theorem Zd8 {f:Int->Int->Bool} {i j:Int} (p:P (.bl (f i j)) Δ):JR2 K (rI0 fun i j=>.bl (f i j)) (.int i) (.int j) Δ P:=fun g G H σ Q x y k rx ry c=>by
 cases rx.inv; cases ry.inv
 exact ⟨i,j,rfl,rfl,c _ _ G H Δ k (Same.refl _) (.bl _) p⟩
theorem Zh1 {i j:Int} (p:P (.bl (decide (i=j))) Δ):JR2 K rEq (.int i) (.int j) Δ P:=fun g G H σ Q x y k rx ry c=>by
 cases rx.inv; cases ry.inv
 refine ⟨rfl,?_⟩
 have e:decide (V.int i=V.int j)=decide (i=j):=by rw [Ze0]; exact (Bool.beq_eq_decide_eq i j)
 rw [e]
 exact c _ _ G H Δ k (Same.refl _) (.bl _) p
theorem Zks {i j:Int} (p:P (.bl (!decide (i=j))) Δ):JR2 K rNe (.int i) (.int j) Δ P:=fun g G H σ Q x y k rx ry c=>by
 cases rx.inv; cases ry.inv
 refine ⟨rfl,?_⟩
 have e:decide (V.int i=V.int j)=decide (i=j):=by rw [Ze0]; exact (Bool.beq_eq_decide_eq i j)
 rw [e]
 exact c _ _ G H Δ k (Same.refl _) (.bl _) p
theorem Zn4 {ds:List D} {i:Int} {d:D} (h:atI ds i=some d) (p:P d Δ):JR2 K (rIxT K) (.tup ds) (.int i) Δ P:=fun g G H σ Q x y k rx ry c=>by
 obtain ⟨_,_,rfl,ha,rs⟩:=rx.inv
 next=>
  cases ry.inv
  obtain ⟨v,h1,h2⟩:=Zes rs h
  exact ⟨_,_,i,v,rfl,rfl,SqT.of (k.live _ _ ha),h1,c v d G H Δ k (Same.refl _) h2 p⟩
theorem Zn6 {ds:List D} {i:Int} {d:D} (h:atI ds i=some d) (p:P d Δ):JR2 K (rIxL K) (.lst ds) (.int i) Δ P:=fun g G H σ Q x y k rx ry c=>by
 obtain ⟨_,_,rfl,ha,rs⟩:=rx.inv
 next=>
  cases ry.inv
  obtain ⟨v,h1,h2⟩:=Zes rs h
  exact ⟨_,_,i,v,rfl,rfl,SqL.of (k.live _ _ ha),h1,c v d G H Δ k (Same.refl _) h2 p⟩
theorem Zi6 {n:Nat} {te:TE} {Pp:Pst} {x:Slot} {od:OD} (hx:Δ[n]? = some x) (ho:x.od=some od) (hod:∃ ds,od=.lst ds)
  (h:JE K te Δ fun d Δ1=>∃ y ds,Δ1[n]? = some y/\y.od=some (.lst ds)/\ds.length < sizeLine/\Pp.nx (Δ1.set n (y.put (.lst (ds ++ [d]))))) :
  JS K (tDrop (tBM K "list" rAppend (tVar n) (tCons te tNil))) Δ Pp:=fun g G H σ E k c=>by
 obtain ⟨a,o,h1,h2,h3,h4,h5⟩:=k.own n x _ hx ho
 obtain ⟨ds0,hod⟩:=hod
 subst hod
 cases o with
 | lst vs0=>
  refine ⟨.ref a,h1,.inl ⟨rfl,_,SqL.of h2⟩,h g G H σ _ k fun v d G1 H1 Δ1 k1 s1 r1 ⟨y,ds,q1,q2,q3,p⟩=>?_⟩
  obtain ⟨a',o',w1,w2,w3,w4,w5⟩:=k1.own n y _ q1 q2
  rw [h1] at w1; cases w1
  cases o' with
  | lst vs=>
   have w3:Reps K G1 vs ds:=w3
   exact ⟨a,vs,v,rfl,rfl,w2,by rw [w3.length]; exact q3,c.nx σ G1 _ _ (k1.write q1 q2 h1 (show OwnRep K G1 (.lst (vs ++ [v])) (.lst (ds ++ [d])) from w3.append (.cons r1 .nil))) p⟩
  | _=>exact absurd w3 (fun z=>z)
 | _=>exact absurd h3 (fun z=>z)
theorem Zpo {ds es:List D} (he:ds=[.lst es]\/ds=[.tup es]) (p:P (.int es.length) Δ) :
  JC K (fun xs H Q=>∃ p ys,xs=[.ref p]/\(SqL K H p ys\/SqT K H p ys)/\Q (.int ys.length) H) ds Δ P:=fun g G H σ Q vs k rs c=>by
 rcases he with he | he <;> subst he
 ·obtain ⟨_,_,rfl,r,t⟩:=rs.inv
  next=>
   cases t.inv
   obtain ⟨_,_,rfl,ha,rs⟩:=r.inv
   next=>
    refine ⟨_,_,rfl,.inl (SqL.of (k.live _ _ ha)),?_⟩
    rw [rs.length]; exact c _ _ G H Δ k (Same.refl _) (.int _) p
 ·obtain ⟨_,_,rfl,r,t⟩:=rs.inv
  next=>
   cases t.inv
   obtain ⟨_,_,rfl,ha,rs⟩:=r.inv
   next=>
    refine ⟨_,_,rfl,.inr (SqT.of (k.live _ _ ha)),?_⟩
    rw [rs.length]; exact c _ _ G H Δ k (Same.refl _) (.int _) p
theorem Zny {n:Nat} {x:Slot} {ds:List D} (hx:Δ[n]? = some x) (ho:x.od=some (.lst ds)) (p:P (.int ds.length) Δ) :
  JE K (tCB (fun xs H Q=>∃ p ys,xs=[.ref p]/\(SqL K H p ys\/SqT K H p ys)/\Q (.int ys.length) H) (tCons (tVar n) tNil)) Δ P:=fun g G H σ Q k c=>by
 obtain ⟨a,o,h1,h2,h3,h4,h5⟩:=k.own n x _ hx ho
 cases o with
 | lst vs=>
  have h3:Reps K G vs ds:=h3
  refine ⟨.ref a,h1,a,vs,rfl,.inl (SqL.of h2),?_⟩
  rw [h3.length]; exact c _ _ G H Δ k (Same.refl _) (.int _) p
 | _=>exact absurd h3 (fun z=>z)
theorem Zo2 {i:Int} (p:P (.int (if i < 0 then -i else i)) Δ):JC K (fun xs H Q=>∃ i,xs=[.int i]/\Q (.int (if i < 0 then -i else i)) H) [.int i] Δ P:=fun g G H σ Q vs k rs c=>by
 obtain ⟨_,_,rfl,r,t⟩:=rs.inv
 next=>cases t.inv; cases r.inv; exact ⟨i,rfl,c _ _ G H Δ k (Same.refl _) (.int _) p⟩
theorem Zhi {f:Int->Int->Int} {i j:Int} (p:P (.int (f i j)) Δ):JC K (fun xs H Q=>∃ i j,xs=[.int i,.int j]/\Q (.int (f i j)) H) [.int i,.int j] Δ P:=fun g G H σ Q vs k rs c=>by
 obtain ⟨_,_,rfl,r,t⟩:=rs.inv
 next=>
  obtain ⟨_,_,rfl,r',t⟩:=t.inv
  next=>cases t.inv; cases r.inv; cases r'.inv; exact ⟨i,j,rfl,c _ _ G H Δ k (Same.refl _) (.int _) p⟩
theorem Zlk {ds es:List D} (he:ds=[.lst es]\/ds=[.tup es]) (p:P (.tup es) Δ) :
  JC K (fun xs H Q=>∃ p ys,xs=[.ref p]/\((SqL K H p ys/\∀ l,H l=none->Q (.ref l) (upd H l (.tup ys)))\/(SqT K H p ys/\Q (.ref p) H))) ds Δ P:=fun g G H σ Q vs k rs c=>by
 rcases he with he | he <;> subst he
 ·obtain ⟨_,_,rfl,r,t⟩:=rs.inv
  next=>
   cases t.inv
   obtain ⟨_,_,rfl,ha,rs⟩:=r.inv
   next=>
    refine ⟨_,_,rfl,.inl ⟨SqL.of (k.live _ _ ha),fun l hl=>?_⟩⟩
    obtain ⟨k2,sg⟩:=k.laid hl (.tup _)
    exact c _ _ _ _ Δ k2 sg (.tup Zal (rs.mono sg)) p
 ·obtain ⟨_,_,rfl,r,t⟩:=rs.inv
  next=>
   cases t.inv
   obtain ⟨_,_,rfl,ha,rs⟩:=r.inv
   next=>exact ⟨_,_,rfl,.inr ⟨SqT.of (k.live _ _ ha),c _ _ G H Δ k (Same.refl _) (.tup ha rs) p⟩⟩
def glue (F H H':Hp):Hp:=fun b=>match H b with
 | none=>H' b
 | some _=>F b
theorem Zdp {F H H':Hp} {b:Addr} (h:H b=none):glue F H H' b=H' b:=by unfold glue; rw [h]
theorem Zcs {F H H':Hp} {b:Addr} {o:HO} (h:H b=some o):glue F H H' b=F b:=by unfold glue; rw [h]
theorem Ze8 {G H H':Hp} (l:Same G H):Same G (glue G H H'):=fun b o e=>by rw [Zcs (l b o e)]; exact e
theorem Zgi {G H H':Hp} (l:Same G H) (sh:∀ b o,G b=some o->H b=some o->H' b=some o):∀ b o,glue G H H' b=some o->H' b=some o/\(G b=some o\/H b=none):=fun b o e=>by
 cases q:H b with
 | none=>rw [Zdp q] at e; exact ⟨e,.inr rfl⟩
 | some u=>rw [Zcs q] at e; exact ⟨sh b o e (l b o e),.inl e⟩
abbrev DSp:=List D->(D->Prop)->Prop
def spD (K:PySem.W.Frag) (f:DSp):Sp:=fun vs H Q _=>∃ F ds Post,Same F H/\Reps K F vs ds/\f ds Post/\∀ r H' d,Same H H' -> Rep K (glue F H H') r d->Post d->Q r H'
theorem Zaw {f:DSp} {ta:TA} {E:XK} (h:JA K ta Δ fun ds Δ1=>f ds fun d=>P d Δ1):JE K (tCall (spD K f) [] E ta) Δ P:=fun g G H σ Q k c=>
 h g G H σ _ k fun vs ds G1 H1 Δ1 k1 s1 r1 p1=>by
  show spD K f (vs ++ []) H1 Q E
  rw [List.append_nil]
  refine ⟨G1,ds,_,k1.live,r1,p1,fun r H' d sh rr pd=>?_⟩
  have sg:=Ze8 (H':=H') k1.live
  exact c r d _ H' Δ1 (k1.grow sg sh (Zgi k1.live fun b o _ e=>sh b o e)) (s1.trans sg) rr pd
abbrev BSp:=List D->List D->(D->List D->Prop)->Prop
def spB (K:PySem.W.Frag) (f:BSp):Sp:=fun vs H Q _=>∃ F a us ws ps ds Post,vs=.ref a :: ws/\Same F H/\F a=none/\H a=some (.lst us)/\Reps K F us ps/\Reps K F ws ds/\f ps ds Post ∧
 ∀ r H' us' ps' d,(∀ b o,b ≠ a->H b=some o->H' b=some o)->H' a=some (.lst us')->Reps K (glue F H H') us' ps' -> Rep K (glue F H H') r d->Post d ps' -> Q r H'
theorem Ok.lend {g:Gm} {G H H':Hp} {σ:St} (k:Ok K g G H σ Δ) {i:Nat} {x:Slot} {ps ps':List D} {us':List V} {a:Addr} (hx:Δ[i]? = some x) (ho:x.od=some (.lst ps)) (ha:σ[i]? = some (some (.ref a)))
  (sh:∀ b o,b ≠ a->H b=some o->H' b=some o) (hn:H' a=some (.lst us')) (r:Reps K (glue G H H') us' ps'):Ok K g (glue G H H') H' σ (Δ.set i (x.put (.lst ps')))/\Same G (glue G H H'):=by
 obtain ⟨a',o,h1,h2,h3,h4,h5⟩:=k.own i x _ hx ho
 rw [ha] at h1; cases h1
 have sg:=Ze8 (H':=H') k.live
 have k2:Ok K g (glue G H H') (upd H' a o) σ Δ:=by
  refine k.grow sg (fun b u e=>?_) fun b u e=>?_
  ·by_cases hb:b=a
   ·subst hb; rw [Zal,<- h2]; exact e
   ·rw [Zai hb]; exact sh b u hb e
  ·have hb:b ≠ a:=by intro z; subst z; rw [Zcs h2,h4] at e; cases e
   rw [Zai hb]
   exact Zgi k.live (fun c w e1 e2=>sh c w (fun z=>by subst z; rw [h4] at e1; cases e1) e2) b u e
 have k3:=k2.write hx ho ha (show OwnRep K (glue G H H') (.lst us') (.lst ps') from r)
 rw [Znp] at k3
 have e:upd H' a (.lst us')=H':=by
  funext b
  by_cases hb:b=a
  ·subst hb; rw [Zal,hn]
  ·rw [Zai hb]
 rw [e] at k3
 exact ⟨k3,sg⟩
theorem Zkb {f:BSp} {ta:TA} {E:XK} {i:Nat} {x:Slot} {od:OD} (hx:Δ[i]? = some x) (ho:x.od=some od) (h:JA K ta Δ fun ds Δ1=>∃ y ps,Δ1[i]? = some y/\y.od=some (.lst ps)/\f ps ds fun d ps'=>P d (Δ1.set i (y.put (.lst ps')))) :
  JE K (tCall (spB K f) [] E (tCons (tVar i) ta)) Δ P:=fun g G H σ Q k c=>by
 obtain ⟨a,o,h1,h2,h3,h4,h5⟩:=k.own i x _ hx ho
 refine ⟨.ref a,h1,h g G H σ _ k fun vs ds G1 H1 Δ1 k1 s1 r1 ⟨y,ps,q1,q2,p1⟩=>?_⟩
 show spB K f ((.ref a :: vs) ++ []) H1 Q E
 rw [List.append_nil]
 obtain ⟨a',o',w1,w2,w3,w4,w5⟩:=k1.own i y _ q1 q2
 rw [h1] at w1; cases w1
 cases o' with
 | lst us=>
  refine ⟨G1,a,us,vs,ps,ds,_,rfl,k1.live,w4,w2,w3,r1,p1,fun r H' us' ps' d sh hn rr rd pd=>?_⟩
  obtain ⟨k2,sg⟩:=k1.lend q1 q2 h1 sh hn rr
  exact c r d _ H' _ k2 (s1.trans sg) rd pd
 | _=>exact absurd w3 (fun z=>z)
abbrev NSp:=List D->(List D->Prop)->Prop
def spN (K:PySem.W.Frag) (f:NSp):Sp:=fun vs H Q _=>∃ F ds Post,Same F H/\Reps K F vs ds/\f ds Post ∧
 ∀ a H' us ps,Same H H' -> H a=none->H' a=some (.lst us)->Reps K (fun b=>if b=a then none else glue F H H' b) us ps->Post ps->Q (.ref a) H'
theorem Zgj {f:NSp} {ta:TA} {E:XK} {Po:OD->Evt->Prop} (h:JA K ta Δ fun ds Δ1=>f ds fun ps=>Po (.lst ps) Δ1):JO K (tCall (spN K f) [] E ta) Δ Po:=fun g G H σ Q k c=>
 h g G H σ _ k fun vs ds G1 H1 Δ1 k1 s1 r1 p1=>by
  show spN K f (vs ++ []) H1 Q E
  rw [List.append_nil]
  refine ⟨G1,ds,_,k1.live,r1,p1,fun a H' us ps sh ha hn rr pd=>?_⟩
  have sg:Same G1 (fun b=>if b=a then none else glue G1 H1 H' b):=fun b o e=>by
   have hb:b ≠ a:=by intro z; subst z; rw [k1.live _ _ e] at ha; cases ha
   try dsimp only
   rw [if_neg hb]
   exact Ze8 k1.live b o e
  have k2:Ok K g (fun b=>if b=a then none else glue G1 H1 H' b) H' σ Δ1:=k1.grow sg sh fun b o e=>by
   try dsimp only at e
   by_cases hb:b=a
   ·rw [if_pos hb] at e; cases e
   ·rw [if_neg hb] at e; exact Zgi k1.live (fun b o _ e=>sh b o e) b o e
  refine c a _ _ H' Δ1 k2 (s1.trans sg) ⟨.lst us,hn,(show OwnRep K _ (.lst us) (.lst ps) from rr),by simp,k1.there ha,?_,fun j x od' e1 e2 e3=>?_⟩ pd
  ·cases q:g.Xo a with
   | none=>rfl
   | some u=>have z:=(k1.ext a u q).1; rw [ha] at z; cases z
  ·obtain ⟨b,oo,w1,w2,_⟩:=k1.own j x od' e1 e2
   rw [e3] at w1; cases w1
   rw [ha] at w2; cases w2
end
def startD (N:List Str) (ds:List D):Evt:=ds.map .val ++ List.replicate (N.length - ds.length) .any
section
variable {K:PySem.W.Frag}
theorem Ze5 {g:Gm} {G H:Hp} {N:List Str} {vs:List V} {ds:List D} (rs:Reps K G vs ds) (hl:ds.length<=N.length) (same:∀ b o,¬ g.B b->g.Hz b=some o->H b=some o) (lent:∀ b,g.B b->H b ≠ none) (sub:Same g.F G)
  (frz:∀ b o,G b=some o->H b=some o/\(g.Hz b=none\/g.F b=some o)) (ext:∀ b,g.Xo b=none):Ok K g G H (start N vs) (startD N ds):=by
 have noOd:∀ (i:Nat) x od,(startD N ds)[i]? = some x->x.od=some od->False:=fun i x od e1 e2=>by
  have hm:=List.mem_of_getElem? e1
  rcases List.mem_append.mp hm with z | z
  ·obtain ⟨d,_,rfl⟩:=List.mem_map.mp z; cases e2
  ·rw [List.mem_replicate] at z; rw [z.2] at e2; cases e2
 refine ⟨same,lent,sub,frz,fun b o e=>(by rw [ext b] at e; cases e),?_,fun i d e=>?_,fun i x od e1 e2=>(noOd i x od e1 e2).elim,fun i j x y od od' a e1 e2=>(noOd i x od e1 e2).elim⟩
 ·unfold start startD
  rw [List.length_append,List.length_append,List.length_map,List.length_map,List.length_replicate,List.length_replicate,rs.length]
 ·unfold startD at e
  unfold start
  by_cases hi:i < ds.length
  ·rw [List.getElem?_append_left (by simpa using hi),List.getElem?_map] at e
   cases q:ds[i]? with
   | none=>rw [q] at e; cases e
   | some d'=>
    rw [q] at e
    have e:Slot.val d' = Slot.val d:=by simpa using e
    cases e
    obtain ⟨v,h1,h2⟩:=rs.get q
    refine ⟨v,?_,h2⟩
    rw [List.getElem?_append_left (by rw [List.length_map,rs.length]; exact hi),List.getElem?_map,h1]
    rfl
  ·rw [List.getElem?_append_right (by simpa using hi),List.getElem?_replicate] at e
   split at e <;> cases e
theorem Zcn {f:DSp} {t:TS} {N:List Str} {vs:List V} {H:Hp} {Q:VK} {E:XK} (ht:∀ ds Post,f ds Post->ds.length<=N.length/\JS K t (startD N ds) ⟨fun _=>Post .non,fun d _=>Post d,fun _=>False,fun _=>False,fun _ _=>False⟩) (h:spD K f vs H Q E) :
  t { nx:=fun _ H'=>Q .non H',rt:=Q } (start N vs) H:=by
 obtain ⟨F,ds,Post,l,rs,hf,q⟩:=h
 obtain ⟨hl,hj⟩:=ht ds Post hf
 have fin:∀ {v:V} {d:D} {σ:St} {G H':Hp} {Δ:Evt},Ok K ⟨fun _=>False,F,H,fun _=>none⟩ G H' σ Δ -> Rep K G v d->Post d->Q v H':=fun {v d σ G H' Δ} k r p=>by
  refine q v H' d (fun b o e=>k.same b o (fun z=>z) e) (r.mono fun b o e=>?_) p
  obtain ⟨e1,e2⟩:=k.frz b o e
  rcases e2 with z | z
  ·rw [Zdp z]; exact e1
  ·rw [Zcs (l b o z)]; exact z
 refine hj ⟨fun _=>False,F,H,fun _=>none⟩ F H (start N vs) _ (Ze5 rs hl (fun _ _ _ e=>e) (fun _ z=>z.elim) (Same.refl _) (fun b o e=>⟨l b o e,.inr e⟩) fun _=>rfl) ⟨fun σ G H' Δ k p=>fin k .non p,fun v d σ G H' Δ k r p=>fin k r p,fun _ _ _ _ _ z=>z.elim,fun _ _ _ _ _ z=>z.elim,fun _ _ _ _ _ _ _ _ z=>z.elim⟩
theorem Zoz {f:NSp} {t:TS} {N:List Str} {vs:List V} {H:Hp} {Q:VK} {E:XK} (ht:∀ ds Post,f ds Post->ds.length<=N.length/\JS K t (startD N ds) ⟨fun _=>False,fun _ _=>False,fun _=>False,fun _=>False,fun od _=>∃ ps,od=.lst ps/\Post ps⟩) (h:spN K f vs H Q E) :
  t { nx:=fun _ H'=>Q .non H',rt:=Q } (start N vs) H:=by
 obtain ⟨F,ds,Post,l,rs,hf,q⟩:=h
 obtain ⟨hl,hj⟩:=ht ds Post hf
 refine hj ⟨fun _=>False,F,H,fun _=>none⟩ F H (start N vs) _ (Ze5 rs hl (fun _ _ _ e=>e) (fun _ z=>z.elim) (Same.refl _) (fun b o e=>⟨l b o e,.inr e⟩) fun _=>rfl) ⟨fun _ _ _ _ _ z=>z.elim,fun _ _ _ _ _ _ _ _ z=>z.elim,fun _ _ _ _ _ z=>z.elim,fun _ _ _ _ _ z=>z.elim,fun a od σ G H' Δ k pd ⟨ps,e,p⟩=>?_⟩
 subst e
 obtain ⟨o,h1,h2,h3,h4,h5,h6⟩:=pd
 cases o with
 | lst us=>
  refine q a H' us ps (fun b o e=>k.same b o (fun z=>z) e) h4 h1 (Reps.mono (fun b o e=>?_) (show Reps K G us ps from h2)) p
  have hb:b ≠ a:=by intro z; subst z; rw [h3] at e; cases e
  try dsimp only
  rw [if_neg hb]
  obtain ⟨e1,e2⟩:=k.frz b o e
  rcases e2 with z | z
  ·rw [Zdp z]; exact e1
  ·rw [Zcs (l b o z)]; exact z
 | _=>exact absurd h2 (fun z=>z)
theorem Zmn {f:BSp} {t:TS} {N:List Str} {vs:List V} {H:Hp} {Q:VK} {E:XK} (ht:∀ ps ds Post,f ps ds Post->ds.length + 1<=N.length/\JS K t (.bor (.lst ps) :: startD N.tail ds) ⟨fun Δ=>∃ ps',Δ[0]? = some (.bor (.lst ps'))/\Post .non ps',fun d Δ=>∃ ps',Δ[0]? = some (.bor (.lst ps'))/\Post d ps',fun _=>False,fun _=>False,fun _ _=>False⟩) (h:spB K f vs H Q E) :
  t { nx:=fun _ H'=>Q .non H',rt:=Q } (start N vs) H:=by
 obtain ⟨F,a,us,ws,ps,ds,Post,rfl,l,fa,ha,ru,rs,hf,q⟩:=h
 obtain ⟨hl,hj⟩:=ht ps ds Post hf
 have fin:∀ {v:V} {d:D} {σ:St} {G H':Hp} {Δ:Evt} {ps':List D},Ok K ⟨fun b=>b=a,F,H,fun _=>none⟩ G H' σ Δ -> Δ[0]? = some (.bor (.lst ps'))->Rep K G v d->Post d ps' -> Q v H':=fun {v d σ G H' Δ ps'} k e0 r p=>by
  obtain ⟨a',o,h1,h2,h3,h4,h5⟩:=k.own 0 _ _ e0 rfl
  have ea:a' = a:=h5
  subst ea
  cases o with
  | lst us'=>
   have up:Same G (glue F H H'):=fun b o e=>by
    obtain ⟨e1,e2⟩:=k.frz b o e
    rcases e2 with z | z
    ·rw [Zdp z]; exact e1
    ·rw [Zcs (l b o z)]; exact z
   exact q v H' us' ps' d (fun b o hb e=>k.same b o hb e) h2 (Reps.mono up (show Reps K G us' ps' from h3)) (r.mono up) p
  | _=>exact absurd h3 (fun z=>z)
 cases N with
 | nil=>simp at hl
 | cons n0 N=>
  have hl':ds.length<=N.length:=by simpa using hl
  have k0:=Ze5 (K:=K) (H:=H) (g:=⟨fun b=>b=a,F,H,fun _=>none⟩) (N:=N) rs hl' (fun _ _ _ e=>e) (fun b z=>by subst z; rw [ha]; intro w; cases w) (Same.refl _) (fun b o e=>⟨l b o e,.inr e⟩) fun _=>rfl
  have e1:start (n0 :: N) (.ref a :: ws)=some (.ref a) :: start N ws:=by
   unfold start
   rw [List.map_cons,List.length_cons,List.length_cons,Nat.add_sub_add_right]
   rfl
  rw [e1]
  have noOd:∀ (i:Nat) x od,(startD N ds)[i]? = some x->x.od=some od->False:=fun i x od e1 e2=>by
   have hm:=List.mem_of_getElem? e1
   rcases List.mem_append.mp hm with z | z
   ·obtain ⟨d,_,rfl⟩:=List.mem_map.mp z; cases e2
   ·rw [List.mem_replicate] at z; rw [z.2] at e2; cases e2
  have k1:Ok K ⟨fun b=>b=a,F,H,fun _=>none⟩ F H (some (.ref a) :: start N ws) (.bor (.lst ps) :: startD N ds):=by
   refine ⟨k0.same,k0.lent,k0.sub,k0.frz,fun b o e=>(by cases e),(by rw [List.length_cons,List.length_cons,k0.len]),fun i d e=>?_,fun i x od e1 e2=>?_,fun i j x y od od' c e1 e2 e3 e4 _ _=>?_⟩
   ·cases i with
    | zero=>cases e
    | succ i=>exact k0.val i d e
   ·cases i with
    | zero=>cases e1; cases e2; exact ⟨a,.lst us,rfl,ha,ru,fa,rfl⟩
    | succ i=>exact (noOd i x od e1 e2).elim
   ·cases i with
    | zero=>cases j with
     | zero=>rfl
     | succ j=>exact (noOd j y od' e3 e4).elim
    | succ i=>exact (noOd i x od e1 e2).elim
  exact hj _ F H _ _ k1 ⟨fun σ G H' Δ k ⟨ps',e,p⟩=>fin k e .non p,fun v d σ G H' Δ k r ⟨ps',e,p⟩=>fin k e r p,fun _ _ _ _ _ z=>z.elim,fun _ _ _ _ _ z=>z.elim,fun _ _ _ _ _ _ _ _ z=>z.elim⟩
theorem Za8 {f:DSp} {n:Nat} (h:∀ ds Post,f ds Post->ds.length=n):∀ vs H Q E,spD K f vs H Q E->vs.length=n:=fun vs H Q E hq_=>by obtain ⟨F,ds,Post,l,rs,hf,q⟩:=hq_; rw [rs.length]; exact h ds Post hf
theorem Zja {f:NSp} {n:Nat} (h:∀ ds Post,f ds Post->ds.length=n):∀ vs H Q E,spN K f vs H Q E->vs.length=n:=fun vs H Q E hq_=>by obtain ⟨F,ds,Post,l,rs,hf,q⟩:=hq_; rw [rs.length]; exact h ds Post hf
theorem Zgw {f:BSp} {n:Nat} (h:∀ ps ds Post,f ps ds Post->ds.length + 1=n):∀ vs H Q E,spB K f vs H Q E->vs.length=n:=fun vs H Q E hq_=>by obtain ⟨F,a,us,ws,ps,ds,Post,e,l,fa,ha,ru,rs,hf,q⟩:=hq_; rw [e,List.length_cons,rs.length]; exact h ps ds Post hf
end
end L2
set_option Elab.async false
set_option linter.all false
set_option maxRecDepth 100000
namespace L2
open PySem PySem.Spec PyProof.Rows
def JGn (K:PySem.W.Frag) (n:Nat) (t:TG) (d:D) (Δ:Evt) (P:Evt->Prop):Prop:=
 ∀ g G H σ v (R:St->Hp->Prop),Ok K g G H σ Δ -> Rep K G v d->(∀ σ' G' H' Δ',Ok K g G' H' σ' Δ' -> Same G G' -> (∀ j,n<=j -> σ'[j]? = σ[j]?)->P Δ' -> R σ' H')->t v σ H R
def JGsn (K:PySem.W.Frag) (n:Nat) (t:TGs) (ds:List D) (Δ:Evt) (P:Evt->Prop):Prop:=
 ∀ g G H σ vs (R:St->Hp->Prop),Ok K g G H σ Δ -> Reps K G vs ds->(∀ σ' G' H' Δ',Ok K g G' H' σ' Δ' -> Same G G' -> (∀ j,n<=j -> σ'[j]? = σ[j]?)->P Δ' -> R σ' H')->t vs σ H R
section
variable {K:PySem.W.Frag} {Δ:Evt}
theorem Zlc {n i:Nat} {d:D} {P:Evt->Prop} (hn:i < n) (hi:i < Δ.length) (p:P (Δ.set i (.val d))):JGn K n (gName i) d Δ P:=fun g G H σ v R k r c=>
 c _ G H _ (k.setVal hi r) (Same.refl _) (fun j hj=>List.getElem?_set_ne (by omega)) p
theorem Zlu {n:Nat} {P:Evt->Prop} (p:P Δ):JGsn K n gNil [] Δ P:=fun g G H σ vs R k r c=>by cases r; exact ⟨rfl,c σ G H Δ k (Same.refl _) (fun _ _=>rfl) p⟩
theorem Zfq {n:Nat} {t:TG} {u:TGs} {d:D} {ds:List D} {P:Evt->Prop} (h:JGn K n t d Δ fun Δ1=>JGsn K n u ds Δ1 P):JGsn K n (gCons t u) (d :: ds) Δ P:=fun g G H σ vs R k r c=>by
 obtain ⟨_,_,rfl,r1,rr⟩:=r.inv
 next=>exact ⟨_,_,rfl,h g G H σ _ _ k r1 fun σ1 G1 H1 Δ1 k1 s1 e1 p1=>p1 g G1 H1 σ1 _ R k1 (rr.mono s1) fun σ2 G2 H2 Δ2 k2 s2 e2 p2=>c σ2 G2 H2 Δ2 k2 (s1.trans s2) (fun j hj=>(e2 j hj).trans (e1 j hj)) p2⟩
theorem Zmv {n m:Nat} {t:TGs} {ds:List D} {P:Evt->Prop} (hl:ds.length=m) (h:JGsn K n t ds Δ P):JGn K n (gTup K m t) (.tup ds) Δ P:=fun g G H σ v R k r c=>by
 obtain ⟨_,_,rfl,ha,rs⟩:=r.inv
 next=>exact ⟨_,_,rfl,SqT.of (k.live _ _ ha),by rw [rs.length]; exact hl,h g G H σ _ R k rs c⟩
end
def compD (n:Nat) (sel:List Nat) (Δ:Evt):Evt:=List.replicate n .any ++ sel.map fun i=>(Δ[i]?).getD .any
def backAt (n:Nat) (sel:List Nat) (Δi:Evt) (i:Nat) (x:Slot):Slot:=match x with
 | .val d=>.val d
 | .any=>.any
 | x=>match sel.idxOf? i with
  | none=>x
  | some j=>match Δi[n + j]? with
   | some (.own o)=>.own o
   | some (.bor o)=>.bor o
   | some (.ownA a o)=>.ownA a o
   | _=>.any
def backD (n:Nat) (sel:List Nat) (Δi:Evt):Nat->Evt->Evt
 | _,[]=>[]
 | i,x :: r=>backAt n sel Δi i x :: backD n sel Δi (i + 1) r
theorem Zcc (n:Nat) (sel:List Nat) (Δi:Evt):∀ (Δ:Evt) (k i:Nat),(backD n sel Δi k Δ)[i]? = (Δ[i]?).map (backAt n sel Δi (k + i))
 | [],k,i=>by simp [backD]
 | x :: r,k,0=>by simp [backD]
 | x :: r,k,i + 1=>by
  have:=Zcc n sel Δi r (k + 1) i
  simp only [backD,List.getElem?_cons_succ]
  rw [this,show k + 1 + i=k + (i + 1) by omega]
theorem Zfs (n:Nat) (sel:List Nat) (Δi:Evt):∀ (Δ:Evt) (k:Nat),(backD n sel Δi k Δ).length = Δ.length
 | [],k=>rfl
 | x :: r,k=>by simp [backD,Zfs n sel Δi r (k + 1)]
theorem Zc8 {sel:List Nat} {i j:Nat} (h:sel.idxOf? i=some j):sel[j]? = some i:=by
 have h2:=List.idxOf?_eq_some_iff.mp h
 obtain ⟨hj,e,_⟩:=h2
 rw [List.getElem?_eq_getElem hj,e]
theorem Zi2 {n:Nat} {sel:List Nat} {Δi:Evt} {i:Nat} {x y:Slot} {od:OD} (h:backAt n sel Δi i x=y) (ho:y.od=some od) :
  (x=y/\sel.idxOf? i=none)\/∃ j,sel[j]? = some i /\ Δi[n + j]? = some y/\∃ od',x.od=some od':=by
 unfold backAt at h
 cases x with
 | any=>subst h; cases ho
 | val d=>subst h; cases ho
 | own o=>
  dsimp only at h
  cases q:sel.idxOf? i with
  | none=>rw [q] at h; exact .inl ⟨h,rfl⟩
  | some j=>
   rw [q] at h
   dsimp only at h
   refine .inr ⟨j,Zc8 q,?_,o,rfl⟩
   cases e:Δi[n + j]? with
   | none=>rw [e] at h; subst h; cases ho
   | some z=>rw [e] at h; cases z <;> (subst h; first | rfl | cases ho)
 | ownA a o=>
  dsimp only at h
  cases q:sel.idxOf? i with
  | none=>rw [q] at h; exact .inl ⟨h,rfl⟩
  | some j=>
   rw [q] at h
   dsimp only at h
   refine .inr ⟨j,Zc8 q,?_,o,rfl⟩
   cases e:Δi[n + j]? with
   | none=>rw [e] at h; subst h; cases ho
   | some z=>rw [e] at h; cases z <;> (subst h; first | rfl | cases ho)
 | bor o=>
  dsimp only at h
  cases q:sel.idxOf? i with
  | none=>rw [q] at h; exact .inl ⟨h,rfl⟩
  | some j=>
   rw [q] at h
   dsimp only at h
   refine .inr ⟨j,Zc8 q,?_,o,rfl⟩
   cases e:Δi[n + j]? with
   | none=>rw [e] at h; subst h; cases ho
   | some z=>rw [e] at h; cases z <;> (subst h; first | rfl | cases ho)
section
variable {K:PySem.W.Frag} {Δ:Evt}
open Classical in
noncomputable def aside (g:Gm) (sel:List Nat) (σ:St) (Δ:Evt) (H:Hp) (acc:Addr) (ys:List V):Hp:=fun b=>
 if b=acc then some (.lst ys) else if ∃ (i:Nat) (x:Slot) (od:OD),Δ[i]? = some x/\x.od=some od/\i ∉ sel /\ σ[i]? = some (some (.ref b)) then H b else g.Xo b
theorem Zcp {n:Nat} {sel:List Nat} {σ:St} {j i:Nat} (h:sel[j]? = some i):(compSt n sel σ)[n + j]? = some ((σ[i]?).getD none):=by
 unfold compSt
 rw [List.getElem?_append_right (by rw [List.length_replicate]; omega),List.length_replicate,Nat.add_sub_cancel_left,List.getElem?_map,h]
 rfl
theorem Zbv {n:Nat} {sel:List Nat} {Δ:Evt} {k:Nat} {x:Slot} (h:(compD n sel Δ)[k]? = some x):x=.any\/∃ j i,k=n + j/\sel[j]? = some i /\ Δ[i]? = some x:=by
 unfold compD at h
 by_cases hk:k < n
 ·rw [List.getElem?_append_left (by simpa using hk),List.getElem?_replicate,if_pos hk] at h
  exact .inl (Option.some.inj h).symm
 ·rw [List.getElem?_append_right (by simpa using hk),List.length_replicate,List.getElem?_map] at h
  cases e:sel[k - n]? with
  | none=>rw [e] at h; cases h
  | some i=>
   rw [e] at h
   have h:(Δ[i]?).getD .any=x:=by simpa using h
   cases q:Δ[i]? with
   | none=>rw [q] at h; exact .inl h.symm
   | some y=>rw [q] at h; cases h; exact .inr ⟨k - n,i,by omega,e,q⟩
theorem Zep {g:Gm} {G1 H1:Hp} {σ:St} {Δ1:Evt} {n:Nat} {sel:List Nat} {acc:Addr} {X0:Hp} (hsel:sel.Nodup) (k1:Ok K g G1 H1 σ Δ1) (hacc:H1 acc=none)
  (hX:∀ b o,X0 b=some o->(b=acc/\o=.lst [])\/(b ≠ acc/\(((∃ (i:Nat) (x:Slot) (od:OD),Δ1[i]? = some x/\x.od=some od/\i ∉ sel /\ σ[i]? = some (some (.ref b)))/\H1 b=some o)\/g.Xo b=some o))):Ok K ⟨g.B,G1,g.Hz,X0⟩ G1 (upd H1 acc (.lst [])) (compSt n sel σ) (compD n sel Δ1):=by
 have hsl:∀ {j j' i:Nat},sel[j]? = some i->sel[j']? = some i->j=j':=fun {j j' i} a b=>by
  obtain ⟨h1,e1⟩:=List.getElem?_eq_some_iff.mp a
  obtain ⟨h2,e2⟩:=List.getElem?_eq_some_iff.mp b
  exact (List.getElem_inj hsel).mp (e1.trans e2.symm)
 have hGa:G1 acc=none:=by
  cases e:G1 acc with
  | none=>rfl
  | some u=>rw [k1.live _ _ e] at hacc; cases hacc
 have cs:∀ {j i:Nat} {a:Addr},sel[j]? = some i->(compSt n sel σ)[n + j]? = some (some (.ref a)) -> σ[i]? = some (some (.ref a)):=fun {j i a} ej e3=>by
  rw [Zcp ej] at e3
  cases q:σ[i]? with
  | none=>rw [q] at e3; cases e3
  | some w=>rw [q] at e3; cases e3; rfl
 have oldH:∀ b o,H1 b=some o->(upd H1 acc (.lst [])) b=some o:=fun b o e=>by rw [Zai (Zah e hacc)]; exact e
 refine ⟨fun b o hb e=>oldH b o (k1.same b o hb e),fun b hb z=>?_,Same.refl _,fun b o e=>⟨oldH b o (k1.live b o e),.inr e⟩,fun b o e=>?_,?_,fun i d e=>?_,fun i x od e1 e2=>?_,fun i j x y od od' a e1 e2 e3 e4 e5 e6=>?_⟩
 ·cases q:H1 b with
  | none=>exact k1.lent b hb q
  | some u=>rw [oldH b u q] at z; cases z
 ·rcases hX b o e with ⟨rfl,rfl⟩ | ⟨hb,⟨⟨i0,x0,od0,f1,f2,f3,f4⟩,e⟩ | e⟩
  ·refine ⟨Zal,hGa,fun i x od e1 e2 e3=>?_⟩
   rcases Zbv e1 with z | ⟨j,i',ei,ej,z⟩
   ·subst z; cases e2
   ·subst ei
    obtain ⟨a,o,w1,w2,_⟩:=k1.own i' x od z e2
    rw [cs ej e3] at w1; cases w1
    rw [hacc] at w2; cases w2
  ·obtain ⟨a,oo,w1,w2,w3,w4,w5⟩:=k1.own i0 x0 od0 f1 f2
   rw [f4] at w1; cases w1
   refine ⟨oldH b o e,w4,fun i x od e1 e2 e3=>?_⟩
   rcases Zbv e1 with z | ⟨j,i',ei,ej,z⟩
   ·subst z; cases e2
   ·subst ei
    have:=k1.dis i0 i' x0 x od0 od b f1 f2 z e2 f4 (cs ej e3)
    subst this
    exact f3 (List.mem_of_getElem? ej)
  ·obtain ⟨w1,w2,w3⟩:=k1.ext b o e
   refine ⟨oldH b o w1,w2,fun i x od e1 e2 e3=>?_⟩
   rcases Zbv e1 with z | ⟨j,i',ei,ej,z⟩
   ·subst z; cases e2
   ·subst ei; exact w3 i' x od z e2 (cs ej e3)
 ·unfold compD compSt
  simp
 ·rcases Zbv e with z | ⟨j,i',ei,ej,z⟩
  ·cases z
  ·subst ei
   obtain ⟨v,w1,w2⟩:=k1.val i' d z
   exact ⟨v,by rw [Zcp ej,w1]; rfl,w2⟩
 ·rcases Zbv e1 with z | ⟨j,i',ei,ej,z⟩
  ·subst z; cases e2
  ·subst ei
   obtain ⟨a,o,w1,w2,w3,w4,w5⟩:=k1.own i' x od z e2
   exact ⟨a,o,by rw [Zcp ej,w1]; rfl,oldH a o w2,w3,w4,w5⟩
 ·rcases Zbv e1 with z | ⟨j1,i1,ei,ej,z⟩
  ·subst z; cases e2
  ·rcases Zbv e3 with z' | ⟨j2,i2,ei',ej',z'⟩
   ·subst z'; cases e4
   ·subst ei; subst ei'
    have:=k1.dis i1 i2 x y od od' a z e2 z' e4 (cs ej e5) (cs ej' e6)
    subst this
    rw [hsl ej ej']
theorem Zfd {σ σ2:St} {Δ1 Δ2:Evt} {n:Nat} {sel:List Nat} (hσ:∀ j,n<=j -> σ2[j]? = (compSt n sel σ)[j]?) (i:Nat) (y:Slot) (od:OD) (e1:(backD n sel Δ2 0 Δ1)[i]? = some y) (e2:y.od=some od) :
  ∃ x od',Δ1[i]? = some x/\x.od=some od' /\ ((x=y/\i ∉ sel)\/∃ j,sel[j]? = some i /\ Δ2[n + j]? = some y /\ σ2[n + j]? = some ((σ[i]?).getD none)):=by
 rw [Zcc] at e1
 cases q:Δ1[i]? with
 | none=>rw [q] at e1; cases e1
 | some x=>
  rw [q] at e1
  have e1:backAt n sel Δ2 i x=y:=by simpa using e1
  rcases Zi2 e1 e2 with ⟨z1,z2⟩ | ⟨j,z1,z2,od',z3⟩
  ·refine ⟨x,od,rfl,by rw [z1]; exact e2,.inl ⟨z1,fun hm=>?_⟩⟩
   rw [List.idxOf?_eq_none_iff] at z2
   exact z2 hm
  ·exact ⟨x,od',rfl,z3,.inr ⟨j,z1,z2,by rw [hσ (n + j) (by omega)]; exact Zcp z1⟩⟩
theorem Zea {g:Gm} {G1 H1 G2 H2 Xv:Hp} {σ σ2:St} {Δ1 Δ2:Evt} {n:Nat} {sel:List Nat} {acc:Addr} (k1:Ok K g G1 H1 σ Δ1) (hacc:H1 acc=none) (k2:Ok K ⟨g.B,G1,g.Hz,Xv⟩ G2 H2 σ2 Δ2) (hσ:∀ j,n<=j -> σ2[j]? = (compSt n sel σ)[j]?)
  (hX:∀ b o,b ≠ acc->(∃ (i:Nat) (x:Slot) (od:OD),Δ1[i]? = some x/\x.od=some od/\i ∉ sel /\ σ[i]? = some (some (.ref b)))->H1 b=some o->Xv b=some o) (hY:∀ b o,b ≠ acc->¬ (∃ (i:Nat) (x:Slot) (od:OD),Δ1[i]? = some x/\x.od=some od/\i ∉ sel /\ σ[i]? = some (some (.ref b)))->g.Xo b=some o->Xv b=some o):Ok K g G2 H2 σ (backD n sel Δ2 0 Δ1):=by
 have s2:Same G1 G2:=k2.sub
 have src:=Zfd (Δ1:=Δ1) (Δ2:=Δ2) hσ
 refine ⟨k2.same,k2.lent,k1.sub.trans s2,fun b o e=>?_,fun b o e=>?_,by rw [Zfs,k1.len],fun i d e=>?_,fun i y od e1 e2=>?_,fun i j x y od od' a e1 e2 e3 e4 e5 e6=>?_⟩
 ·obtain ⟨q1,q2⟩:=k2.frz b o e
  refine ⟨q1,?_⟩
  rcases q2 with z | z
  ·exact .inl z
  ·exact (k1.frz b o z).2
 ·obtain ⟨w1,w2,w3⟩:=k1.ext b o e
  have hne:b ≠ acc:=by intro z; subst z; rw [hacc] at w1; cases w1
  obtain ⟨u1,u2,u3⟩:=k2.ext b o (hY b o hne (fun ⟨i,x,od,f1,f2,f3,f4⟩=>w3 i x od f1 f2 f4) e)
  refine ⟨u1,u2,fun i y od e1 e2 e3=>?_⟩
  obtain ⟨x,od',f1,f2,_⟩:=src i y od e1 e2
  exact w3 i x od' f1 f2 e3
 ·rw [Zcc] at e
  cases q:Δ1[i]? with
  | none=>rw [q] at e; cases e
  | some x=>
   rw [q] at e
   have e:backAt n sel Δ2 (0 + i) x=.val d:=by simpa using e
   have ex:x=.val d:=by
    unfold backAt at e
    cases x with
    | any=>cases e
    | val d'=>exact e
    | own o=>dsimp only at e; split at e <;> first | cases e | (split at e <;> cases e)
    | bor o=>dsimp only at e; split at e <;> first | cases e | (split at e <;> cases e)
    | ownA a o=>dsimp only at e; split at e <;> first | cases e | (split at e <;> cases e)
   subst ex
   obtain ⟨v,w1,w2⟩:=k1.val i d q
   exact ⟨v,w1,w2.mono s2⟩
 ·obtain ⟨x,od',f1,f2,f3⟩:=src i y od e1 e2
  rcases f3 with ⟨f3,f4⟩ | ⟨j,f3,f4,f5⟩
  ·subst f3
   obtain ⟨a,o,w1,w2,w3,w4,w5⟩:=k1.own i x od f1 e2
   have hne:a ≠ acc:=by intro z; subst z; rw [hacc] at w2; cases w2
   obtain ⟨u1,u2,u3⟩:=k2.ext a o (hX a o hne ⟨i,x,od,f1,e2,f4,w1⟩ w2)
   exact ⟨a,o,w1,u1,w3.mono s2,u2,w5⟩
  ·obtain ⟨a,o,w1,w2,w3,w4,w5⟩:=k2.own (n + j) y od f4 e2
   obtain ⟨a0,o0,v1,_⟩:=k1.own i x od' f1 f2
   rw [f5,v1] at w1
   have ea:a0=a:=by cases w1; rfl
   subst ea
   exact ⟨a0,o,v1,w2,w3,w4,w5⟩
 ·obtain ⟨x',od1,f1,f2,_⟩:=src i x od e1 e2
  obtain ⟨y',od2,f3,f4,_⟩:=src j y od' e3 e4
  exact k1.dis i j x' y' od1 od2 a f1 f2 f3 f4 e5 e6
theorem Ok.base {g:Gm} {G1 F X G5 H5:Hp} {σ5:St} {Δ5:Evt} (sF:Same G1 F) (hF:∀ b o,F b=some o->(g.Hz b=none\/G1 b=some o)) (k5:Ok K ⟨g.B,F,g.Hz,X⟩ G5 H5 σ5 Δ5):Ok K ⟨g.B,G1,g.Hz,X⟩ G5 H5 σ5 Δ5:=
 ⟨k5.same,k5.lent,sF.trans k5.sub,fun b o q=>by
  obtain ⟨q1,q2⟩:=k5.frz b o q
  refine ⟨q1,?_⟩
  rcases q2 with z | z
  ·exact .inl z
  ·exact hF b o z,k5.ext,k5.len,k5.val,k5.own,k5.dis⟩
theorem Zi9 {n:Nat} {sel:List Nat} {wi:TI} {t:TG} {tc:TT} {te:TE} {P:OD->Evt->Prop} (hsel:sel.Nodup)
  (h:JI K wi Δ fun ds Δ1=>ds.length < sizeLine/\∃ I:Nat->List D->Evt->Prop,I 0 [] (compD n sel Δ1) ∧
   (∀ i d ys Δ2,ds[i]? = some d->I i ys Δ2->JGn K n t d Δ2 fun Δ3=>JT K tc Δ3 fun b Δ4=>if b=true then JE K te Δ4 fun e Δ5=>I (i + 1) (ys ++ [e]) Δ5 else I (i + 1) ys Δ4) ∧
   ∀ ys Δ2,I ds.length ys Δ2->P (.lst ys) (backD n sel Δ2 0 Δ1)):JO K (tComp n sel wi t tc te) Δ P:=fun g G H σ Q k c=>
 h g G H σ _ k fun J ds G1 H1 Δ1 k1 s1 it ⟨hz,I,h0,ht,he⟩ acc hacc=>by
  have nacc:∀ (i:Nat) x od,Δ1[i]? = some x->x.od=some od -> σ[i]? ≠ some (some (.ref acc)):=fun i x od e1 e2 e3=>by
   obtain ⟨a,o,w1,w2,_⟩:=k1.own i x od e1 e2
   rw [e3] at w1; cases w1
   rw [hacc] at w2; cases w2
  -- the word at each turn
  let Wd:Nat->St->Hp->Prop:=fun i σ' H'=>i<=ds.length/\(∀ j,n<=j -> σ'[j]? = (compSt n sel σ)[j]?)/\∃ G ys vs Δi,ys.length<=i/\Reps K G vs ys/\Ok K ⟨g.B,G1,g.Hz,aside g sel σ Δ1 H1 acc vs⟩ G H' σ' Δi/\I i ys Δi
  refine ⟨fun i m σ' H'=>m=ds.length - i/\Wd i σ' H',⟨ds.length,by simp,Nat.zero_le _,fun _ _=>rfl,G1,[],[],compD n sel Δ1,Nat.le_refl _,.nil,?_,h0⟩,?_⟩
  ·refine Zep hsel k1 hacc fun b o e=>?_
   have e:aside g sel σ Δ1 H1 acc [] b=some o:=e
   unfold aside at e
   by_cases hb:b=acc
   ·rw [if_pos hb] at e; cases e; exact .inl ⟨hb,rfl⟩
   ·rw [if_neg hb] at e
    split at e
    case isTrue hx=>exact .inr ⟨hb,.inl ⟨hx,e⟩⟩
    case isFalse hx=>exact .inr ⟨hb,.inr e⟩
  ·rintro i m σ2 H2 ⟨rfl,hi,hσ,G2,ys,vs,Δ2,hy,ry,k2,h2⟩
   have s2:Same G1 G2:=k2.sub
   obtain ⟨stop,go⟩:=it G2 H2 s2 k2.live
   have hacc2:∀ {G' H':Hp} {σ':St} {Δ':Evt} {vs:List V} {F:Hp},Ok K ⟨g.B,F,g.Hz,aside g sel σ Δ1 H1 acc vs⟩ G' H' σ' Δ' -> H' acc=some (.lst vs)/\G' acc=none/\∀ (i:Nat) x od,Δ'[i]? = some x->x.od=some od -> σ'[i]? ≠ some (some (.ref acc)):=fun {G' H' σ' Δ' vs F} kk=>
    kk.ext acc (.lst vs) (by show aside g sel σ Δ1 H1 acc vs acc=_; unfold aside; rw [if_pos rfl])
   by_cases hlt:i < ds.length
   ·obtain ⟨g1,g2⟩:=go i _ (List.getElem?_eq_getElem hlt)
    refine .inr ⟨g1,fun σ' H'=>Wd (i + 1) σ' H',fun σ' H' p'=>⟨ds.length - (i + 1),by omega,rfl,p'⟩,fun x H3 y=>?_⟩
    obtain ⟨G3,a1,a2,a3,a4⟩:=g2 x H3 y
    have k3:=k2.grow a1 a2 a3
    have hG3:∀ b o,G3 b=some o->(g.Hz b=none\/G1 b=some o):=fun b o q=>(k3.frz b o q).2
    have k3':Ok K ⟨g.B,G3,g.Hz,aside g sel σ Δ1 H1 acc vs⟩ G3 H3 σ2 Δ2:=⟨k3.same,k3.lent,Same.refl _,fun b o q=>⟨(k3.frz b o q).1,.inr q⟩,k3.ext,k3.len,k3.val,k3.own,k3.dis⟩
    have ry3:Reps K G3 vs ys:=ry.mono a1
    have s13:Same G1 G3:=s2.trans a1
    refine ht i _ ys Δ2 (List.getElem?_eq_getElem hlt) h2 ⟨g.B,G3,g.Hz,aside g sel σ Δ1 H1 acc vs⟩ G3 H3 σ2 x _ k3' a4 fun σ4 G4 H4 Δ4 k4 s4 e4 p4=>?_
    have hσ4:∀ j,n<=j -> σ4[j]? = (compSt n sel σ)[j]?:=fun j hj=>(e4 j hj).trans (hσ j hj)
    refine p4 _ G4 H4 σ4 _ k4 fun b G5 H5 Δ5 k5 s5 p5=>?_
    cases b with
    | false=>exact ⟨hlt,hσ4,G5,ys,vs,Δ5,by omega,ry3.mono (s4.trans s5),k5.base s13 hG3,p5⟩
    | true=>
     refine (show JE K te Δ5 _ from p5) _ G5 H5 σ4 _ k5 fun v d G6 H6 Δ6 k6 s6 r6 p6=>?_
     have ry6:Reps K G6 vs ys:=ry3.mono (s4.trans (s5.trans s6))
     obtain ⟨b1,b2,b3⟩:=hacc2 k6
     refine ⟨vs,b1,by rw [ry6.length]; omega,hlt,hσ4,G6,ys ++ [d],vs ++ [v],Δ6,by rw [List.length_append,List.length_singleton]; omega,ry6.append (.cons r6 .nil),?_,p6⟩
     have k7:=k6.base s13 hG3
     have oldH:∀ b o,b ≠ acc->H6 b=some o->(upd H6 acc (.lst (vs ++ [v]))) b=some o:=fun b o hb e=>by rw [Zai hb]; exact e
     have aNe:∀ b o,b ≠ acc->aside g sel σ Δ1 H1 acc (vs ++ [v]) b=some o->aside g sel σ Δ1 H1 acc vs b=some o:=fun b o hb e=>by
      unfold aside at e ⊢
      rw [if_neg hb] at e ⊢; exact e
     refine ⟨fun b o hb e=>?_,fun b hb=>?_,k7.sub,fun b o e=>?_,fun b o e=>?_,k7.len,k7.val,fun i x od e1 e2=>?_,k7.dis⟩
     ·have hne:b ≠ acc:=by
       intro z; subst z
       have e:g.Hz b=some o:=e
       rw [k1.there hacc] at e; cases e
      exact oldH b o hne (k7.same b o hb e)
     ·by_cases hne:b=acc
      ·subst hne; rw [Zal]; intro z; cases z
      ·rw [Zai hne]; exact k7.lent b hb
     ·have hne:b ≠ acc:=by intro z; subst z; rw [b2] at e; cases e
      exact ⟨oldH b o hne (k7.frz b o e).1,(k7.frz b o e).2⟩
     ·by_cases hne:b=acc
      ·subst hne
       have e:aside g sel σ Δ1 H1 b (vs ++ [v]) b=some o:=e
       unfold aside at e
       rw [if_pos rfl] at e
       cases e
       exact ⟨Zal,b2,b3⟩
      ·obtain ⟨w1,w2,w3⟩:=k7.ext b o (aNe b o hne e)
       exact ⟨oldH b o hne w1,w2,w3⟩
     ·obtain ⟨a,o,w1,w2,w3,w4,w5⟩:=k7.own i x od e1 e2
      have hne:a ≠ acc:=by intro z; subst z; exact b3 i x od e1 e2 w1
      exact ⟨a,o,w1,oldH a o hne w2,w3,w4,w5⟩
   ·have e:i=ds.length:=by omega
    subst e
    refine .inl ⟨stop,?_⟩
    obtain ⟨b1,b2,b3⟩:=hacc2 k2
    have src:=Zfd (Δ1:=Δ1) (Δ2:=Δ2) hσ
    have k9:Ok K g G2 H2 σ (backD n sel Δ2 0 Δ1):=Zea k1 hacc k2 hσ (fun b o hb hx e=>by show aside g sel σ Δ1 H1 acc vs b=_; unfold aside; rw [if_neg hb,if_pos hx]; exact e) (fun b o hb hx e=>by show aside g sel σ Δ1 H1 acc vs b=_; unfold aside; rw [if_neg hb,if_neg hx]; exact e)
    refine c acc _ G2 H2 _ k9 (s1.trans s2) ⟨.lst vs,b1,(show OwnRep K G2 (.lst vs) (.lst ys) from ry),b2,k1.there hacc,?_,fun i y od e1 e2 e3=>?_⟩ (he ys Δ2 h2)
    ·cases q:g.Xo acc with
     | none=>rfl
     | some u=>have z:=(k1.ext acc u q).1; rw [hacc] at z; cases z
    ·obtain ⟨x',od1,f1,f2,_⟩:=src i y od e1 e2
     exact nacc i x' od1 f1 f2 e3
theorem Zjf {n:Nat} {sel:List Nat} {wi:TI} {t:TG} {tc:TT} {te:TE} {P:D->Evt->Prop} (hsel:sel.Nodup)
  (h:JI K wi Δ fun ds Δ1=>ds.length < sizeLine/\∃ I:Nat->List D->Evt->Prop,I 0 [] (compD n sel Δ1) ∧
   (∀ i d ys Δ2,ds[i]? = some d->I i ys Δ2->JGn K n t d Δ2 fun Δ3=>JT K tc Δ3 fun b Δ4=>if b=true then JE K te Δ4 fun e Δ5=>I (i + 1) (ys ++ [e]) Δ5 else I (i + 1) ys Δ4) ∧
   ∀ ys Δ2,I ds.length ys Δ2->P (.lst ys) (backD n sel Δ2 0 Δ1)):JE K (tComp n sel wi t tc te) Δ P:=
 Zcd (Zi9 hsel fun g G H σ R k c=>h g G H σ R k fun J ds G' H' Δ' k' s' it ⟨z,I,h0,ht,he⟩=>c J ds G' H' Δ' k' s' it ⟨z,I,h0,ht,fun ys Δ2 q=>⟨ys,rfl,he ys Δ2 q⟩⟩)
theorem Zhb {n:Nat} {sel:List Nat} {wi:TI} {t:TG} {tc:TT} {te:TE} {P:D->Evt->Prop} (hsel:sel.Nodup)
  (h:JI K wi Δ fun ds Δ1=>ds.length < sizeLine/\∃ (fix:Evt) (p:D->Bool) (f:D->D),compD n sel Δ1=List.replicate n .any ++ fix ∧
   (∀ (i:Nat) d (ts:Evt),ds[i]? = some d->ts.length=n->JGn K n t d (ts ++ fix) fun Δ3=>JT K tc Δ3 fun b Δ4=>b=p d/\if b=true then JE K te Δ4 fun e Δ5=>e=f d/\∃ ts',ts'.length=n /\ Δ5=ts' ++ fix else ∃ ts',ts'.length=n /\ Δ4=ts' ++ fix) ∧
   P (.lst ((ds.filter p).map f)) (backD n sel (List.replicate n .any ++ fix) 0 Δ1)):JE K (tComp n sel wi t tc te) Δ P:=by
 refine Zjf hsel fun g G H σ R k c=>h g G H σ R k fun J ds G' H' Δ' k' s' it ⟨z,fix,p,f,e0,ht,he⟩=>c J ds G' H' Δ' k' s' it ⟨z,fun i ys Δ=>ys=((ds.take i).filter p).map f/\∃ ts:Evt,ts.length=n /\ Δ = ts ++ fix,?_,?_,?_⟩
 ·exact ⟨by simp,_,by simp,e0⟩
 ·rintro i d ys Δ2 hd ⟨rfl,ts,hts,rfl⟩
  have tk:ds.take (i + 1)=ds.take i ++ [d]:=by
   rw [List.take_add_one,hd]; rfl
  intro g G H σ v R k r c
  refine ht i d ts hd hts g G H σ v R k r fun σ' G' H' Δ' k' s' e' q=>c σ' G' H' Δ' k' s' e' fun g G H σ Q k c=>q g G H σ Q k fun b G' H' Δ' k' s' ⟨eb,q⟩=>c b G' H' Δ' k' s' ?_
  cases b with
  | true=>
   rw [if_pos rfl] at q ⊢
   refine q.mono fun e Δ5 ⟨e1,ts',h1,h2⟩=>⟨?_,ts',h1,h2⟩
   rw [tk,List.filter_append,List.map_append,List.filter_cons,<- eb,e1]
   rfl
  | false=>
   rw [if_neg Bool.false_ne_true] at q ⊢
   obtain ⟨ts',h1,h2⟩:=q
   refine ⟨?_,ts',h1,h2⟩
   rw [tk,List.filter_append,List.map_append,List.filter_cons,<- eb]
   simp
 ·rintro ys Δ2 ⟨rfl,ts,hts,rfl⟩
  rw [List.take_length]
  have e:backD n sel (ts ++ fix) 0 Δ' = backD n sel (List.replicate n .any ++ fix) 0 Δ':=by
   apply List.ext_getElem?
   intro i
   rw [Zcc,Zcc]
   congr 1
   funext x
   unfold backAt
   have e2:∀ j,(ts ++ fix)[n + j]? = (List.replicate n Slot.any ++ fix)[n + j]?:=fun j=>by
    rw [List.getElem?_append_right (by omega),List.getElem?_append_right (by simp),hts,List.length_replicate]
   simp only [e2]
  rw [e]
  exact he
end
end L2
set_option Elab.async false
set_option linter.all false
set_option maxRecDepth 100000
namespace HT
open PySem PyProof.Rows
section
variable {prog:Program} {w:World} {A:Around} {E:Value->Shared->Prop} {s:Shared}
theorem getItem_tuple_whole {t sl:Addr} {items:Array Value} {vl vu:Value} {lo hi:Option Int} {Q:Value->Shared->Prop} (ht:IsTup s.heap t items) (hs:s.heap.IsSliceOf sl vl vu .none) (pl:IsPart vl lo) (pu:IsPart vu hi)
  (hw:sIx items.size 0 lo=0/\sIx items.size items.size hi=items.size) (h:Q (.ref t) s):wpAny (model prog w) A (getItem (.ref t) (.ref sl)) Q E s:=by
 obtain ⟨os,hos,hcs,hds⟩:=id hs
 have hTs:s.TypeIs (.ref sl) "slice":=⟨os,hos,hcs⟩
 unfold getItem
 try with_reducible refine wpAny_holding ?_
 first | refine wpAny_bind (wpAny_pure ?_) | skip
 refine wpAny_bind (wpAny_sequenceKey ht.typeIs (by decide) ?_)
 refine wpAny_bind (wpAny_callSpecial?_slot (name:=Str.ofString "__getitem__") ht.typeIs PyProof.Rows.slot_tuple_getitem
  (wpAny_call_entry PyProof.Rows.slot_tuple_getitem ht.typeIs entry_tuple_getitem ?_ (args_tuple_getitem _ _)))
 show wpAny _ _ (Builtin.Tuple.tupleItemsOf (.ref t) >>= _) _ _ s
 refine wpAny_bind (tupleItemsOf_ ht ?_)
 refine wpAny_bind (wpAny_typeOf hTs ?_)
 rw [if_pos (by decide)]
 refine wpAny_bind (Zcg hs pl pu ?_)
 have hyes:(((sIx items.size 0 lo:Nat):Int) == 0 && (1:Int) == 1 && (sIx items.size items.size hi - sIx items.size 0 lo) == items.size)=true:=by
  rw [hw.1,hw.2]; simp
 show wpAny _ _ (if (((sIx items.size 0 lo:Nat):Int) == 0 && (1:Int) == 1 && (sIx items.size items.size hi - sIx items.size 0 lo) == items.size)=true then _ else _) _ _ s
 rw [if_pos hyes]
 first
  | exact wpAny_pure ⟨_,rfl,wpAny_pure h⟩
  | exact wpAny_pure ⟨_,rfl,h⟩
  | exact wpAny_bind (wpAny_pure (wpAny_pure ⟨_,rfl,wpAny_pure h⟩))
  | (refine wpAny_bind (wpAny_bind (wpAny_typeOf ht.typeIs (wpAny_pure ?_)))
     rw [if_pos (by decide)]
     exact wpAny_bind (wpAny_rule (wpAny_pure ⟨_,rfl,wpAny_pure h⟩)))
end
end HT
namespace L2
open PySem PySem.Spec PyProof.Rows
section
variable {X:Cx}
def rSlT' (K:PySem.W.Frag):V->Option Int->Option Int->Hp->VK->Prop:=fun x lo hi H Q=>∃ a xs,x=.ref a/\SqT K H a xs ∧
 ((HT.sIx xs.length 0 lo=0/\HT.sIx xs.length xs.length hi=xs.length)->Q (.ref a) H) ∧
 (¬ (HT.sIx xs.length 0 lo=0/\HT.sIx xs.length xs.length hi=xs.length)->∀ p,H p=none->Q (.ref p) (upd H p (.tup (cutV xs lo hi))))
theorem Zmx:SlR X (rSlT' X.K):=by
 intro pins s σ H x v vl vu lo hi sl Q I rx hs pl pu h
 obtain ⟨a,xs,rfl,hx,q1,q2⟩:=h
 by_cases hw:HT.sIx xs.length 0 lo=0/\HT.sIx xs.length xs.length hi=xs.length
 ·cases rx
  obtain ⟨its,r,ht,hz⟩:=I.tuple hx
  have hlen:its.toArray.size=xs.length:=by rw [List.size_toArray]; exact r.length.symm
  exact ⟨"tuple",_,PyProof.Rows.slot_tuple_getitem.lookup,ht.typeIs,HT.getItem_tuple_whole ht hs pl pu (by rw [hlen]; exact hw) ⟨.ref a,H,I,rfl,q1 hw⟩⟩
 ·exact Zpq pins s σ H (.ref a) v vl vu lo hi sl Q I rx hs pl pu ⟨a,xs,rfl,hx,hw,q2 hw⟩
def rSlU (K:PySem.W.Frag):V->Option Int->Option Int->Hp->VK->Prop:=fun x lo hi H Q=>rSlL K x lo hi H Q\/rSlT' K x lo hi H Q
theorem slU:SlR X (rSlU X.K):=Znx.or Zmx
def tSlR (K:PySem.W.Frag) (te:TE):TE:=fun σ H Q=>te σ H fun x H1=>∃ a xs,x=.ref a/\SqT K H1 a xs/\∀ p,H1 p=none->Q (.ref p) (upd H1 p (.tup xs.reverse))
def rCatT' (K:PySem.W.Frag):R2:=fun x y H Q=>∃ a b xs ys,x=.ref a/\y=.ref b/\SqT K H a xs/\SqT K H b ys/\xs.length + ys.length<=sizeLine ∧
 (xs=[]->Q (.ref b) H)/\(xs ≠ []->ys=[]->Q (.ref a) H)/\(xs ≠ []->ys ≠ []->∀ p,H p=none->Q (.ref p) (upd H p (.tup (xs ++ ys))))
theorem Zll:OpR X (binaryOp .Add) (rCatT' X.K):=by
 intro pins s σ H x y v u Q I rx ry h
 obtain ⟨a,b,xs,ys,rfl,rfl,ha,hb,hz,q0,q1,q2⟩:=h
 by_cases hx:xs=[]
 ·cases rx
  cases ry
  obtain ⟨its,r1,p1,_⟩:=I.tuple ha
  obtain ⟨its2,r2,p2,_⟩:=I.tuple hb
  obtain ⟨⟨cls,dd,data,sl⟩,ho,hc,n,hd⟩:=id p1
  obtain ⟨⟨cls2,dd2,data2,sl2⟩,ho2,hc2,n2,hd2⟩:=id p2
  simp only at hc hd hc2 hd2
  subst hc hd hc2 hd2
  exact concat_meets ⟨_,ho,rfl⟩ ⟨_,ho2,rfl⟩ noFill_tuple_add seq_tuple_add PySem.F.slot_tuple_add PySem.F.entry_tuple_add (PySem.F.args_tuple_add_2 _ _)
   (tuple_addW0 a b its.toArray its2.toArray n n2 dd dd2 sl sl2 (by simp [r1.nil_iff.mpr hx])) ⟨ho,ho2,⟨.ref b,H,I,rfl,q0 hx⟩⟩
 ·exact Zno pins s σ H (.ref a) (.ref b) v u Q I rx ry ⟨a,b,xs,ys,rfl,rfl,ha,hb,hx,hz,q1 hx,q2 hx⟩
def rAddU (K:PySem.W.Frag):R2:=fun x y H Q=>rI0 (fun i j=>.int (i + j)) x y H Q\/(rCatT' K x y H Q\/rCat x y H Q)
theorem Zmi:OpR X (binaryOp .Add) (rAddU X.K):=Zoh.or (Zll.or Zod)
theorem Zcb:OpR X (compareOp .Eq) rEq:=Zps
theorem Zfm:OpR X (compareOp .NotEq) rNe:=Zpr
def rIxD:R2:=fun x y H Q=>∃ a v,x=.ref a/\DGet H a y (some v)/\Q v H
theorem Znh (hu:X.A.units + 1 < cLine):IxR X rIxD:=by
 intro value slice pins s σ H x y v u Q I rx ry h hs
 obtain ⟨a,w',rfl,g,q⟩:=h
 cases rx
 exact tail_any (Zg8 I g) PySem.F.slot_dict_getitem.lookup (Zjv hu I g ry fun w2 s3 I3 rw'=>⟨w',H,I3,rw',q⟩) hs
def rIxU (K:PySem.W.Frag):R2:=fun x y H Q=>rIx K x y H Q\/rIxD x y H Q
theorem ixU (hu:X.A.units + 1 < cLine):IxR X (rIxU X.K):=Zpp.or (Znh hu)
def rSetD:V->V->V->Hp->(Hp->Prop)->Prop:=fun o i v H Q=>∃ a H',o=.ref a/\DPut H a i v H' /\ Q H'
theorem Zlf (hu:X.A.units + 1 < cLine):PSet X rSetD:=by
 intro pins s σ H o i v ov iv u Q I ro ri rv h
 obtain ⟨a,H',rfl,g,q⟩:=h
 cases ro
 exact Zji hu I g ri rv fun s' I'=>⟨H',I',q⟩
theorem PSet.or {t t':TSet} (h:PSet X t) (h':PSet X t'):PSet X (fun o i v H Q=>t o i v H Q\/t' o i v H Q):=by
 intro pins s σ H o i v ov iv u Q I ro ri rv q
 rcases q with q | q
 ·exact h pins s σ H o i v ov iv u Q I ro ri rv q
 ·exact h' pins s σ H o i v ov iv u Q I ro ri rv q
def rSetU:V->V->V->Hp->(Hp->Prop)->Prop:=fun o i v H Q=>rSetL o i v H Q\/rSetD o i v H Q
theorem setU (hu:X.A.units + 1 < cLine):PSet X rSetU:=Zku.or (Zlf hu)
def rLenU (K:PySem.W.Frag):List V->Hp->VK->Prop:=fun xs H Q=>(∃ p ys,xs=[.ref p]/\(SqL K H p ys\/SqT K H p ys)/\Q (.int ys.length) H)\/∃ a kvs,xs=[V.ref a]/\H a=some (.dK kvs)/\Q (.int kvs.length) H
theorem Zjd:CallR X (.builtin "len") (rLenU X.K):=Zf1.or Zjw
def rIsi (K:PySem.W.Frag):List V->Hp->VK->Prop:=fun xs H Q=>∃ x n t b,xs=[x,.ty n]/\TyOf K H x t/\PySem.W.kitOne K t (.type n)=some b/\Q (.bl b) H
theorem Zg4:CallR X (.builtin "isinstance") (rIsi X.K):=by
 intro pins s σ H xs us Q I r h
 obtain ⟨x,n,t,b,rfl,ty,e,q⟩:=h
 obtain ⟨u,u',rfl,rx,rn⟩:=vals2 r
 cases (show u' = Value.type n from rn)
 exact Zi7 I rx ty e fun tk=>⟨.bl b,H,I.tok _,rfl,q⟩
def insI (n:Nat) (i:Int):Nat:=if i < 0 then (i + (n:Int)).toNat else min i.toNat n
def rInsert:V->List V->Hp->VK->Prop:=fun x vs H Q=>∃ l xs i y,x=.ref l/\vs=[.int i,y]/\H l=some (.lst xs)/\xs.length < sizeLine /\ -(2 ^ 62)<=i/\i < 2 ^ 62/\Q .non (upd H l (.lst (xs.take (insI xs.length i) ++ y :: xs.drop (insI xs.length i))))
theorem Zju:MtM X "list.insert" rInsert:=by
 intro pins s σ H x vs v us Q I rx rv h
 obtain ⟨l,xs,i,y,rfl,rfl,hH,hz,h1,h2,q⟩:=h
 cases rx
 obtain ⟨ui,uy,rfl,⟨t,rfl⟩,ry⟩:=rv.two
 obtain ⟨z,its,n,r,hl,e⟩:=I.lstM hH
 refine call_meets F.slot_list_insert ⟨_,e,rfl⟩ F.entry_list_insert (F.args_list_insert_3 _ _ _) (PySem.AutoSeq1.list_insert_list_int_val_1 l its.toArray n i t uy (by
  have hf:Builtin.List.listFitsIndex i=true:=by
   unfold Builtin.List.listFitsIndex
   rw [decide_eq_true (by omega),decide_eq_true (by omega)]
   rfl
  rw [hf]; decide) (by rw [List.size_toArray]; omega)) ⟨e,?_⟩
 refine ⟨.non,_,I.lset (its':=its.take (insI xs.length i) ++ uy :: its.drop (insI xs.length i)) hH e ?_ ((r.take _).append (.cons ry (r.drop _))) ?_,rfl,q⟩
 ·have e1:(if i < 0 then (i + (its.toArray.size:Int)).toNat else min i.toNat its.toArray.size)=insI xs.length i:=by
   unfold insI; rw [List.size_toArray,hl]
  dsimp only
  rw [e1]
  apply Array.ext'
  simp
  rw [List.take_of_length_le (by rw [List.length_drop]; exact Nat.le_refl _)]
 ·rw [List.length_append,List.length_cons,List.length_take,List.length_drop]
  omega
def rIndexT (K:PySem.W.Frag):V->List V->Hp->VK->Prop:=fun x vs H Q=>∃ a xs y j,x=.ref a/\vs=[y]/\SqT K H a xs/\flatV y=true/\xs.all flatV=true/\j < xs.length ∧
 (∃ z,xs[j]? = some z/\eqV z y=true)/\(∀ m z,m < j->xs[m]? = some z->eqV z y=false)/\Q (.int j) H
end
end L2
namespace L2
open PySem PySem.Spec PyProof.Rows
section
variable {X:Cx}
theorem PI.or {tg iter:Expr} {w w':TI} (h:PI X tg iter w) (h':PI X tg iter w'):PI X tg iter (fun σ H R=>w σ H R\/w' σ H R):=by
 intro pins s σ H R I q
 rcases q with q | q
 ·exact h pins s σ H R I q
 ·exact h' pins s σ H R I q
def iSeq (K:PySem.W.Frag) (tl:TE):TI:=fun σ H R=>iList K tl σ H R\/iTup K tl σ H R
theorem Zpm {tg l:Expr} {tl:TE} (hl:PE X l tl):PI X tg l (iSeq X.K tl):=(Zmz hl).or (Zo0 hl)
def tTru (K:PySem.W.Frag) (ta:TE):TT:=fun σ H Q=>ta σ H fun x H'=>∃ k,TruV K x H' k/\Q k H'
theorem Zoi {a:Expr} {ta:TE} (ha:PE X a ta) (he:∀ whole,isTrue a X.env whole=(do let v ← whole; standAt a.pos; holding [v] (truthy v))):PT X a (tTru X.K ta):=Zkp ha he
end
section
variable {K:PySem.W.Frag} {Δ:Evt} {P:D->Evt->Prop}
theorem Ze6 {i j:Int} (p:P (.int (i + j)) Δ):JR2 K (rAddU K) (.int i) (.int j) Δ P:=fun g G H σ Q x y k rx ry c=>by
 cases rx.inv; cases ry.inv
 exact .inl ⟨i,j,rfl,rfl,c _ _ G H Δ k (Same.refl _) (.int _) p⟩
theorem Zec {ds es:List D} (hz:ds.length + es.length<=sizeLine) (p:P (.tup (ds ++ es)) Δ):JR2 K (rAddU K) (.tup ds) (.tup es) Δ P:=fun g G H σ Q x y k rx ry c=>by
 cases rx with
 | tup ha ra=>
  cases ry with
  | tup hb rb=>
   refine .inr (.inl ⟨_,_,_,_,rfl,rfl,SqT.of (k.live _ _ ha),SqT.of (k.live _ _ hb),by rw [ra.length,rb.length]; exact hz,fun e=>?_,fun _ e=>?_,fun _ _ q hq=>?_⟩)
   ·subst e; cases ra; exact c _ _ G H Δ k (Same.refl _) (.tup hb rb) p
   ·subst e; cases rb; rw [List.append_nil] at p; exact c _ _ G H Δ k (Same.refl _) (.tup ha ra) p
   ·obtain ⟨k2,sg⟩:=k.laid hq (.tup _)
    exact c _ _ _ _ Δ k2 sg (.tup Zal ((ra.append rb).mono sg)) p
theorem Za5 {ds:List D} {i:Int} {d:D} (h:atI ds i=some d) (p:P d Δ):JR2 K (rIxU K) (.tup ds) (.int i) Δ P:=fun g G H σ Q x y k rx ry c=>
 .inl (.inr (.inl (Zn4 h p g G H σ Q x y k rx ry c)))
theorem Zb6 {ds:List D} {i:Int} {d:D} (h:atI ds i=some d) (p:P d Δ):JR2 K (rIxU K) (.lst ds) (.int i) Δ P:=fun g G H σ Q x y k rx ry c=>
 .inl (.inl (Zn6 h p g G H σ Q x y k rx ry c))
theorem Znr {n:Nat} {tb:TE} {x:Slot} {ds:List D} (hx:Δ[n]? = some x) (ho:x.od=some (.lst ds)) (h:JE K tb Δ fun e Δ1=>∃ y es i d,Δ1[n]? = some y/\y.od=some (.lst es)/\e=.int i/\atI es i=some d/\P d Δ1):JE K (tOp (rIxU K) (tVar n) tb) Δ P:=fun g G H σ Q k c=>by
 obtain ⟨a,o,h1,h2,h3,h4,h5⟩:=k.own n x _ hx ho
 refine ⟨.ref a,h1,h g G H σ _ k fun v e G1 H1 Δ1 k1 s1 r1 ⟨y,es,i,d,q1,q2,q3,q4,p⟩=>?_⟩
 subst q3
 cases r1.inv
 obtain ⟨a',o',w1,w2,w3,w4,w5⟩:=k1.own n y _ q1 q2
 rw [h1] at w1; cases w1
 cases o' with
 | lst vs=>
  obtain ⟨u,z1,z2⟩:=Zes (show Reps K G1 vs es from w3) q4
  exact .inl (.inl ⟨a,vs,i,u,rfl,rfl,SqL.of w2,z1,c u d G1 H1 Δ1 k1 s1 z2 p⟩)
 | _=>exact absurd w3 (fun z=>z)
theorem Zia {n:Nat} {ti te:TE} {Pp:Pst} (h:JE K te Δ fun d Δ1=>(∃ x od,Δ1[n]? = some x/\x.od=some od)/\JE K ti Δ1 fun e Δ2=>∃ x ds i j,Δ2[n]? = some x/\x.od=some (.lst ds)/\e=.int i/\ixN ds.length i=some j/\Pp.nx (Δ2.set n (x.put (.lst (ds.set j d))))) :
  JS K (tAsg te (gSub (tVar n) ti rSetU)) Δ Pp:=fun g G H σ E k c=>
 h g G H σ _ k fun v d G1 H1 Δ1 k1 s1 r1 hq_=>by
  obtain ⟨⟨x,od,hx,ho⟩,p1⟩:=hq_
  obtain ⟨a,o,h1,h2,h3,h4,h5⟩:=k1.own n x _ hx ho
  refine ⟨.ref a,h1,p1 g G1 H1 σ _ k1 fun u e G2 H2 Δ2 k2 s2 r2 ⟨y,ds,i,j,q1,q2,q3,q4,p⟩=>?_⟩
  subst q3
  cases r2.inv
  obtain ⟨a',o',w1,w2,w3,w4,w5⟩:=k2.own n y _ q1 q2
  rw [h1] at w1; cases w1
  cases o' with
  | lst vs=>
   have w3:Reps K G2 vs ds:=w3
   exact .inl ⟨a,vs,i,j,rfl,rfl,w2,by rw [w3.length]; exact q4,c.nx σ G2 _ _ (k2.write q1 q2 h1 (show OwnRep K G2 (.lst (vs.set j v)) (.lst (ds.set j d)) from w3.set j (r1.mono s2))) p⟩
  | _=>exact absurd w3 (fun z=>z)
theorem Zbj {ds es:List D} (he:ds=[.lst es]\/ds=[.tup es]) (p:P (.int es.length) Δ):JC K (rLenU K) ds Δ P:=fun g G H σ Q vs k rs c=>.inl (Zpo he p g G H σ Q vs k rs c)
theorem Zkk {n:Nat} {x:Slot} {ds:List D} (hx:Δ[n]? = some x) (ho:x.od=some (.lst ds)) (p:P (.int ds.length) Δ):JE K (tCB (rLenU K) (tCons (tVar n) tNil)) Δ P:=fun g G H σ Q k c=>by
 obtain ⟨v,h1,h2⟩:=Zny hx ho p g G H σ Q k c
 exact ⟨v,h1,.inl h2⟩
def cutD (ds:List D) (lo hi:Option Int):List D:=(ds.drop (HT.sIx ds.length 0 lo)).take (HT.sIx ds.length ds.length hi - HT.sIx ds.length 0 lo)
theorem Zio {α:Type} (xs:List α) (lo hi:Option Int) (h:HT.sIx xs.length 0 lo=0/\HT.sIx xs.length xs.length hi=xs.length):(xs.drop (HT.sIx xs.length 0 lo)).take (HT.sIx xs.length xs.length hi - HT.sIx xs.length 0 lo)=xs:=by
 rw [h.1,h.2]; simp
def JO2 (t:TO) (Δ:Evt) (K:PySem.W.Frag) (P:Option Int->Evt->Prop):Prop:=
 ∀ g G H σ (Q:Option Int->Hp->Prop),Ok K g G H σ Δ -> (∀ o G' H' Δ',Ok K g G' H' σ Δ' -> Same G G' -> P o Δ' -> Q o H')->t σ H Q
theorem Zgp {P:Option Int->Evt->Prop} (p:P none Δ):JO2 tNoPart Δ K P:=fun g G H σ Q k c=>c none G H Δ k (Same.refl _) p
theorem Zgv {te:TE} {P:Option Int->Evt->Prop} (h:JE K te Δ fun d Δ1=>∃ i,d=.int i/\P (some i) Δ1):JO2 (tPart te) Δ K P:=fun g G H σ Q k c=>
 h g G H σ _ k fun v d G1 H1 Δ1 k1 s1 r1 hq_=>by obtain ⟨i,e,p⟩:=hq_; subst e; cases r1.inv; exact ⟨i,rfl,c (some i) G1 H1 Δ1 k1 s1 p⟩
def slD (d:D) (lo hi:Option Int):Option D:=match d with
 | .lst ds=>some (.lst (cutD ds lo hi))
 | .scr ds=>some (.lst (cutD ds lo hi))
 | .tup ds=>some (.tup (cutD ds lo hi))
 | _=>none
theorem Zng {te:TE} {tl th:TO} (h:JE K te Δ fun d Δ1=>JO2 tl Δ1 K fun lo Δ2=>JO2 th Δ2 K fun hi Δ3=>∃ e,slD d lo hi=some e/\P e Δ3):JE K (tSl (rSlU K) te tl th) Δ P:=fun g G H σ Q k c=>
 h g G H σ _ k fun v d G1 H1 Δ1 k1 s1 r1 p1=>p1 g G1 H1 σ _ k1 fun lo G2 H2 Δ2 k2 s2 p2=>p2 g G2 H2 σ _ k2 fun hi G3 H3 Δ3 k3 s3 hq_=>by
  obtain ⟨e,he,p⟩:=hq_
  have r3:=r1.mono (s2.trans s3)
  have cc:=c.up (s1.trans (s2.trans s3))
  cases r3 with
  | lst ha rs=>
   cases he
   refine .inl ⟨_,_,rfl,SqL.of (k3.live _ _ ha),fun q hq=>?_⟩
   obtain ⟨k4,sg⟩:=k3.laid hq (.lst _)
   refine cc _ _ _ _ Δ3 k4 sg (.lst Zal (Reps.mono sg ?_)) p
   unfold cutV cutD
   rw [rs.length]; exact (rs.drop _).take _
  | scr ha rs=>
   cases he
   refine .inl ⟨_,_,rfl,k3.live.seq ha,fun q hq=>?_⟩
   obtain ⟨k4,sg⟩:=k3.laid hq (.lst _)
   refine cc _ _ _ _ Δ3 k4 sg (.lst Zal (Reps.mono sg ?_)) p
   unfold cutV cutD
   rw [rs.length]; exact (rs.drop _).take _
  | tup ha rs=>
   cases he
   refine .inr ⟨_,_,rfl,SqT.of (k3.live _ _ ha),fun hw=>?_,fun hw q hq=>?_⟩
   ·rw [rs.length] at hw
    refine cc _ _ _ _ Δ3 k3 (Same.refl _) (.tup ha ?_) p
    unfold cutD
    rw [Zio _ _ _ hw]; exact rs
   ·obtain ⟨k4,sg⟩:=k3.laid hq (.tup _)
    refine cc _ _ _ _ Δ3 k4 sg (.tup Zal (Reps.mono sg ?_)) p
    unfold cutV cutD
    rw [rs.length]; exact (rs.drop _).take _
  | _=>cases he
theorem Zoe {te:TE} (h:JE K te Δ fun d Δ1=>∃ ds,d=.tup ds/\P (.tup ds.reverse) Δ1):JE K (tSlR K te) Δ P:=fun g G H σ Q k c=>
 h g G H σ _ k fun v d G1 H1 Δ1 k1 s1 r1 hq_=>by
  obtain ⟨ds,e,p⟩:=hq_
  subst e
  obtain ⟨_,_,rfl,ha,rs⟩:=r1.inv
  next=>
   refine ⟨_,_,rfl,SqT.of (k1.live _ _ ha),fun q hq=>?_⟩
   obtain ⟨k4,sg⟩:=k1.laid hq (.tup _)
   exact c _ _ _ _ Δ1 k4 (s1.trans sg) (.tup Zal (rs.reverse.mono sg)) p
theorem Zek {tl:TE} {P:List D->Evt->Prop} (h:JE K tl Δ fun d Δ1=>∃ ds,(d=.lst ds\/d=.scr ds)/\P ds Δ1):JI K (iSeq K tl) Δ P:=fun g G H σ R k c=>.inl (Znb h g G H σ R k c)
theorem Zdc {tl:TE} {P:List D->Evt->Prop} (h:JE K tl Δ fun d Δ1=>∃ ds,d=.tup ds/\P ds Δ1):JI K (iSeq K tl) Δ P:=fun g G H σ R k c=>.inr (Zou h g G H σ R k c)
def truD:D->Option Bool
 | .non=>some false
 | .bl b=>some b
 | .int i=>some (i != 0)
 | .lst ds=>some !ds.isEmpty
 | .tup ds=>some !ds.isEmpty
 | _=>none
theorem Reps.isEmpty {G:Hp} {vs:List V} {ds:List D} (r:Reps K G vs ds):vs.isEmpty=ds.isEmpty:=by cases r <;> rfl
theorem Zb0 {t:TE} {Pb:Bool->Evt->Prop} (h:JE K t Δ fun d Δ1=>∃ b,truD d=some b/\Pb b Δ1):JT K (tTru K t) Δ Pb:=fun g G H σ Q k c=>
 h g G H σ _ k fun v d G1 H1 Δ1 k1 s1 r1 hq_=>by
  obtain ⟨b,e,p1⟩:=hq_
  refine ⟨b,?_,c b G1 H1 Δ1 k1 s1 p1⟩
  cases r1 with
  | non=>cases e; rfl
  | bl b=>cases e; rfl
  | int i=>cases e; rfl
  | str x=>cases e
  | ty n=>cases e
  | scr ha rs=>cases e
  | adr a=>cases e
  | dct ha hl rs=>cases e
  | exc ha=>cases e
  | lst ha rs=>cases e; exact .inl ⟨_,SqL.of (k1.live _ _ ha),by rw [rs.isEmpty]⟩
  | tup ha rs=>cases e; exact .inr (.inl ⟨_,SqT.of (k1.live _ _ ha),by rw [rs.isEmpty]⟩)
def tyD:D->Option String
 | .non=>some "NoneType"
 | .bl _=>some "bool"
 | .int _=>some "int"
 | .str _=>some "str"
 | .lst _=>some "list"
 | .tup _=>some "tuple"
 | .dct _ _=>some "dict"
 | _=>none
theorem Zow {d:D} {n T:String} {b:Bool} (ht:tyD d=some T) (e:∀ K,PySem.W.kitOne K (.type T) (.type n)=some b) (p:P (.bl b) Δ):JC K (rIsi K) [d,.ty n] Δ P:=fun g G H σ Q vs k rs c=>by
 obtain ⟨_,_,rfl,r,t⟩:=rs.inv
 next=>
  obtain ⟨_,_,rfl,r',t⟩:=t.inv
  next=>
   cases t.inv; cases r'.inv
   refine ⟨_,n,.type T,b,rfl,?_,e K,c _ _ G H Δ k (Same.refl _) (.bl b) p⟩
   cases r with
   | non=>cases ht; exact .non
   | bl b=>cases ht; exact .bl b
   | int i=>cases ht; exact .int i
   | str x=>cases ht; exact .str x
   | ty n=>cases ht
   | scr ha rs=>cases ht
   | adr a=>cases ht
   | dct ha hl rs=>cases ht; exact .dK (k.live _ _ ha)
   | exc ha=>cases ht
   | lst ha rs=>cases ht; exact .lst (k.live _ _ ha)
   | tup ha rs=>cases ht; exact .tup (k.live _ _ ha)
theorem Zev {ta tb:TE} (h:JE K ta Δ fun d Δ1=>∃ b,d=.bl b/\if b=true then JE K tb Δ1 P else P (.bl false) Δ1):JE K (tAndV ta tb) Δ P:=fun g G H σ Q k c=>
 h g G H σ _ k fun v d G1 H1 Δ1 k1 s1 r1 hq_=>by
  obtain ⟨b,e,p1⟩:=hq_
  subst e; cases r1.inv
  refine ⟨b,rfl,?_⟩
  cases b with
  | true=>exact (show JE K tb Δ1 P from p1) g G1 H1 σ Q k1 (c.up s1)
  | false=>exact c _ _ G1 H1 Δ1 k1 s1 (.bl false) p1
theorem Zn7 {ta tb:TE} (h:JE K ta Δ fun d Δ1=>∃ b,d=.bl b/\if b=true then P (.bl true) Δ1 else JE K tb Δ1 P):JE K (tOrV ta tb) Δ P:=fun g G H σ Q k c=>
 h g G H σ _ k fun v d G1 H1 Δ1 k1 s1 r1 hq_=>by
  obtain ⟨b,e,p1⟩:=hq_
  subst e; cases r1.inv
  refine ⟨b,rfl,?_⟩
  cases b with
  | false=>exact (show JE K tb Δ1 P from p1) g G1 H1 σ Q k1 (c.up s1)
  | true=>exact c _ _ G1 H1 Δ1 k1 s1 (.bl true) p1
theorem Zgt {ta:TE} (h:JE K ta Δ fun d Δ1=>∃ b,d=.bl b/\P (.bl !b) Δ1):JE K (tNotV ta) Δ P:=fun g G H σ Q k c=>
 h g G H σ _ k fun v d G1 H1 Δ1 k1 s1 r1 hq_=>by
  obtain ⟨b,e,p1⟩:=hq_
  subst e; cases r1.inv
  exact ⟨b,rfl,c _ _ G1 H1 Δ1 k1 s1 (.bl !b) p1⟩
theorem Zls {to te:TE} (h:JE K to Δ fun d Δ1=>∃ ns:List Int,d=.tup (ns.map D.int)/\JE K te Δ1 fun e Δ2=>∃ i j,e=.int i/\ns[j]? = some i/\(∀ m,m < j->ns[m]? ≠ some i)/\P (.int (j:Nat)) Δ2) :
  JE K (tBM K "tuple" (rIndexT K) to (tCons te tNil)) Δ P:=fun g G H σ Q k c=>
 h g G H σ _ k fun v d G1 H1 Δ1 k1 s1 r1 hq_=>by
  obtain ⟨ns,e,p1⟩:=hq_
  subst e
  obtain ⟨a,vs,rfl,ha,rs⟩:=r1.inv
  next=>
   refine ⟨.inr (.inl ⟨rfl,.inr ⟨_,k1.live _ _ ha⟩⟩),p1 g G1 H1 σ _ k1 fun u e G2 H2 Δ2 k2 s2 r2 ⟨i,j,q1,q2,q3,p⟩=>?_⟩
   subst q1
   cases r2.inv
   have ev:vs=ns.map V.int:=rs.ints
   subst ev
   have hj:j < ns.length:=(List.getElem?_eq_some_iff.mp q2).1
   refine ⟨a,_,.int i,j,rfl,rfl,SqT.of (k2.live _ _ (s2 _ _ ha)),rfl,?_,by simpa using hj,⟨.int i,by rw [List.getElem?_map,q2]; rfl,by simp [eqV]⟩,fun m z hm hz=>?_,c _ _ G2 H2 Δ2 k2 (s1.trans s2) (.int _) p⟩
   ·rw [List.all_map]; exact List.all_eq_true.mpr fun _ _=>rfl
   ·rw [List.getElem?_map] at hz
    cases e:ns[m]? with
    | none=>rw [e] at hz; cases hz
    | some w=>
     rw [e] at hz
     have hz:V.int w=z:=by simpa using hz
     subst hz
     have hne:w ≠ i:=fun q=>q3 m hm (by rw [e,q])
     show (w == i)=false
     exact beq_eq_false_iff_ne.mpr hne
end
section
variable {K:PySem.W.Frag} {g:Gm} {G H:Hp} {σ:St} {Δ:Evt}
theorem Ok.setVal' (k:Ok K g G H σ Δ) {v:V} {d:D} (i:Nat) (r:Rep K G v d):Ok K g G H (σ.set i (some v)) (Δ.set i (.val d)):=by
 by_cases hi:i < Δ.length
 ·exact k.setVal hi r
 ·have hl:=k.len
  rw [List.set_eq_of_length_le (l:=σ) (by omega),List.set_eq_of_length_le (l:=Δ) (by omega)]; exact k
theorem Ok.setOwn' (k:Ok K g G H σ Δ) {a:Addr} {od:OD} (i:Nat) (p:Pend K g G H σ Δ a od):Ok K g G H (σ.set i (some (.ref a))) (Δ.set i (.own od)):=by
 by_cases hi:i < Δ.length
 ·exact k.setOwn hi p
 ·have hl:=k.len
  rw [List.set_eq_of_length_le (l:=σ) (by omega),List.set_eq_of_length_le (l:=Δ) (by omega)]; exact k
theorem Zoc {te:TE} {i:Nat} {P:Pst} (h:JE K te Δ fun d Δ1=>P.nx (Δ1.set i (.val d))):JS K (tAsg te (gName i)) Δ P:=fun g G H σ E k c=>
 h g G H σ _ k fun v d G1 H1 Δ1 k1 s1 r1 p1=>c.nx _ G1 H1 _ (k1.setVal' i r1) p1
theorem Zml {te:TE} {i:Nat} {P:Pst} (h:JO K te Δ fun od Δ1=>P.nx (Δ1.set i (.own od))):JS K (tAsg te (gName i)) Δ P:=fun g G H σ E k c=>
 h g G H σ _ k fun a od G1 H1 Δ1 k1 s1 pd p1=>c.nx _ G1 H1 _ (k1.setOwn' i pd) p1
theorem Zne {i j:Nat} {ta:TA} {P:Pst} (h:JA K ta Δ fun ds Δ1=>∃ d e,ds=[d,e]/\P.nx ((Δ1.set i (.val d)).set j (.val e))):JS K (tPar i j ta) Δ P:=fun g G H σ E k c=>
 h g G H σ _ k fun vs ds G1 H1 Δ1 k1 s1 r1 hq_=>by
  obtain ⟨d,e,hd,p1⟩:=hq_
  subst hd
  obtain ⟨_,_,rfl,ra,rr⟩:=r1.inv
  next=>
   obtain ⟨_,_,rfl,rb,rr⟩:=rr.inv
   next=>
    cases rr.inv
    exact ⟨_,_,rfl,c.nx _ G1 H1 _ ((k1.setVal' i ra).setVal' j rb) p1⟩
theorem Zbu {i:Nat} {d:D} {P:Evt->Prop} (p:P (Δ.set i (.val d))):JG K (gName i) d Δ P:=fun g G H σ v R k r c=>c _ G H _ (k.setVal' i r) (Same.refl _) p
theorem Zd1 {n i:Nat} {d:D} {P:Evt->Prop} (hn:i < n) (p:P (Δ.set i (.val d))):JGn K n (gName i) d Δ P:=fun g G H σ v R k r c=>
 c _ G H _ (k.setVal' i r) (Same.refl _) (fun j hj=>List.getElem?_set_ne (by omega)) p
theorem Zpi {n:Nat} {te:TE} {Pp:Pst} {x:Slot} {ds0:List D} (hx:Δ[n]? = some x) (ho:x.od=some (.lst ds0))
  (h:JE K te Δ fun d Δ1=>∃ y ds,Δ1[n]? = some y/\y.od=some (.lst ds)/\ds.length < sizeLine/\Pp.nx (Δ1.set n (y.put (.lst (ds ++ [d]))))) :
  JS K (tDrop (tBM K "list" rAppend (tVar n) (tCons te tNil))) Δ Pp:=Zi6 hx ho ⟨_,rfl⟩ h
end
section
variable {K:PySem.W.Frag} {Δ:Evt} {nx bk ct:Evt->Prop} {rt:D->Evt->Prop} {ro:OD->Evt->Prop}
theorem Zau (p:nx Δ):JS K tNext Δ ⟨nx,rt,bk,ct,ro⟩:=Zmr p
theorem Zam {t u:TS} (h:JS K t Δ ⟨fun Δ1=>JS K u Δ1 ⟨nx,rt,bk,ct,ro⟩,rt,bk,ct,ro⟩):JS K (tSeq t u) Δ ⟨nx,rt,bk,ct,ro⟩:=Zlw h
theorem Zbw {t u:TS} (I:Evt->Prop) (h1:JS K t Δ ⟨I,rt,bk,ct,ro⟩) (h2:∀ Δ1,I Δ1->JS K u Δ1 ⟨nx,rt,bk,ct,ro⟩):JS K (tSeq t u) Δ ⟨nx,rt,bk,ct,ro⟩:=
 Zlw (h1.mono h2 (fun _ _ z=>z) (fun _ z=>z) (fun _ z=>z) fun _ _ z=>z)
theorem Za7 {te:TE} (h:JE K te Δ rt):JS K (tRet te) Δ ⟨nx,rt,bk,ct,ro⟩:=Zn2 h
theorem Zj5 {te:TE} (h:JO K te Δ ro):JS K (tRet te) Δ ⟨nx,rt,bk,ct,ro⟩:=Znz h
theorem Zbk {c:TT} {t u:TS} (h:JT K c Δ fun b Δ1=>if b=true then JS K t Δ1 ⟨nx,rt,bk,ct,ro⟩ else JS K u Δ1 ⟨nx,rt,bk,ct,ro⟩):JS K (tIfS c t u) Δ ⟨nx,rt,bk,ct,ro⟩:=Zpt h
theorem Za9 {te:TE} {i:Nat} (h:JE K te Δ fun d Δ1=>nx (Δ1.set i (.val d))):JS K (tAsg te (gName i)) Δ ⟨nx,rt,bk,ct,ro⟩:=Zoc h
theorem Zfb {te:TE} {i:Nat} (h:JO K te Δ fun od Δ1=>nx (Δ1.set i (.own od))):JS K (tAsg te (gName i)) Δ ⟨nx,rt,bk,ct,ro⟩:=Zml h
theorem Zgz {i j:Nat} {ta:TA} (h:JA K ta Δ fun ds Δ1=>∃ d e,ds=[d,e]/\nx ((Δ1.set i (.val d)).set j (.val e))):JS K (tPar i j ta) Δ ⟨nx,rt,bk,ct,ro⟩:=Zne h
theorem Ziw {te:TE} {t:TG} (h:JE K te Δ fun d Δ1=>JG K t d Δ1 nx):JS K (tAsg te t) Δ ⟨nx,rt,bk,ct,ro⟩:=Zpn h
theorem Zi8 {n:Nat} {te:TE} {x:Slot} {ds0:List D} (hx:Δ[n]? = some x) (ho:x.od=some (.lst ds0))
  (h:JE K te Δ fun d Δ1=>∃ y ds,Δ1[n]? = some y/\y.od=some (.lst ds)/\ds.length < sizeLine/\nx (Δ1.set n (y.put (.lst (ds ++ [d]))))) :
  JS K (tDrop (tBM K "list" rAppend (tVar n) (tCons te tNil))) Δ ⟨nx,rt,bk,ct,ro⟩:=Zpi hx ho h
theorem Zkh {n:Nat} {ti te:TE} (h:JE K te Δ fun d Δ1=>(∃ x ds,Δ1[n]? = some x/\x.od=some (.lst ds))/\JE K ti Δ1 fun e Δ2=>∃ x ds i j,Δ2[n]? = some x/\x.od=some (.lst ds)/\e=.int i/\ixN ds.length i=some j/\nx (Δ2.set n (x.put (.lst (ds.set j d))))) :
  JS K (tAsg te (gSub (tVar n) ti rSetU)) Δ ⟨nx,rt,bk,ct,ro⟩:=Zia (h.mono fun d Δ1 ⟨⟨x,ds,h1,h2⟩,h3⟩=>⟨⟨x,_,h1,h2⟩,h3⟩)
theorem Zdx {wi:TI} {t:TG} {tb:TS} (h:JI K wi Δ fun ds Δ1=>∃ I:Nat->Evt->Prop,I 0 Δ1/\(∀ i d Δ2,ds[i]? = some d->I i Δ2->JG K t d Δ2 fun Δ3=>JS K tb Δ3 ⟨I (i + 1),rt,nx,I (i + 1),ro⟩)/\∀ Δ2,I ds.length Δ2->nx Δ2) :
  JS K (tFor wi t tb) Δ ⟨nx,rt,bk,ct,ro⟩:=Zo4 h
end
theorem Zib {α β:Type} {f:α -> β} {xs:List α} {i:Int} (h0:0<=i) (h1:i < (xs.length:Int)):∃ c,xs[i.toNat]? = some c/\atI (xs.map f) i=some (f c):=by
 have hk:i.toNat < xs.length:=by omega
 have e:i=((i.toNat:Nat):Int):=by omega
 have q:xs[i.toNat]? = some xs[i.toNat]:=List.getElem?_eq_getElem hk
 generalize xs[i.toNat]=c at q
 refine ⟨c,q,?_⟩
 have z:atI (xs.map f) ((i.toNat:Nat):Int)=some (f c):=Zbn (by rw [List.getElem?_map,q]; rfl)
 rw [<- e] at z
 exact z
theorem Ziy:bootBuiltins "abs" = some (.builtin "abs"):=by decide +kernel
theorem Zbl:bootBuiltins "len" = some (.builtin "len"):=by decide +kernel
theorem Zis:bootBuiltins "min" = some (.builtin "min"):=by decide +kernel
theorem Zn8:bootBuiltins "max" = some (.builtin "max"):=by decide +kernel
theorem Za2:bootBuiltins "isinstance" = some (.builtin "isinstance"):=by decide +kernel
theorem Zi4:bootBuiltins "all" = some (.builtin "all"):=by decide +kernel
theorem Zfr:bootBuiltins "sorted" = some (.builtin "sorted"):=by decide +kernel
theorem Zbp:bootBuiltins "tuple" = some (.type "tuple"):=by decide +kernel
theorem Zm6:bootBuiltins "list" = some (.type "list"):=by decide +kernel
theorem Zj1:bootBuiltins "int" = some (.type "int"):=by decide +kernel
theorem Zjx:bootBuiltins "bool" = some (.type "bool"):=by decide +kernel
theorem Zd7:bootBuiltins "str" = some (.type "str"):=by decide +kernel
theorem Zpk:bootBuiltins "zip" = some (.type "zip"):=by decide +kernel
structure Callee (P:Program) (w:World) (K:PySem.W.Frag) (mg:Str->Option Value) (base:Heap) (k:Nat) (x:Str) (ps:List Str) (sp:Sp):Prop where
 ex:∃ (f:Addr) (fd:FuncData),FnOk P w K mg base CX0 k f fd ps sp/\Binds K fd ps []/\PySem.W.keepIn K (.ref f)=true/\mg x=some (.ref f)
section
variable {X:Cx} {k:Nat} {x:Str} {ps:List Str} {sp:Sp} {e:Expr} {es:List Expr} {t:TA} {p pos:Pos}
theorem Za6 (C:Callee X.prog X.w X.K X.mg X.base k x ps sp) (hr:Room k X.A) (ha:PA X (e :: es) t) (hg:Gl X x:=by rfl) (hdb:(x == ("__debug__":Str))=false:=by decide)
  (he:starEach (e :: es) X.env=(false,eval e X.env) :: starEach es X.env:=by rfl) (hpl:(backTo pos (starEach es X.env)).any (·.1)=false:=by rfl):PE X (.Call (.Name x p) (e :: es) [] pos) (tCall sp [] E0 t):=by
 obtain ⟨f,fd,F,b,kp,m⟩:=C.ex
 exact Zmj F hr hg m kp b .nil pass0 ha hdb he hpl
end
end L2
set_option Elab.async false
set_option linter.all false
set_option maxRecDepth 100000
namespace L2
open PySem PySem.Spec PyProof.Rows
def fixD (sel:List Nat) (Δ:Evt):Evt:=sel.map fun i=>(Δ[i]?).getD .any
theorem Zco {n:Nat} {sel:List Nat} {ts Δ:Evt} (ht:ts.length=n):backD n sel (ts ++ fixD sel Δ) 0 Δ = Δ:=by
 apply List.ext_getElem?
 intro i
 rw [Zcc]
 cases q:Δ[i]? with
 | none=>rfl
 | some x=>
  show some (backAt n sel (ts ++ fixD sel Δ) (0 + i) x)=some x
  congr 1
  rw [Nat.zero_add]
  have key:∀ j,sel.idxOf? i=some j->(ts ++ fixD sel Δ)[n + j]? = some x:=fun j hj=>by
   rw [List.getElem?_append_right (by omega),ht,Nat.add_sub_cancel_left]
   unfold fixD
   rw [List.getElem?_map,Zc8 hj]
   show some ((Δ[i]?).getD .any)=_
   rw [q]; rfl
  unfold backAt
  cases x with
  | any=>rfl
  | val d=>rfl
  | own o=>
   dsimp only
   cases e:sel.idxOf? i with
   | none=>rfl
   | some j=>dsimp only; rw [key j e]
  | bor o=>
   dsimp only
   cases e:sel.idxOf? i with
   | none=>rfl
   | some j=>dsimp only; rw [key j e]
  | ownA a o=>
   dsimp only
   cases e:sel.idxOf? i with
   | none=>rfl
   | some j=>dsimp only; rw [key j e]
section
variable {K:PySem.W.Frag} {Δ:Evt} {P:D->Evt->Prop}
theorem Zb5 {sel:List Nat} {wi:TI} {tc:TT} {te:TE} (hsel:sel.Nodup)
  (h:JI K wi Δ fun ds Δ1=>ds.length < sizeLine/\∃ (p:D->Bool) (f:D->D),
   (∀ (i:Nat) d,ds[i]? = some d->JT K tc (.val d :: fixD sel Δ1) fun b Δ4=>b=p d/\if b=true then JE K te Δ4 fun e Δ5=>e=f d/\∃ x,Δ5=x :: fixD sel Δ1 else ∃ x,Δ4=x :: fixD sel Δ1) ∧
   P (.lst ((ds.filter p).map f)) Δ1):JE K (tComp 1 sel wi (gName 0) tc te) Δ P:=by
 refine Zhb hsel fun g G H σ R k c=>h g G H σ R k fun J ds G' H' Δ' k' s' it ⟨z,p,f,ht,he⟩=>c J ds G' H' Δ' k' s' it ⟨z,fixD sel Δ',p,f,rfl,fun i d ts hd hts=>?_,?_⟩
 ·refine Zd1 (by decide) ?_
  obtain ⟨x,rfl⟩:∃ x,ts=[x]:=by
   match ts,hts with
   | [x],_=>exact ⟨x,rfl⟩
  intro g G H σ Q k c
  refine ht i d hd g G H σ Q k fun b G1 H1 Δ1 k1 s1 ⟨e1,q⟩=>c b G1 H1 Δ1 k1 s1 ⟨e1,?_⟩
  cases b with
  | true=>
   rw [if_pos rfl] at q ⊢
   exact q.mono fun e Δ5 ⟨e2,x,e3⟩=>⟨e2,[x],rfl,e3⟩
  | false=>
   rw [if_neg Bool.false_ne_true] at q ⊢
   obtain ⟨x,e3⟩:=q
   exact ⟨[x],rfl,e3⟩
 ·rw [Zco (by simp)]; exact he
theorem Zki {sel:List Nat} {wi:TI} {tc:TT} {te:TE} {Po:OD->Evt->Prop} (hsel:sel.Nodup)
  (h:JI K wi Δ fun ds Δ1=>ds.length < sizeLine/\∃ (p:D->Bool) (f:D->D),
   (∀ (i:Nat) d,ds[i]? = some d->JT K tc (.val d :: fixD sel Δ1) fun b Δ4=>b=p d/\if b=true then JE K te Δ4 fun e Δ5=>e=f d/\∃ x,Δ5=x :: fixD sel Δ1 else ∃ x,Δ4=x :: fixD sel Δ1) ∧
   Po (.lst ((ds.filter p).map f)) Δ1):JO K (tComp 1 sel wi (gName 0) tc te) Δ Po:=by
 refine Zi9 hsel fun g G H σ R k c=>h g G H σ R k fun J ds G' H' Δ' k' s' it ⟨z,p,f,ht,he⟩=>c J ds G' H' Δ' k' s' it ⟨z,fun i ys Δ=>ys=((ds.take i).filter p).map f/\∃ x,Δ = x :: fixD sel Δ',⟨by simp,.any,rfl⟩,?_,?_⟩
 ·rintro i d ys Δ2 hd ⟨rfl,x,rfl⟩
  have tk:ds.take (i + 1)=ds.take i ++ [d]:=by
   rw [List.take_add_one,hd]; rfl
  refine Zd1 (by decide) ?_
  intro g G H σ Q k c
  refine ht i d hd g G H σ Q k fun b G1 H1 Δ1 k1 s1 ⟨e1,q⟩=>c b G1 H1 Δ1 k1 s1 ?_
  cases b with
  | true=>
   rw [if_pos rfl] at q ⊢
   refine q.mono fun e Δ5 ⟨e2,x,e3⟩=>⟨?_,x,e3⟩
   rw [tk,List.filter_append,List.map_append,List.filter_cons,<- e1,e2]
   rfl
  | false=>
   rw [if_neg Bool.false_ne_true] at q ⊢
   obtain ⟨x,e3⟩:=q
   refine ⟨?_,x,e3⟩
   rw [tk,List.filter_append,List.map_append,List.filter_cons,<- e1]
   simp
 ·rintro ys Δ2 ⟨rfl,x,rfl⟩
  rw [List.take_length,show (x :: fixD sel Δ')=[x] ++ fixD sel Δ' from rfl,Zco (by simp)]
  exact he
theorem Zdo {sel:List Nat} {wi:TI} {tc:TT} {te:TE} (hsel:sel.Nodup)
  (h:JI K wi Δ fun ds Δ1=>ds.length < sizeLine/\∃ (p:D->Bool) (f:D->D),
   (∀ (i:Nat) d,ds[i]? = some d->∃ a b,d=.tup [a,b]/\JT K tc (.val a :: .val b :: fixD sel Δ1) fun t Δ4=>t=p d/\if t=true then JE K te Δ4 fun e Δ5=>e=f d/\∃ x y,Δ5=x :: y :: fixD sel Δ1 else ∃ x y,Δ4=x :: y :: fixD sel Δ1) ∧
   P (.lst ((ds.filter p).map f)) Δ1):JE K (tComp 2 sel wi (gTup K 2 (gCons (gName 0) (gCons (gName 1) gNil))) tc te) Δ P:=by
 refine Zhb hsel fun g G H σ R k c=>h g G H σ R k fun J ds G' H' Δ' k' s' it ⟨z,p,f,ht,he⟩=>c J ds G' H' Δ' k' s' it ⟨z,fixD sel Δ',p,f,rfl,fun i d ts hd hts=>?_,?_⟩
 ·obtain ⟨a,b,rfl,hj⟩:=ht i d hd
  refine Zmv rfl (Zfq (Zd1 (by decide) (Zfq (Zd1 (by decide) (Zlu ?_)))))
  obtain ⟨x,y,rfl⟩:∃ x y,ts=[x,y]:=by
   match ts,hts with
   | [x,y],_=>exact ⟨x,y,rfl⟩
  intro g G H σ Q k c
  refine hj g G H σ Q k fun b G1 H1 Δ1 k1 s1 ⟨e1,q⟩=>c b G1 H1 Δ1 k1 s1 ⟨e1,?_⟩
  cases b with
  | true=>
   rw [if_pos rfl] at q ⊢
   exact q.mono fun e Δ5 ⟨e2,x,y,e3⟩=>⟨e2,[x,y],rfl,e3⟩
  | false=>
   rw [if_neg Bool.false_ne_true] at q ⊢
   obtain ⟨x,y,e3⟩:=q
   exact ⟨[x,y],rfl,e3⟩
 ·rw [Zco (by simp)]; exact he
end
end L2
set_option Elab.async false
set_option linter.all false
set_option maxRecDepth 100000
namespace L2
open PySem PySem.Spec PyProof.Rows
def tGhost (base:Nat) (t:TS):TS:=fun E σ H=>t { E with nx:=fun σ' H'=>∃ σ2:St,σ2.length = σ'.length/\(∀ i,i < base -> σ2[i]? = σ'[i]?)/\E.nx σ2 H' } σ H
theorem Zlb {X:Cx} {st:Stmt} {t:TS} (base:Nat) (hv:∀ x ∈ X.N.drop base,X.env.scope.names.lookup x=none) (h:PS X st t):PS X st (tGhost base t):=by
 intro pins s σ H E I hw
 refine thn (h pins s σ H _ I hw) fun f s1 q=>?_
 cases f with
 | next=>
  obtain ⟨σ',H',I',σ2,hl,hs,q⟩:=q
  refine ⟨σ2,H',⟨I'.ok,I'.os,I'.bare,I'.base,?_,I'.cell,I'.free,I'.freeC,I'.pin,I'.hok,hl.trans I'.len⟩,q⟩
  obtain ⟨m,hn,hl'⟩:=I'.loc
  refine ⟨m,hn,fun i x v e1 e2 e3=>?_⟩
  by_cases hi:i < base
  ·rw [hs i hi] at e2; exact hl' i x v e1 e2 e3
  ·have hm:x ∈ X.N.drop base:=by
    refine List.mem_of_getElem? (i:=i - base) ?_
    rw [List.getElem?_drop,show base + (i - base)=i by omega]; exact e1
   have z:=hv x hm
   rcases e3 with w | w | w <;> (rw [z] at w; cases w)
 | ret v=>exact q
 | brk=>exact q
 | cont=>exact q
def Nest (K:PySem.W.Frag) (g:Gm) (G H:Hp) (σ:St) (Δ:Evt) (cs:List (Addr × HO)) (ods:List OD):Prop:=
 (cs.map (·.1)).Nodup/\Paired (fun (c:Addr × HO) (od:OD)=>OwnRep K G c.2 od) cs ods/\∀ c ∈ cs,H c.1=some c.2/\G c.1=none/\g.Hz c.1=none/\g.Xo c.1=none/\∀ (i:Nat) x od',Δ[i]? = some x->x.od=some od' -> σ[i]? ≠ some (some (.ref c.1))
def JN (K:PySem.W.Frag) (t:TE) (Δ:Evt) (P:List OD->Evt->Prop):Prop:=
 ∀ g G H σ Q,Ok K g G H σ Δ -> (∀ acc cs ods G' H' Δ',Ok K g G' H' σ Δ' -> Same G G' -> Rep K G' (.ref acc) (.lst (cs.map fun (c:Addr × HO)=>D.adr c.1))->g.Hz acc=none->Nest K g G' H' σ Δ' cs ods->P ods Δ' -> Q (.ref acc) H')->t σ H Q
section
variable {K:PySem.W.Frag} {Δ:Evt}
def cellAt (cs:List (Addr × HO)) (b:Addr):Option HO:=(cs.find? fun c=>decide (c.1=b)).map (·.2)
theorem Zcy {cs:List (Addr × HO)} {b:Addr}:cellAt cs b=none ↔ ∀ c ∈ cs,c.1 ≠ b:=by
 unfold cellAt
 rw [Option.map_eq_none_iff,List.find?_eq_none]
 constructor
 ·intro h c hc e; exact h c hc (decide_eq_true e)
 ·intro h c hc e; exact h c hc (of_decide_eq_true e)
theorem Zel {cs:List (Addr × HO)} (nd:(cs.map (·.1)).Nodup) {c:Addr × HO} (hc:c ∈ cs):cellAt cs c.1=some c.2:=by
 induction cs with
 | nil=>cases hc
 | cons d r ih=>
  rw [List.map_cons,List.nodup_cons] at nd
  unfold cellAt
  rcases List.mem_cons.mp hc with e | hc
  ·subst e; simp
  ·have hne:d.1 ≠ c.1:=fun e=>nd.1 (by rw [e]; exact List.mem_map.mpr ⟨c,hc,rfl⟩)
   rw [List.find?_cons_of_neg (by simpa using hne)]
   exact ih nd.2 hc
open Classical in
noncomputable def asideN (g:Gm) (sel:List Nat) (σ:St) (Δ:Evt) (H:Hp) (acc:Addr) (cs:List (Addr × HO)):Hp:=fun b=>
 if b=acc then some (.lst (cs.map fun c=>V.ref c.1)) else match cellAt cs b with
  | some o=>some o
  | none=>if ∃ (i:Nat) (x:Slot) (od:OD),Δ[i]? = some x/\x.od=some od/\i ∉ sel /\ σ[i]? = some (some (.ref b)) then H b else g.Xo b
theorem Zb9 {g:Gm} {sel:List Nat} {σ:St} {Δ:Evt} {H:Hp} {acc:Addr} {cs:List (Addr × HO)}:asideN g sel σ Δ H acc cs acc=some (.lst (cs.map fun c=>V.ref c.1)):=by unfold asideN; rw [if_pos rfl]
theorem Zby {g:Gm} {sel:List Nat} {σ:St} {Δ:Evt} {H:Hp} {acc b:Addr} {o:HO} {cs:List (Addr × HO)} (hb:b ≠ acc) (e:cellAt cs b=some o):asideN g sel σ Δ H acc cs b=some o:=by unfold asideN; rw [if_neg hb,e]
theorem Zb7 {g:Gm} {sel:List Nat} {σ:St} {Δ:Evt} {H:Hp} {acc b:Addr} {cs:List (Addr × HO)} (hb:b ≠ acc) (e:cellAt cs b=none) (hx:∃ (i:Nat) (x:Slot) (od:OD),Δ[i]? = some x/\x.od=some od/\i ∉ sel /\ σ[i]? = some (some (.ref b))):asideN g sel σ Δ H acc cs b=H b:=by
 unfold asideN; rw [if_neg hb,e]; exact if_pos hx
theorem Zb1 {g:Gm} {sel:List Nat} {σ:St} {Δ:Evt} {H:Hp} {acc b:Addr} {cs:List (Addr × HO)} (hb:b ≠ acc) (e:cellAt cs b=none) (hx:¬ ∃ (i:Nat) (x:Slot) (od:OD),Δ[i]? = some x/\x.od=some od/\i ∉ sel /\ σ[i]? = some (some (.ref b))):asideN g sel σ Δ H acc cs b=g.Xo b:=by
 unfold asideN; rw [if_neg hb,e]; exact if_neg hx
theorem Znk {n:Nat} {sel:List Nat} {wi:TI} {t:TG} {tc:TT} {te:TE} {P:List OD->Evt->Prop} (hsel:sel.Nodup)
  (h:JI K wi Δ fun ds Δ1=>ds.length < sizeLine/\∃ I:Nat->List OD->Evt->Prop,I 0 [] (compD n sel Δ1) ∧
   (∀ i d ys Δ2,ds[i]? = some d->I i ys Δ2->JGn K n t d Δ2 fun Δ3=>JT K tc Δ3 fun b Δ4=>if b=true then JO K te Δ4 fun e Δ5=>I (i + 1) (ys ++ [e]) Δ5 else I (i + 1) ys Δ4) ∧
   ∀ ys Δ2,I ds.length ys Δ2->P ys (backD n sel Δ2 0 Δ1)):JN K (tComp n sel wi t tc te) Δ P:=fun g G H σ Q k c=>
 h g G H σ _ k fun J ds G1 H1 Δ1 k1 s1 it ⟨hz,I,h0,ht,he⟩ acc hacc=>by
  have nacc:∀ (i:Nat) x od,Δ1[i]? = some x->x.od=some od -> σ[i]? ≠ some (some (.ref acc)):=fun i x od e1 e2 e3=>by
   obtain ⟨a,o,w1,w2,_⟩:=k1.own i x od e1 e2
   rw [e3] at w1; cases w1
   rw [hacc] at w2; cases w2
  let Wd:Nat->St->Hp->Prop:=fun i σ' H'=>i<=ds.length/\(∀ j,n<=j -> σ'[j]? = (compSt n sel σ)[j]?)/\∃ G ys cs Δi,cs.length<=i/\(cs.map (·.1)).Nodup/\(∀ c ∈ cs,c.1 ≠ acc/\g.Hz c.1=none/\g.Xo c.1=none/\∀ (i:Nat) x od,Δ1[i]? = some x->x.od=some od->i ∉ sel -> σ[i]? ≠ some (some (.ref c.1)))/\Paired (fun (c:Addr × HO) (od:OD)=>OwnRep K G c.2 od) cs ys ∧
   Ok K ⟨g.B,G1,g.Hz,asideN g sel σ Δ1 H1 acc cs⟩ G H' σ' Δi/\I i ys Δi
  refine ⟨fun i m σ' H'=>m=ds.length - i/\Wd i σ' H',⟨ds.length,by simp,Nat.zero_le _,fun _ _=>rfl,G1,[],[],compD n sel Δ1,Nat.le_refl _,List.nodup_nil,fun c hc=>(nomatch hc),.nil,?_,h0⟩,?_⟩
  ·refine Zep hsel k1 hacc fun b o e=>?_
   have e:asideN g sel σ Δ1 H1 acc [] b=some o:=e
   by_cases hb:b=acc
   ·subst hb; rw [Zb9] at e; cases e; exact .inl ⟨rfl,rfl⟩
   ·by_cases hx:∃ (i:Nat) (x:Slot) (od:OD),Δ1[i]? = some x/\x.od=some od/\i ∉ sel /\ σ[i]? = some (some (.ref b))
    ·rw [Zb7 hb rfl hx] at e; exact .inr ⟨hb,.inl ⟨hx,e⟩⟩
    ·rw [Zb1 hb rfl hx] at e; exact .inr ⟨hb,.inr e⟩
  ·rintro i m σ2 H2 ⟨rfl,hi,hσ,G2,ys,cs,Δ2,hy,nd,hcs,ry,k2,h2⟩
   have s2:Same G1 G2:=k2.sub
   obtain ⟨stop,go⟩:=it G2 H2 s2 k2.live
   by_cases hlt:i < ds.length
   ·obtain ⟨g1,g2⟩:=go i _ (List.getElem?_eq_getElem hlt)
    refine .inr ⟨g1,fun σ' H'=>Wd (i + 1) σ' H',fun σ' H' p'=>⟨ds.length - (i + 1),by omega,rfl,p'⟩,fun x H3 y=>?_⟩
    obtain ⟨G3,a1,a2,a3,a4⟩:=g2 x H3 y
    have k3:=k2.grow a1 a2 a3
    have hG3:∀ b o,G3 b=some o->(g.Hz b=none\/G1 b=some o):=fun b o q=>(k3.frz b o q).2
    have k3':Ok K ⟨g.B,G3,g.Hz,asideN g sel σ Δ1 H1 acc cs⟩ G3 H3 σ2 Δ2:=⟨k3.same,k3.lent,Same.refl _,fun b o q=>⟨(k3.frz b o q).1,.inr q⟩,k3.ext,k3.len,k3.val,k3.own,k3.dis⟩
    have ry3:Paired (fun (c:Addr × HO) (od:OD)=>OwnRep K G3 c.2 od) cs ys:=Paired.mapP ry fun _ _ z=>z.mono a1
    have s13:Same G1 G3:=s2.trans a1
    refine ht i _ ys Δ2 (List.getElem?_eq_getElem hlt) h2 ⟨g.B,G3,g.Hz,asideN g sel σ Δ1 H1 acc cs⟩ G3 H3 σ2 x _ k3' a4 fun σ4 G4 H4 Δ4 k4 s4 e4 p4=>?_
    have hσ4:∀ j,n<=j -> σ4[j]? = (compSt n sel σ)[j]?:=fun j hj=>(e4 j hj).trans (hσ j hj)
    refine p4 _ G4 H4 σ4 _ k4 fun b G5 H5 Δ5 k5 s5 p5=>?_
    cases b with
    | false=>exact ⟨hlt,hσ4,G5,ys,cs,Δ5,by omega,nd,hcs,Paired.mapP ry3 fun _ _ z=>z.mono (s4.trans s5),k5.base s13 hG3,p5⟩
    | true=>
     refine (show JO K te Δ5 _ from p5) _ G5 H5 σ4 _ k5 fun a od G6 H6 Δ6 k6 s6 pd p6=>?_
     have ry6:Paired (fun (c:Addr × HO) (od:OD)=>OwnRep K G6 c.2 od) cs ys:=Paired.mapP ry3 fun _ _ z=>z.mono (s4.trans (s5.trans s6))
     obtain ⟨b1,b2,b3⟩:=k6.ext acc _ Zb9
     obtain ⟨oa,d1,d2,d3,d4,d5,d6⟩:=pd
     have d5:asideN g sel σ Δ1 H1 acc cs a=none:=d5
     have hane:a ≠ acc:=by intro z; subst z; rw [Zb9] at d5; cases d5
     have hac:cellAt cs a=none:=by
      cases q:cellAt cs a with
      | none=>rfl
      | some o=>rw [Zby hane q] at d5; cases d5
     have hax:∀ (i:Nat) x od,Δ1[i]? = some x->x.od=some od->i ∉ sel -> σ[i]? ≠ some (some (.ref a)):=fun i x od e1 e2 e3 e4=>by
      rw [Zb7 hane hac ⟨i,x,od,e1,e2,e3,e4⟩] at d5
      obtain ⟨a',o',w1,w2,_⟩:=k1.own i x od e1 e2
      rw [e4] at w1; cases w1
      rw [d5] at w2; cases w2
     have hagx:g.Xo a=none:=by
      rw [Zb1 hane hac (fun ⟨i,x,od,e1,e2,e3,e4⟩=>hax i x od e1 e2 e3 e4)] at d5; exact d5
     have hnm:=Zcy.mp hac
     refine ⟨cs.map fun c=>V.ref c.1,b1,by rw [List.length_map]; omega,hlt,hσ4,G6,ys ++ [od],cs ++ [(a,oa)],Δ6,by rw [List.length_append,List.length_singleton]; omega,?_,fun c hc=>?_,Paired.snoc ry6 d2,?_,p6⟩
     ·rw [List.map_append]
      refine List.nodup_append.mpr ⟨nd,by simp,fun x hx y hy=>?_⟩
      rw [List.map_singleton,List.mem_singleton] at hy
      subst hy
      obtain ⟨c,hc,rfl⟩:=List.mem_map.mp hx
      exact hnm c hc
     ·rcases List.mem_append.mp hc with hc | hc
      ·exact hcs c hc
      ·rw [List.mem_singleton.mp hc]; exact ⟨hane,d4,hagx,hax⟩
     ·have k7:=k6.base s13 hG3
      have nd':((cs ++ [(a,oa)]).map (·.1)).Nodup:=by
       rw [List.map_append]
       refine List.nodup_append.mpr ⟨nd,by simp,fun x hx y hy=>?_⟩
       rw [List.map_singleton,List.mem_singleton] at hy
       subst hy
       obtain ⟨c,hc,rfl⟩:=List.mem_map.mp hx
       exact hnm c hc
      have er:(cs ++ [(a,oa)]).map (fun c=>V.ref c.1)=(cs.map fun c=>V.ref c.1) ++ [V.ref a]:=by simp
      have oldH:∀ b o,b ≠ acc->H6 b=some o->(upd H6 acc (.lst ((cs.map fun c=>V.ref c.1) ++ [V.ref a]))) b=some o:=fun b o hb e=>by rw [Zai hb]; exact e
      refine ⟨fun b o hb e=>?_,fun b hb=>?_,k7.sub,fun b o e=>?_,fun b o e=>?_,k7.len,k7.val,fun i x od e1 e2=>?_,k7.dis⟩
      ·have hne:b ≠ acc:=by
        intro z; subst z
        have e:g.Hz b=some o:=e
        rw [k1.there hacc] at e; cases e
       exact oldH b o hne (k7.same b o hb e)
      ·by_cases hne:b=acc
       ·subst hne; rw [Zal]; intro z; cases z
       ·rw [Zai hne]; exact k7.lent b hb
      ·have hne:b ≠ acc:=by intro z; subst z; rw [b2] at e; cases e
       exact ⟨oldH b o hne (k7.frz b o e).1,(k7.frz b o e).2⟩
      ·have e:asideN g sel σ Δ1 H1 acc (cs ++ [(a,oa)]) b=some o:=e
       by_cases hne:b=acc
       ·subst hne
        rw [Zb9,er] at e
        cases e
        exact ⟨Zal,b2,b3⟩
       ·by_cases hba:b=a
        ·subst hba
         rw [Zby hne (Zel nd' (c:=(b,oa)) (List.mem_append_right _ (List.mem_singleton.mpr rfl)))] at e
         cases e
         exact ⟨oldH b _ hne d1,d3,d6⟩
        ·have ec:cellAt (cs ++ [(a,oa)]) b=cellAt cs b:=by
          unfold cellAt
          rw [List.find?_append]
          cases (cs.find? fun c=>decide (c.1=b)) with
          | some c=>rfl
          | none=>
           rw [List.find?_cons_of_neg (by simpa using Ne.symm hba)]
           rfl
         have e':asideN g sel σ Δ1 H1 acc cs b=some o:=by
          cases q:cellAt cs b with
          | some o'=>rw [Zby hne (ec.trans q)] at e; rw [Zby hne q]; exact e
          | none=>
           by_cases hx:∃ (i:Nat) (x:Slot) (od:OD),Δ1[i]? = some x/\x.od=some od/\i ∉ sel /\ σ[i]? = some (some (.ref b))
           ·rw [Zb7 hne (ec.trans q) hx] at e; rw [Zb7 hne q hx]; exact e
           ·rw [Zb1 hne (ec.trans q) hx] at e; rw [Zb1 hne q hx]; exact e
         obtain ⟨w1,w2,w3⟩:=k7.ext b o e'
         exact ⟨oldH b o hne w1,w2,w3⟩
      ·obtain ⟨a',o,w1,w2,w3,w4,w5⟩:=k7.own i x od e1 e2
       have hne:a' ≠ acc:=by intro z; subst z; exact b3 i x od e1 e2 w1
       exact ⟨a',o,w1,oldH a' o hne w2,w3,w4,w5⟩
   ·have e:i=ds.length:=by omega
    subst e
    refine .inl ⟨stop,?_⟩
    obtain ⟨b1,b2,b3⟩:=k2.ext acc _ Zb9
    have src:=Zfd (Δ1:=Δ1) (Δ2:=Δ2) hσ
    have k9:Ok K g G2 H2 σ (backD n sel Δ2 0 Δ1):=Zea k1 hacc k2 hσ (fun b o hb hx e=>by
      show asideN g sel σ Δ1 H1 acc cs b=_
      rw [Zb7 hb (Zcy.mpr fun c hc z=>?_) hx]
      ·exact e
      ·obtain ⟨i0,x0,od0,f1,f2,f3,f4⟩:=hx
       exact (hcs c hc).2.2.2 i0 x0 od0 f1 f2 f3 (by rw [z]; exact f4)) (fun b o hb hx e=>by
      show asideN g sel σ Δ1 H1 acc cs b=_
      rw [Zb1 hb (Zcy.mpr fun c hc z=>?_) hx]
      ·exact e
      ·have:=(hcs c hc).2.2.1; rw [z,e] at this; cases this)
    -- the outer list is frozen
    have nslot:∀ (i:Nat) y od,(backD n sel Δ2 0 Δ1)[i]? = some y->y.od=some od -> σ[i]? ≠ some (some (.ref acc)):=fun i y od e1 e2=>by
     obtain ⟨x',od1,f1,f2,_⟩:=src i y od e1 e2
     exact nacc i x' od1 f1 f2
    have refs:∀ {G:Hp} (l:List (Addr × HO)),Reps K G (l.map fun c=>V.ref c.1) (l.map fun c=>D.adr c.1):=fun {G} l=>by
     induction l with
     | nil=>exact .nil
     | cons c r ih=>exact .cons (.adr _) ih
    have gX:g.Xo acc=none:=by
     cases q:g.Xo acc with
     | none=>rfl
     | some u=>have z:=(k1.ext acc u q).1; rw [hacc] at z; cases z
    obtain ⟨kf,sf,rf⟩:=k9.freeze (a:=acc) (ds:=cs.map fun (c:Addr × HO)=>D.adr c.1) (vs:=cs.map fun (c:Addr × HO)=>V.ref c.1) ⟨_,b1,(show Reps K G2 (cs.map fun (c:Addr × HO)=>V.ref c.1) (cs.map fun (c:Addr × HO)=>D.adr c.1) from refs cs),b2,k1.there hacc,gX,nslot⟩ b1
    refine c acc cs ys _ H2 _ kf (s1.trans (s2.trans sf)) rf (k1.there hacc) ⟨nd,Paired.mapP ry fun _ _ z=>z.mono sf,fun cc hc=>?_⟩ (he ys Δ2 h2)
    obtain ⟨f1,f2,f3,f4⟩:=hcs cc hc
    obtain ⟨u1,u2,u3⟩:=k2.ext cc.1 cc.2 (Zby f1 (Zel nd hc))
    refine ⟨u1,by rw [Zai f1]; exact u2,f2,f3,fun i y od e1 e2 e3=>?_⟩
    obtain ⟨x,od',w1,w2,w3⟩:=src i y od e1 e2
    rcases w3 with ⟨w3,w4⟩ | ⟨j,w3,w4,w5⟩
    ·exact f4 i x od' w1 w2 w4 e3
    ·exact u3 (n + j) y od w4 e2 (by rw [w5,e3]; rfl)
def putN:Nat->List (Addr × OD)->Evt->Evt
 | _,[],Δ=>Δ
 | b,c :: r,Δ=>putN (b + 1) r (Δ.set b (.ownA c.1 c.2))
def putS:Nat->List Addr->St->St
 | _,[],σ=>σ
 | b,a :: r,σ=>putS (b + 1) r (σ.set b (some (.ref a)))
theorem Zhg:∀ (as:List Addr) (b:Nat) (σ:St),(putS b as σ).length = σ.length
 | [],_,_=>rfl
 | a :: r,b,σ=>by rw [putS,Zhg r (b + 1),List.length_set]
theorem Zem:∀ (as:List Addr) (b:Nat) (σ:St) (i:Nat),i < b->(putS b as σ)[i]? = σ[i]?
 | [],_,_,_,_=>rfl
 | a :: r,b,σ,i,h=>by rw [putS,Zem r (b + 1) _ i (by omega),List.getElem?_set_ne (by omega)]
theorem Ok.setOwnA {g:Gm} {G H:Hp} {σ:St} (k:Ok K g G H σ Δ) {a:Addr} {od:OD} {i:Nat} (hi:i < Δ.length) (p:Pend K g G H σ Δ a od):Ok K g G H (σ.set i (some (.ref a))) (Δ.set i (.ownA a od)):=by
 have k1:=k.setOwn hi p
 obtain ⟨o,p1,p2,p3,p4,p5,p6⟩:=p
 have hs:i < σ.length:=by rw [<- k.len]; exact hi
 have old:∀ (j:Nat) x,j ≠ i->(Δ.set i (.ownA a od))[j]? = some x->(Δ.set i (.own od))[j]? = some x:=fun j x hj e=>by
  rw [List.getElem?_set_ne (Ne.symm hj)] at e ⊢; exact e
 have cv:∀ (j:Nat) x od',(Δ.set i (.ownA a od))[j]? = some x->x.od=some od' -> ∃ y,(Δ.set i (.own od))[j]? = some y/\y.od=some od':=fun j x od' e1 e2=>by
  by_cases hj:j=i
  ·subst hj
   rw [List.getElem?_set_self hi] at e1
   cases e1; cases e2
   exact ⟨.own od,List.getElem?_set_self hi,rfl⟩
  ·exact ⟨x,old j x hj e1,e2⟩
 refine ⟨k1.same,k1.lent,k1.sub,k1.frz,fun b u e=>?_,by simp [k.len],fun j d e=>?_,fun j x od' e1 e2=>?_,fun j l x y od1 od2 c e1 e2 e3 e4 e5 e6=>?_⟩
 ·obtain ⟨h1,h2,h3⟩:=k1.ext b u e
  refine ⟨h1,h2,fun j x od' e1 e2=>?_⟩
  obtain ⟨y,f1,f2⟩:=cv j x od' e1 e2
  exact h3 j y od' f1 f2
 ·by_cases hj:j=i
  ·subst hj
   rw [List.getElem?_set_self hi] at e
   cases e
  ·exact k1.val j d (old j _ hj e)
 ·by_cases hj:j=i
  ·subst hj
   rw [List.getElem?_set_self hi] at e1
   cases e1; cases e2
   exact ⟨a,o,List.getElem?_set_self hs,p1,p2,p3,rfl,p4⟩
  ·exact k1.own j x od' (old j x hj e1) e2
 ·obtain ⟨x',f1,f2⟩:=cv j x od1 e1 e2
  obtain ⟨y',f3,f4⟩:=cv l y od2 e3 e4
  exact k1.dis j l x' y' od1 od2 c f1 f2 f3 f4 e5 e6
theorem Ok.putN {g:Gm} {G H:Hp}:∀ (cs:List (Addr × HO)) (ods:List OD) (b:Nat) (σ:St) (Δ:Evt),Ok K g G H σ Δ -> b + ods.length <= Δ.length->Nest K g G H σ Δ cs ods →
  Ok K g G H (putS b (cs.map (·.1)) σ) (L2.putN b ((cs.map (·.1)).zip ods) Δ)
 | [],[],_,_,_,k,_,_=>k
 | [],_ :: _,_,_,_,_,_,n=>by cases n.2.1
 | _ :: _,[],_,_,_,_,_,n=>by cases n.2.1
 | c :: cs,od :: ods,b,σ,Δ,k,hl,⟨nd,pr,al⟩=>by
  cases pr with
  | cons r t=>
   obtain ⟨h1,h2,h3,h4,h5⟩:=al c List.mem_cons_self
   rw [List.map_cons,List.nodup_cons] at nd
   have hb:b < Δ.length:=by rw [List.length_cons] at hl; omega
   have k1:=k.setOwnA hb ⟨c.2,h1,r,h2,h3,h4,h5⟩
   refine Ok.putN cs ods (b + 1) _ _ k1 (by rw [List.length_set]; rw [List.length_cons] at hl; omega) ⟨nd.2,t,fun d hd=>?_⟩
   obtain ⟨f1,f2,f3,f4,f5⟩:=al d (List.mem_cons_of_mem _ hd)
   have hne:d.1 ≠ c.1:=fun e=>nd.1 (by rw [<- e]; exact List.mem_map.mpr ⟨d,hd,rfl⟩)
   refine ⟨f1,f2,f3,f4,fun j x od' e1 e2=>?_⟩
   by_cases hj:j=b
   ·subst hj
    rw [List.getElem?_set_self (by rw [<- k.len]; exact hb)]
    intro z
    have:c.1=d.1:=by
     have z1:=Option.some.inj (Option.some.inj z)
     injection z1
    exact hne this.symm
   ·rw [List.getElem?_set_ne (Ne.symm hj)] at e1 ⊢
    exact f5 j x od' e1 e2
theorem Zjm:∀ (l:List (Addr × OD)) (R T:Evt) (m:Nat),l.length<=m->L2.putN R.length l (R ++ List.replicate m Slot.any ++ T)=R ++ l.map (fun c=>Slot.ownA c.1 c.2) ++ List.replicate (m - l.length) Slot.any ++ T
 | [],R,T,m,_=>by simp [L2.putN]
 | c :: r,R,T,m,h=>by
  obtain ⟨m',rfl⟩:∃ m',m=m' + 1:=⟨m - 1,by rw [List.length_cons] at h; omega⟩
  have e:(R ++ List.replicate (m' + 1) Slot.any ++ T).set R.length (.ownA c.1 c.2)=(R ++ [.ownA c.1 c.2]) ++ List.replicate m' Slot.any ++ T:=by
   rw [List.replicate_succ]
   simp [List.set_append_right]
  rw [L2.putN,e]
  have:=Zjm r (R ++ [.ownA c.1 c.2]) T m' (by rw [List.length_cons] at h; omega)
  rw [List.length_append,List.length_singleton] at this
  rw [this]
  simp
theorem Zmy {te:TE} {i base:Nat} {nx bk ct:Evt->Prop} {rt:D->Evt->Prop} {ro:OD->Evt->Prop}
  (h:JN K te Δ fun ods Δ1=>i < base/\base + ods.length <= Δ1.length/\∀ as:List Addr,as.length=ods.length->as.Nodup->nx (L2.putN base (as.zip ods) (Δ1.set i (.val (.lst (as.map D.adr)))))) :
  JS K (tGhost base (tAsg te (gName i))) Δ ⟨nx,rt,bk,ct,ro⟩:=fun g G H σ E k c=>
 h g G H σ _ k fun acc cs ods G1 H1 Δ1 k1 s1 rr _ nn hq_=>by
  obtain ⟨hi,hb,p⟩:=hq_
  have hl:cs.length=ods.length:=Paired.length nn.2.1
  have e0:(cs.map fun c=>D.adr c.1)=(cs.map (·.1)).map D.adr:=by rw [List.map_map]; rfl
  have k2:=k1.setVal' i rr
  have n2:Nest K g G1 H1 (σ.set i (some (.ref acc))) (Δ1.set i (.val (.lst (cs.map fun c=>D.adr c.1)))) cs ods:=by
   obtain ⟨nd,pr,al⟩:=nn
   refine ⟨nd,pr,fun d hd=>?_⟩
   obtain ⟨f1,f2,f3,f4,f5⟩:=al d hd
   refine ⟨f1,f2,f3,f4,fun j x od' e1 e2=>?_⟩
   by_cases hj:j=i
   ·subst hj
    by_cases hlt:j < Δ1.length
    ·rw [List.getElem?_set_self hlt] at e1; cases e1; cases e2
    ·rw [List.getElem?_eq_none (by rw [List.length_set]; omega)] at e1; cases e1
   ·rw [List.getElem?_set_ne (Ne.symm hj)] at e1 ⊢
    exact f5 j x od' e1 e2
  have k3:=Ok.putN cs ods base _ _ k2 (by rw [List.length_set]; exact hb) n2
  refine ⟨putS base (cs.map (·.1)) (σ.set i (some (.ref acc))),Zhg _ _ _,fun j hj=>Zem _ _ _ j hj,?_⟩
  rw [e0] at k3
  exact c.nx _ G1 H1 _ k3 (p (cs.map (·.1)) (by rw [List.length_map,hl]) nn.1)
theorem Zj0 {n j:Nat} {a:Addr} {ds:List D} {P:D->Evt->Prop} (hx:Δ[n]? = some (.val (.adr a))) (hj:Δ[j]? = some (.ownA a (.lst ds))) (p:P (.int ds.length) Δ):JE K (tCB (rLenU K) (tCons (tVar n) tNil)) Δ P:=fun g G H σ Q k c=>by
 obtain ⟨v,h1,h2⟩:=k.val n _ hx
 cases h2
 obtain ⟨a',o,w1,w2,w3,w4,w5⟩:=k.own j _ _ hj rfl
 obtain ⟨rfl,_⟩:=w5
 cases o with
 | lst vs=>
  have w3:Reps K G vs ds:=w3
  refine ⟨_,h1,.inl ⟨_,vs,rfl,.inl (SqL.of w2),?_⟩⟩
  rw [w3.length]; exact c _ _ G H Δ k (Same.refl _) (.int _) p
 | _=>exact absurd w3 (fun z=>z)
theorem Zmq {n:Nat} {t1 t2:TE} {a:Addr} {j0:Nat} {ds0:List D} {nx bk ct:Evt->Prop} {rt:D->Evt->Prop} {ro:OD->Evt->Prop} (hx:Δ[n]? = some (.val (.adr a))) (hj0:Δ[j0]? = some (.ownA a (.lst ds0)))
  (h:JE K t1 Δ fun e1 Δ1=>JE K t2 Δ1 fun e2 Δ2=>∃ j i ds,e1=.int i /\ Δ2[j]? = some (.ownA a (.lst ds))/\ds.length < sizeLine /\ -(2 ^ 62)<=i/\i < 2 ^ 62/\nx (Δ2.set j (.ownA a (.lst (ds.take (insI ds.length i) ++ e2 :: ds.drop (insI ds.length i)))))) :
  JS K (tDrop (tBM K "list" rInsert (tVar n) (tCons t1 (tCons t2 tNil)))) Δ ⟨nx,rt,bk,ct,ro⟩:=fun g G H σ E k c=>by
 obtain ⟨v,h1,h2⟩:=k.val n _ hx
 cases h2
 obtain ⟨a',o,w1,w2,w3,w4,w5⟩:=k.own j0 _ _ hj0 rfl
 obtain ⟨rfl,_⟩:=w5
 cases o with
 | lst vs0=>
  refine ⟨_,h1,.inl ⟨rfl,_,SqL.of w2⟩,h g G H σ _ k fun v1 e1 G1 H1 Δ1 k1 s1 r1 p1=>p1 g G1 H1 σ _ k1 fun v2 e2 G2 H2 Δ2 k2 s2 r2 ⟨j,i,ds,q1,q2,q3,q4,q5,p⟩=>?_⟩
  subst q1
  cases r1.inv
  obtain ⟨a2,o2,u1,u2,u3,u4,u5⟩:=k2.own j _ _ q2 rfl
  obtain ⟨rfl,_⟩:=u5
  cases o2 with
  | lst vs=>
   have u3:Reps K G2 vs ds:=u3
   refine ⟨_,vs,i,v2,rfl,rfl,u2,by rw [u3.length]; exact q3,q4,q5,?_⟩
   have k3:=k2.write q2 rfl u1 (show OwnRep K G2 (.lst (vs.take (insI vs.length i) ++ v2 :: vs.drop (insI vs.length i))) (.lst (ds.take (insI ds.length i) ++ e2 :: ds.drop (insI ds.length i))) from by
    rw [u3.length]; exact (u3.take _).append (.cons r2 (u3.drop _)))
   exact c.nx σ G2 _ _ k3 p
  | _=>exact absurd u3 (fun z=>z)
 | _=>exact absurd w3 (fun z=>z)
theorem JS.conv {t:TS} {Δ':Evt} {P:Pst} (hc:∀ g G H σ,Ok K g G H σ Δ -> ∃ G',Same G G' /\ Ok K g G' H σ Δ') (h:JS K t Δ' P):JS K t Δ P:=fun g G H σ E k c=>by
 obtain ⟨G',s,k'⟩:=hc g G H σ k
 exact h g G' H σ E k' c
theorem Ok.freezeA {g:Gm} {G H:Hp} {σ:St} (k:Ok K g G H σ Δ) {i:Nat} {a:Addr} {ds:List D} (h:Δ[i]? = some (.ownA a (.lst ds))):∃ G',Same G G' /\ Ok K g G' H σ (Δ.set i .any)/\Rep K G' (.ref a) (.lst ds):=by
 obtain ⟨a',o,w1,w2,w3,w4,w5⟩:=k.own i _ _ h rfl
 obtain ⟨rfl,w6⟩:=w5
 cases o with
 | lst vs=>
  have pd:Pend K g G H σ (Δ.set i .any) a (.lst ds):=by
   refine ⟨.lst vs,w2,w3,w4,w6,?_,fun j x od' e1 e2 e3=>?_⟩
   ·cases q:g.Xo a with
    | none=>rfl
    | some u=>exact absurd w1 ((k.ext a u q).2.2 i _ _ h rfl)
   ·by_cases hj:j=i
    ·subst hj
     rw [List.getElem?_set] at e1
     simp at e1
     obtain ⟨_,e1⟩:=e1
     subst e1
     cases e2
    ·rw [List.getElem?_set_ne (Ne.symm hj)] at e1
     exact hj (k.dis j i x _ od' _ a e1 e2 h rfl e3 w1)
  obtain ⟨k2,sg,r⟩:=(k.drop i).freeze pd w2
  exact ⟨_,sg,k2,r⟩
 | _=>exact absurd w3 (fun z=>z)
theorem Ok.freezeN {g:Gm} {H:Hp} {σ:St}:∀ (cs:List (Addr × List D)) (R T:Evt) (G:Hp),Ok K g G H σ (R ++ cs.map (fun c=>Slot.ownA c.1 (.lst c.2)) ++ T) →
  ∃ G',Same G G' /\ Ok K g G' H σ (R ++ List.replicate cs.length .any ++ T)/\∀ c ∈ cs,Rep K G' (.ref c.1) (.lst c.2)
 | [],R,T,G,k=>⟨G,Same.refl _,by simpa using k,fun c hc=>nomatch hc⟩
 | c :: r,R,T,G,k=>by
  have hi:(R ++ (c :: r).map (fun c=>Slot.ownA c.1 (.lst c.2)) ++ T)[R.length]? = some (.ownA c.1 (.lst c.2)):=by simp
  obtain ⟨G1,s1,k1,r1⟩:=k.freezeA hi
  have e:(R ++ (c :: r).map (fun c=>Slot.ownA c.1 (.lst c.2)) ++ T).set R.length .any=(R ++ [.any]) ++ r.map (fun c=>Slot.ownA c.1 (.lst c.2)) ++ T:=by
   simp [List.set_append_right]
  rw [e] at k1
  obtain ⟨G2,s2,k2,r2⟩:=Ok.freezeN r (R ++ [.any]) T G1 k1
  refine ⟨G2,s1.trans s2,?_,fun d hd=>?_⟩
  ·have e2:(R ++ [Slot.any]) ++ List.replicate r.length Slot.any ++ T=R ++ List.replicate (c :: r).length Slot.any ++ T:=by
    rw [List.length_cons,List.replicate_succ]; simp
   rw [e2] at k2; exact k2
  ·rcases List.mem_cons.mp hd with e | hd
   ·subst e; exact r1.mono s2
   ·exact r2 d hd
theorem Ok.thaw {g:Gm} {G H:Hp} {σ:St} {cs:List (Addr × List D)} {R T:Evt} {i:Nat} (k:Ok K g G H σ (R ++ cs.map (fun c=>Slot.ownA c.1 (.lst c.2)) ++ T)) (hi:R[i]? = some (.val (.lst (cs.map fun c=>D.adr c.1)))) :
  ∃ G',Same G G' /\ Ok K g G' H σ (R.set i (.val (.lst (cs.map fun c=>D.lst c.2))) ++ List.replicate cs.length .any ++ T):=by
 have hlt:i < R.length:=(List.getElem?_eq_some_iff.mp hi).1
 obtain ⟨v,h1,h2⟩:=k.val i _ (by rw [List.append_assoc,List.getElem?_append_left hlt]; exact hi)
 obtain ⟨G1,s1,k1,r1⟩:=Ok.freezeN cs R T G k
 refine ⟨G1,s1,?_⟩
 have rr:Rep K G1 v (.lst (cs.map fun c=>D.lst c.2)):=by
  cases h2 with
  | lst ha rs=>
   refine .lst (s1 _ _ ha) ?_
   have key:∀ (l:List (Addr × List D)) (vs:List V),(∀ c ∈ l,Rep K G1 (.ref c.1) (.lst c.2))->Reps K G vs (l.map fun c=>D.adr c.1)->Reps K G1 vs (l.map fun c=>D.lst c.2):=by
    intro l
    induction l with
    | nil=>intro vs _ h; cases h; exact .nil
    | cons c r ih=>
     intro vs hc h
     cases h with
     | cons h1 h2=>
      cases h1
      exact .cons (hc c List.mem_cons_self) (ih _ (fun d hd=>hc d (List.mem_cons_of_mem _ hd)) h2)
   exact key cs _ r1 rs
 have k2:=k1.setVal' i rr
 have e1:σ.set i (some v) = σ:=by
  apply List.ext_getElem?
  intro j
  by_cases hj:j=i
  ·subst hj; rw [List.getElem?_set_self (by obtain ⟨z,_⟩:=List.getElem?_eq_some_iff.mp h1; exact z),h1]
  ·rw [List.getElem?_set_ne (Ne.symm hj)]
 rw [e1] at k2
 have e2:(R ++ List.replicate cs.length Slot.any ++ T).set i (.val (.lst (cs.map fun c=>D.lst c.2)))=R.set i (.val (.lst (cs.map fun c=>D.lst c.2))) ++ List.replicate cs.length Slot.any ++ T:=by
  rw [List.append_assoc,List.append_assoc,List.set_append_left _ _ hlt]
 rw [e2] at k2
 exact k2
end
end L2
set_option Elab.async false
set_option linter.all false
set_option maxRecDepth 100000
namespace L2
open PySem PySem.Spec PyProof.Rows
section
variable {X:Cx} (K:PySem.W.Frag)
theorem ixK (hu:X.A.units + 1 < cLine) (hK:X.K=K:=by rfl):IxR X (rIxU K):=hK ▸ ixU hu
theorem slK (hK:X.K=K:=by rfl):SlR X (rSlU K):=hK ▸ slU
theorem addK (hK:X.K=K:=by rfl):OpR X (binaryOp .Add) (rAddU K):=hK ▸ Zmi
theorem lenK (hK:X.K=K:=by rfl):CallR X (.builtin "len") (rLenU K):=hK ▸ Zjd
def rTup (K:PySem.W.Frag):List V->Hp->VK->Prop:=fun xs H Q=>∃ p ys,xs=[.ref p]/\((SqL K H p ys/\∀ l,H l=none->Q (.ref l) (upd H l (.tup ys)))\/(SqT K H p ys/\Q (.ref p) H))
theorem tupK (hK:X.K=K:=by rfl):CallR X (.type "tuple") (rTup K):=hK ▸ Zfa
def rLst (K:PySem.W.Frag):List V->Hp->VK->Prop:=fun xs H Q=>∃ p ys,xs=[.ref p]/\(SqL K H p ys\/SqT K H p ys)/\∀ l,H l=none->Q (.ref l) (upd H l (.lst ys))
theorem seqK {tg l:Expr} {tl:TE} (hl:PE X l tl) (hK:X.K=K:=by rfl):PI X tg l (iSeq K tl):=hK ▸ Zpm hl
theorem truK {a:Expr} {ta:TE} (ha:PE X a ta) (he:∀ whole,isTrue a X.env whole=(do let v ← whole; standAt a.pos; holding [v] (truthy v))) (hK:X.K=K:=by rfl):PT X a (tTru K ta):=hK ▸ Zoi ha he
theorem gtupK {es:List Expr} {k:Nat} {t:TGs} {n:Nat} {pos:Pos} (hc:X.calm=true) (h:PGs X es t)
  (hn:(assignEach es X.env).length=n:=by rfl) (hst:(assignEach es X.env).findIdx? (·.1)=none:=by rfl) (hK:X.K=K:=by rfl):PG X (.Tuple es k pos) (gTup K n t):=hK ▸ Zor hc h hn hst
variable {o e:Expr} {es:List Expr} {to:TE} {t:TA} {name:Str} {apos cpos:Pos} {T id:String} {r:V->List V->Hp->VK->Prop}
theorem bmK (pa:PlainAttrs T) (slot:PySem.Slot T name id) (hty:typeOf (.builtin id)=pure (.type "method_descriptor")) (hm:MtR X id r) (ho:PE X o to) (ha:PA X (e :: es) t)
  (hbase:attributeBase o name X.env (eval o X.env)=eval o X.env:=by rfl)
  (hfew:((backTo cpos (starEach (e :: es) X.env)).all (fun x=>!x.1) && (backToKw cpos (keywordEach [] X.env)).all (fun x=>x.1.isSome)
   && decide ((e :: es).length + ([]:List Keyword).length + (if ([]:List Keyword).isEmpty then 0 else 1) < 30))=true:=by rfl)
  (hline:(apos.endLine == cpos.line)=true:=by rfl) (hs:starEach (e :: es) X.env=(false,eval e X.env) :: starEach es X.env:=by rfl) (hplain:(backTo cpos (starEach es X.env)).any (·.1)=false:=by rfl) (hK:X.K=K:=by rfl) :
  PE X (.Call (.Attribute o name apos) (e :: es) [] cpos) (tBM K T r to t):=hK ▸ Zp5 pa slot hty hm ho ha hbase hfew hline hs hplain
end
section
variable {K:PySem.W.Frag} {Δ:Evt} {P:D->Evt->Prop}
theorem Zc5 {ds es:List D} (he:ds=[.lst es]\/ds=[.tup es]) (p:P (.tup es) Δ):JC K (rTup K) ds Δ P:=Zlk he p
theorem Zl6 {ds es:List D} (he:ds=[.lst es]\/ds=[.tup es]) (p:P (.lst es) Δ):JC K (rLst K) ds Δ P:=fun g G H σ Q vs k rs c=>by
 rcases he with he | he <;> subst he
 ·obtain ⟨_,_,rfl,r,t⟩:=rs.inv
  next=>
   cases t.inv
   obtain ⟨_,_,rfl,ha,rs⟩:=r.inv
   next=>
    refine ⟨_,_,rfl,.inl (SqL.of (k.live _ _ ha)),fun l hl=>?_⟩
    obtain ⟨k2,sg⟩:=k.laid hl (.lst _)
    exact c _ _ _ _ Δ k2 sg (.lst Zal (rs.mono sg)) p
 ·obtain ⟨_,_,rfl,r,t⟩:=rs.inv
  next=>
   cases t.inv
   obtain ⟨_,_,rfl,ha,rs⟩:=r.inv
   next=>
    refine ⟨_,_,rfl,.inr (SqT.of (k.live _ _ ha)),fun l hl=>?_⟩
    obtain ⟨k2,sg⟩:=k.laid hl (.lst _)
    exact c _ _ _ _ Δ k2 sg (.lst Zal (rs.mono sg)) p
theorem Zlp {sel:List Nat} {wi:TI} {tc:TT} {te:TE} {Po:List OD->Evt->Prop} (hsel:sel.Nodup)
  (h:JI K wi Δ fun ds Δ1=>ds.length < sizeLine/\∃ (p:D->Bool) (f:D->OD),
   (∀ (i:Nat) d,ds[i]? = some d->JT K tc (.val d :: fixD sel Δ1) fun b Δ4=>b=p d/\if b=true then JO K te Δ4 fun e Δ5=>e=f d/\∃ x,Δ5=x :: fixD sel Δ1 else ∃ x,Δ4=x :: fixD sel Δ1) ∧
   Po ((ds.filter p).map f) Δ1):JN K (tComp 1 sel wi (gName 0) tc te) Δ Po:=by
 refine Znk hsel fun g G H σ R k c=>h g G H σ R k fun J ds G' H' Δ' k' s' it ⟨z,p,f,ht,he⟩=>c J ds G' H' Δ' k' s' it ⟨z,fun i ys Δ=>ys=((ds.take i).filter p).map f/\∃ x,Δ = x :: fixD sel Δ',⟨by simp,.any,rfl⟩,?_,?_⟩
 ·rintro i d ys Δ2 hd ⟨rfl,x,rfl⟩
  have tk:ds.take (i + 1)=ds.take i ++ [d]:=by
   rw [List.take_add_one,hd]; rfl
  refine Zd1 (by decide) ?_
  intro g G H σ Q k c
  refine ht i d hd g G H σ Q k fun b G1 H1 Δ1 k1 s1 ⟨e1,q⟩=>c b G1 H1 Δ1 k1 s1 ?_
  cases b with
  | true=>
   rw [if_pos rfl] at q ⊢
   intro g G H σ Q k c
   refine q g G H σ Q k fun a od G2 H2 Δ2 k2 s2 pd ⟨e2,x,e3⟩=>c a od G2 H2 Δ2 k2 s2 pd ⟨?_,x,e3⟩
   rw [tk,List.filter_append,List.map_append,List.filter_cons,<- e1,e2]
   rfl
  | false=>
   rw [if_neg Bool.false_ne_true] at q ⊢
   obtain ⟨x,e3⟩:=q
   refine ⟨?_,x,e3⟩
   rw [tk,List.filter_append,List.map_append,List.filter_cons,<- e1]
   simp
 ·rintro ys Δ2 ⟨rfl,x,rfl⟩
  rw [List.take_length,show (x :: fixD sel Δ')=[x] ++ fixD sel Δ' from rfl,Zco (by simp)]
  exact he
end
end L2
set_option Elab.async false
set_option linter.all false
set_option maxRecDepth 100000
namespace L2
open PySem PySem.Spec PyProof.Rows
def fLaw:DSp:=fun ds Post=>∃ ns:List Int,ds=[.scr (ns.map .int)]/\ns.length<=63/\Post (.bl true)
def spLaw (K:PySem.W.Frag):Sp:=fun vs H Q _=>∃ (a:Addr) (ns:List Int),vs=[.ref a]/\SqL K H a (ns.map V.int)/\ns.length<=63/\∀ H',Q (.bl true) H'
theorem Zli {K:PySem.W.Frag} {vs:List V} {H:Hp} {Q:VK} {E:XK} (h:spLaw K vs H Q E):spD K fLaw vs H Q E:=by
 obtain ⟨a,ns,rfl,hs,hl,q⟩:=h
 refine ⟨H,[.scr (ns.map .int)],fun d=>d=.bl true,Same.refl _,.cons (.scr hs (Reps.ofInts ns)) .nil,⟨ns,rfl,hl,rfl⟩,fun r H' d sh rr e=>?_⟩
 subst e
 cases rr.inv
 exact q H'
theorem walk_law {l:PySem.W.OpenLaw} {q:Program} {loose:List Str} {XP:(Str->Option Value)->Heap->Prop} {YP:World->Heap->Prop} {d:DefRec} {K:Params->PySem.W.Frag} {k:Nat} {x:Str} (hk:Room k callerA) (hn:l.most=some 63) (hdf:d.params.defaults=[])
  (hY:∀ (w:World) (h:Heap),YP w h->(K w.params).In h)
  (F:∀ (w:World) (mg:Str->Option Value) (fa:Addr) (h:Heap),(K w.params).In h->h.Ns mainGlobals mg->mg d.name=some (.ref fa) →
   ∃ fd:FuncData,(∀ (s:Shared) (u:Value),BindsTo s fd ⟨[u],[]⟩ [(x,u)])/\∀ base:Heap,(K w.params).In base->base.Ns mainGlobals mg->FnOk l.prog w (K w.params) mg base CX0 k fa fd [x] (spD (K w.params) fLaw)) :
  PySem.W.WalkO q loose XP YP l.row.toRowW d [] (fun f vs=>PySem.call f vs):=
 L2.walk_of (n:=63) (k:=k) (x:=x) (CX:=fun _=>CX0) (sp:=fun w=>spLaw (K w.params)) hn (by decide) hdf hk hY
  (fun w mg fa h h1 h2 h3=>by
   obtain ⟨fd,b,f⟩:=F w mg fa h h1 h2 h3
   exact ⟨fd,b,fun base kb nb=>(f base kb nb).imp fun vs H Q E z=>Zli z⟩)
  (fun _ _ a ns hl _ hS=>⟨a,ns,rfl,hS,hl,fun _=>rfl⟩) fun _ _ _ _ _ z=>z
end L2
set_option Elab.async false
set_option linter.all false
set_option maxRecDepth 100000
namespace L2
open PySem PySem.Spec PyProof.Rows
def SqB (b:Bool) (K:PySem.W.Frag) (H:Hp) (a:Addr) (xs:List V):Prop:=match b with | true=>SqT K H a xs | false=>SqL K H a xs
def ItB (b:Bool) (h:Heap) (j a:Addr) (i:Nat):Prop:=match b with | true=>h.IsTupleIter j a i | false=>h.IsListIter j a i
def HsB (b:Bool) (h:Heap) (a:Addr) (ws:Array Value):Prop:=match b with | true=>h.IsTuple a ws | false=>h.IsList a ws
theorem ItB.at {b:Bool} {h h':Heap} {j a:Addr} {i:Nat} (x:ItB b h j a i) (e:∀ o,h.get? j=some o->h'.get? j=some o):ItB b h' j a i:=by
 cases b
 ·exact Heap.IsListIter.at (show h.IsListIter j a i from x) e
 ·exact Heap.IsTupleIter.at (show h.IsTupleIter j a i from x) e
theorem ItB.off {b:Bool} {h h':Heap} {j a c:Addr} {i:Nat} (x:ItB b h j a i) (e:Heap.ExtBut c h h') (n:j ≠ c):ItB b h' j a i:=x.at fun o q=>e j o n q
theorem ItB.obj {b:Bool} {h:Heap} {j a:Addr} {i:Nat} (x:ItB b h j a i):∃ o,h.get? j=some o/\o.data=.fields #[.ref a,.int i 0]:=by
 cases b <;> (obtain ⟨o,e,_,d⟩:=x; exact ⟨o,e,d⟩)
theorem HsB.off {b:Bool} {h h':Heap} {a c:Addr} {ws:Array Value} (x:HsB b h a ws) (e:Heap.ExtBut c h h') (n:a ≠ c):HsB b h' a ws:=by
 cases b <;> (obtain ⟨o,q,r⟩:=x; exact ⟨o,e a o n q,r⟩)
theorem HsB.lt {b:Bool} {h:Heap} {a:Addr} {ws:Array Value} (x:HsB b h a ws):a < h.objs.size:=by
 cases b <;> (obtain ⟨o,q,r⟩:=x; exact Heap.lt_size q)
theorem Inv.seqB {X:Cx} {pins:List (Addr × Obj)} {σ:St} {H:Hp} {s:Shared} {b:Bool} {a:Addr} {xs:List V} (I:Inv X pins σ H s) (h:SqB b X.K H a xs):∃ its:List Value,Vals xs its/\HsB b s.heap a its.toArray:=by
 cases b
 ·obtain ⟨its,r,p,_⟩:=I.list h
  exact ⟨its,r,p.isList⟩
 ·obtain ⟨its,r,p,_⟩:=I.tuple h
  exact ⟨its,r,p⟩
theorem Inv.seqB_inj {X:Cx} {pins:List (Addr × Obj)} {σ:St} {H:Hp} {s:Shared} {b:Bool} {a:Addr} {xs ys:List V} (I:Inv X pins σ H s) (h:SqB b X.K H a xs) (h':SqB b X.K H a ys):xs=ys:=by
 cases b
 ·exact I.list_inj h h'
 ·exact I.tuple_inj h h'
section
variable {prog:Program} {w:World} {A:Around} {E:Value->Shared->Prop} {s:Shared}
theorem Zdu {b:Bool} {j a:Addr} {i:Nat} {ws:Array Value} {x:Value} {Q:Value->Shared->Prop} (g:ItB b s.heap j a i) (l:HsB b s.heap a ws) (e:ws[i]? = some x)
  (q:∀ h',ItB b h' j a (i + 1)->Heap.SameBut j s.heap h' -> Q x { s with heap:=h' }):wpAny (model prog w) A (Builtin.SmallTypes.nextOf (.ref j)) Q E s:=by
 cases b
 ·exact wpAny_nextOf_list_item g l e q
 ·obtain ⟨o,g1,g2,g3⟩:=id g
  obtain ⟨u,l1,_,n,l2⟩:=l
  have ty:s.TypeIs (.ref j) "tuple_iterator":=⟨o,g1,g2⟩
  unfold Builtin.SmallTypes.nextOf
  refine wpAny_bind (wpAny_callSpecial?_slot (name:=Str.ofString "__next__") ty F.slot_tuple_iterator_next (wpAny_call_entry F.slot_tuple_iterator_next ty F.entry_tuple_iterator_next ?_ (F.args_tuple_iterator_next_1 _)))
  refine (show wpAny _ _ (field (.ref j) 0 >>= _) _ _ s from wpAny_bind (wpAny_field g1 g3 (x:=.ref a) rfl ?_))
  refine (show wpAny _ _ (if (Value.ref a == Value.none)=true then _ else _) _ _ s from ?_)
  rw [if_neg (by exact Bool.false_ne_true)]
  refine (show wpAny _ _ (field (.ref j) 1 >>= _) _ _ s from wpAny_bind (wpAny_field g1 g3 (x:=.int i 0) rfl ?_))
  refine (show wpAny _ _ (seqItems? (.ref a) >>= _) _ _ s from wpAny_bind (wpAny_seqItems l1 l2 ?_))
  simp only [Int.toNat_natCast,e]
  refine wpAny_bind (wpAny_setField g1 g3 (by simp) (wpAny_pure ⟨x,rfl,wpAny_pure (q _ ⟨_,Heap.get?_update_self _ g1 (Obj.isFreed_of_fields (Obj.data_mapFields g3 _)),(Obj.cls_mapFields ..).trans g2,?_⟩ (Heap.SameBut.update ..))⟩))
  rw [Obj.data_mapFields g3]; simp [rawInt]
theorem Zhm {b:Bool} {j a:Addr} {i:Nat} {ws:Array Value} {Q:Value->Shared->Prop} (hh:A.handled=none) (g:ItB b s.heap j a i) (l:HsB b s.heap a ws) (e:ws[i]? = none)
  (q:∀ h' x,Heap.ExtBut j s.heap h' -> (∃ o,h'.get? x=some o/\o.cls=.type "StopIteration")->E (.ref x) { s with heap:=h' }):wpAny (model prog w) A (Builtin.SmallTypes.nextOf (.ref j)) Q E s:=by
 cases b
 ·exact wpAny_nextOf_list_end hh g l e q
 ·obtain ⟨o,g1,g2,g3⟩:=id g
  obtain ⟨u,l1,_,n,l2⟩:=l
  have ty:s.TypeIs (.ref j) "tuple_iterator":=⟨o,g1,g2⟩
  unfold Builtin.SmallTypes.nextOf
  refine wpAny_bind (wpAny_callSpecial?_slot (name:=Str.ofString "__next__") ty F.slot_tuple_iterator_next (wpAny_call_entry F.slot_tuple_iterator_next ty F.entry_tuple_iterator_next ?_ (F.args_tuple_iterator_next_1 _)))
  refine (show wpAny _ _ (field (.ref j) 0 >>= _) _ _ s from wpAny_bind (wpAny_field g1 g3 (x:=.ref a) rfl ?_))
  refine (show wpAny _ _ (if (Value.ref a == Value.none)=true then _ else _) _ _ s from ?_)
  rw [if_neg (by exact Bool.false_ne_true)]
  refine (show wpAny _ _ (field (.ref j) 1 >>= _) _ _ s from wpAny_bind (wpAny_field g1 g3 (x:=.int i 0) rfl ?_))
  refine (show wpAny _ _ (seqItems? (.ref a) >>= _) _ _ s from wpAny_bind (wpAny_seqItems l1 l2 ?_))
  simp only [Int.toNat_natCast,e]
  refine wpAny_bind (wpAny_rule (wpAny_bind (wpAny_setField g1 g3 (by simp) (show wpAny _ _ (newExc (.type "StopIteration") [] >>= _) _ _ _ from wpAny_bind ?_))))
  simp only [newExc,newTuple]
  refine wpAny_bind (wpAny_newObj_type (wpAny_bind (m:=firstArgMember _ _) (wpAny_of_eq (a:=Value.none) (by first | rfl | (simp only [firstArgMember]; rfl)) (wpAny_newObj_type ?_ (by size_fits)))) (by size_fits))
  simp only [raiseNew]
  refine wpAny_bind (wpAny_handled ?_)
  first | rw [show A.in1.handled=none from hh] | rw [hh]
  exact wpAny_bind (wpAny_pure (wpAny_throw (q _ _ (((Heap.SameBut.update ..).extBut.push _).push _) ⟨_,Heap.get?_push_size _ rfl,rfl⟩)))
theorem Zmk {b c:Bool} {z U O j1 j2 a1 a2:Addr} {k1 k2:Nat} {vs us:Array Value} {x y p r:Value} {Q:Option Value->Shared->Prop} (D:ZipApart z U O j1 j2 a1 a2)
  (gz:IsZip s.heap z U O .none) (gU:IsPair s.heap U (.ref j1) (.ref j2)) (gO:IsPair s.heap O p r) (g1:ItB b s.heap j1 a1 k1) (g2:ItB c s.heap j2 a2 k2) (l1:HsB b s.heap a1 vs) (l2:HsB c s.heap a2 us) (ex:vs[k1]? = some x) (ey:us[k2]? = some y)
  (q:∀ h',IsZip h' z U O (rawInt s.heap.objs.size)->IsPair h' O x y->ItB b h' j1 a1 (k1 + 1)->ItB c h' j2 a2 (k2 + 1)->IsPair h' s.heap.objs.size x y->h'.objs.size=s.heap.objs.size + 1 →
   (∀ d o,d ≠ z->d ≠ O->d ≠ j1->d ≠ j2->s.heap.get? d=some o->h'.get? d=some o)->Q (some (.ref s.heap.objs.size)) { s with heap:=h' }):wpAny (model prog w) A (pyNext (.ref z)) Q E s:=by
 have ty:s.TypeIs (.ref z) "zip":=⟨_,gz,rfl⟩
 unfold pyNext
 refine wpAny_bind (wpAny_attempt (wpAny_callSpecial?_slot (name:=Str.ofString "__next__") ty F.slot_zip_next (wpAny_call_entry F.slot_zip_next ty F.entry_zip_next ?_ (F.args_zip_next_1 _))))
 refine (show wpAny _ _ (field (.ref z) 2 >>= _) _ _ _ from wpAny_bind (wpAny_field gz rfl (x:=.bool false) rfl ?_))
 refine (show wpAny _ _ (field (.ref z) 3 >>= _) _ _ _ from wpAny_bind (wpAny_field gz rfl (x:=.ref U) rfl (wpAny_bind (wpAny_seqItems gU rfl ?_))))
 refine (show wpAny _ _ (Builtin.SmallTypes.ownedTupleIsFree (.ref z) >>= _) _ _ _ from wpAny_bind ?_)
 unfold Builtin.SmallTypes.ownedTupleIsFree
 refine wpAny_bind (wpAny_field gz rfl (x:=.none) rfl (wpAny_pure ?_))
 simp only [if_true]
 refine wpAny_bind (wpAny_rule (wpAny_bind (wpAny_field gz rfl (x:=.ref O) rfl (wpAny_bind (wpAny_setField_rec gz (by simp) fun h₁ z₁ s₁=>wpAny_bind ?_)))))
 replace z₁:IsZip h₁ z U O .ellipsis:=z₁
 simp only [List.zipIdx_cons,List.zipIdx_nil,List.forIn_cons,List.forIn_nil]
 refine wpAny_bind (wpAny_bind (wpAny_onRaise (show wpAny _ _ (Builtin.SmallTypes.nextOf (.ref j1) >>= _) _ _ _ from wpAny_bind (Zdu (g1.off s₁.extBut D.i1z) (l1.off s₁.extBut D.l1z) ex fun h₂ g₂ s₂=>wpAny_pure ?_))))
 have o₂:IsPair h₂ O p r:=s₂.extBut _ _ D.TOi1 (s₁.extBut _ _ D.TOz gO)
 refine wpAny_bind (wpAny_seqItems o₂ rfl (wpAny_bind (wpAny_updateSeq_pair o₂ fun h₃ o₃ s₃=>wpAny_bind (wpAny_letGo (wpAny_pure ?_)))))
 replace o₃:IsPair h₃ O x r:=o₃
 refine wpAny_bind (wpAny_bind (wpAny_onRaise (show wpAny _ _ (Builtin.SmallTypes.nextOf (.ref j2) >>= _) _ _ _ from wpAny_bind (Zdu (((g2.off s₁.extBut D.i2z).off s₂.extBut D.i12.symm).off s₃.extBut D.TOi2.symm) (((l2.off s₁.extBut D.l2z).off s₂.extBut D.l2i1).off s₃.extBut D.l2TO) ey fun h₄ g₄ s₄=>wpAny_pure ?_))))
 have o₄:IsPair h₄ O x r:=s₄.extBut _ _ D.TOi2 o₃
 refine wpAny_bind (wpAny_seqItems o₄ rfl (wpAny_bind (wpAny_updateSeq_pair o₄ fun h₅ o₅ s₅=>wpAny_bind (wpAny_letGo (wpAny_pure (wpAny_pure ?_))))))
 replace o₅:IsPair h₅ O x y:=o₅
 refine wpAny_bind (wpAny_seqItems o₅ rfl (wpAny_bind (wpAny_newTuple ?_)))
 have n5:h₅.objs.size=s.heap.objs.size:=by rw [s₅.1,s₄.1,s₃.1,s₂.1,s₁.1]
 have z₅:IsZip h₅ z U O .ellipsis:=s₅.extBut _ _ D.TOz.symm (s₄.extBut _ _ D.i2z.symm (s₃.extBut _ _ D.TOz.symm (s₂.extBut _ _ D.i1z.symm z₁)))
 have old:∀ d o,d ≠ z->d ≠ O->d ≠ j1->d ≠ j2->s.heap.get? d=some o->h₅.get? d=some o:=fun d o c1 c2 c3 c4 e=>s₅.extBut _ _ c2 (s₄.extBut _ _ c4 (s₃.extBut _ _ c2 (s₂.extBut _ _ c3 (s₁.extBut _ _ c1 e))))
 have t1:ItB b h₅ j1 a1 (k1 + 1):=((g₂.off s₃.extBut D.TOi1.symm).off s₄.extBut D.i12).off s₅.extBut D.TOi1.symm
 have t2:ItB c h₅ j2 a2 (k2 + 1):=g₄.off s₅.extBut D.TOi2.symm
 have zl:z < h₅.objs.size:=Heap.lt_size z₅
 refine (show wpAny _ _ (Builtin.SmallTypes.ownedTupleHandOut (.ref z) (.ref h₅.objs.size) >>= _) _ _ _ from wpAny_bind ?_)
 unfold Builtin.SmallTypes.ownedTupleHandOut
 have z₆:IsZip (h₅.push { cls:=.type "tuple",data:=.seq #[x,y] }) z U O .ellipsis:=Heap.get?_push_of_some _ z₅
 refine wpAny_bind (wpAny_setField_rec z₆ (by simp) fun h₇ z₇ s₇=>?_)
 replace z₇:IsZip h₇ z U O (rawInt h₅.objs.size):=z₇
 refine wpAny_setField_rec z₇ (by simp) fun h₈ z₈ s₈=>?_
 replace z₈:IsZip h₈ z U O (rawInt h₅.objs.size):=z₈
 have up:∀ d o,d ≠ z->h₅.get? d=some o->h₈.get? d=some o:=fun d o c1 e=>s₈.extBut _ _ c1 (s₇.extBut _ _ c1 (Heap.get?_push_of_some _ e))
 have new8:IsPair h₈ h₅.objs.size x y:=s₈.extBut _ _ (Nat.ne_of_gt zl) (s₇.extBut _ _ (Nat.ne_of_gt zl) (Heap.get?_push_size _ rfl))
 have n8:h₈.objs.size=h₅.objs.size + 1:=by rw [s₈.1,s₇.1,Heap.size_push]
 rw [n5] at z₈ new8 n8
 refine wpAny_pure ⟨_,rfl,wpAny_pure ?_⟩
 refine (show Q (some (.ref h₅.objs.size)) _ from ?_)
 rw [n5]
 exact q h₈ z₈ (up _ _ D.TOz o₅) (t1.at fun o e=>up _ o D.i1z e) (t2.at fun o e=>up _ o D.i2z e) new8 n8 fun d o c1 c2 c3 c4 e=>up d o c1 (old d o c1 c2 c3 c4 e)
theorem Zot {b c:Bool} {z U O j1 j2 a1 a2:Addr} {k1 k2:Nat} {vs us:Array Value} {p r:Value} {Q:Option Value->Shared->Prop} (hh:A.handled=none) (D:ZipApart z U O j1 j2 a1 a2)
  (gz:IsZip s.heap z U O .none) (gU:IsPair s.heap U (.ref j1) (.ref j2)) (gO:IsPair s.heap O p r) (g1:ItB b s.heap j1 a1 k1) (g2:ItB c s.heap j2 a2 k2) (l1:HsB b s.heap a1 vs) (l2:HsB c s.heap a2 us) (e:vs[k1]? = none\/us[k2]? = none)
  (q:∀ h',(∀ d o,d ≠ z->d ≠ O->d ≠ j1->d ≠ j2->s.heap.get? d=some o->h'.get? d=some o)->Q none { s with heap:=h' }):wpAny (model prog w) A (pyNext (.ref z)) Q E s:=by
 have ty:s.TypeIs (.ref z) "zip":=⟨_,gz,rfl⟩
 have fin:∀ {h':Heap} {x:Addr},(∀ d o,d ≠ z->d ≠ O->d ≠ j1->d ≠ j2->s.heap.get? d=some o->h'.get? d=some o)->(∃ o,h'.get? x=some o/\o.cls=.type "StopIteration")->wpAny (model prog w) A (do if (← isInstance (.ref x) (.type "StopIteration")) then pure none else throw (.ref x)) Q E { s with heap:=h' }:=fun {h' x} hk ⟨o,ho,hc⟩=>by
  refine wpAny_bind (wpAny_isInstance (T:="StopIteration") (b:=true) ⟨o,ho,hc⟩ isSubtype_stop ?_)
  exact wpAny_pure (q _ hk)
 unfold pyNext
 refine wpAny_bind (wpAny_attempt (wpAny_callSpecial?_slot (name:=Str.ofString "__next__") ty F.slot_zip_next (wpAny_call_entry F.slot_zip_next ty F.entry_zip_next ?_ (F.args_zip_next_1 _))))
 refine (show wpAny _ _ (field (.ref z) 2 >>= _) _ _ _ from wpAny_bind (wpAny_field gz rfl (x:=.bool false) rfl ?_))
 refine (show wpAny _ _ (field (.ref z) 3 >>= _) _ _ _ from wpAny_bind (wpAny_field gz rfl (x:=.ref U) rfl (wpAny_bind (wpAny_seqItems gU rfl ?_))))
 refine (show wpAny _ _ (Builtin.SmallTypes.ownedTupleIsFree (.ref z) >>= _) _ _ _ from wpAny_bind ?_)
 unfold Builtin.SmallTypes.ownedTupleIsFree
 refine wpAny_bind (wpAny_field gz rfl (x:=.none) rfl (wpAny_pure ?_))
 simp only [if_true]
 refine wpAny_bind (wpAny_rule (wpAny_bind (wpAny_field gz rfl (x:=.ref O) rfl (wpAny_bind (wpAny_setField_rec gz (by simp) fun h₁ z₁ s₁=>wpAny_bind ?_)))))
 replace z₁:IsZip h₁ z U O .ellipsis:=z₁
 simp only [List.zipIdx_cons,List.zipIdx_nil,List.forIn_cons,List.forIn_nil]
 refine wpAny_bind (wpAny_bind (wpAny_onRaise (show wpAny _ _ (Builtin.SmallTypes.nextOf (.ref j1) >>= _) _ _ _ from ?_)))
 cases ex:vs[k1]? with
 | none=>
  refine wpAny_bind (Zhm hh (g1.off s₁.extBut D.i1z) (l1.off s₁.extBut D.l1z) ex fun h₂ y s₂ ⟨u,u1,u2⟩=>?_)
  have z₂:IsZip h₂ z U O .ellipsis:=s₂ _ _ D.i1z.symm z₁
  have yz:y ≠ z:=fun x=>by subst x; rw [z₂] at u1; cases u1; simp at u2
  exact wpAny_setField_rec z₂ (by simp) fun h₃ _ s₃=>fin (fun d o c1 _ c3 _ x=>s₃.extBut _ _ c1 (s₂ _ _ c3 (s₁.extBut _ _ c1 x))) ⟨u,s₃.extBut _ _ yz u1,u2⟩
 | some x=>
  have ey:us[k2]? = none:=by rcases e with h | h; rw [ex] at h; cases h; exact h
  refine wpAny_bind (Zdu (g1.off s₁.extBut D.i1z) (l1.off s₁.extBut D.l1z) ex fun h₂ g₂ s₂=>wpAny_pure ?_)
  have o₂:IsPair h₂ O p r:=s₂.extBut _ _ D.TOi1 (s₁.extBut _ _ D.TOz gO)
  refine wpAny_bind (wpAny_seqItems o₂ rfl (wpAny_bind (wpAny_updateSeq_pair o₂ fun h₃ o₃ s₃=>wpAny_bind (wpAny_letGo (wpAny_pure ?_)))))
  refine wpAny_bind (wpAny_bind (wpAny_onRaise (show wpAny _ _ (Builtin.SmallTypes.nextOf (.ref j2) >>= _) _ _ _ from ?_)))
  refine wpAny_bind (Zhm hh (((g2.off s₁.extBut D.i2z).off s₂.extBut D.i12.symm).off s₃.extBut D.TOi2.symm) (((l2.off s₁.extBut D.l2z).off s₂.extBut D.l2i1).off s₃.extBut D.l2TO) ey fun h₄ y s₄ ⟨u,u1,u2⟩=>?_)
  have z₄:IsZip h₄ z U O .ellipsis:=s₄ _ _ D.i2z.symm (s₃.extBut _ _ D.TOz.symm (s₂.extBut _ _ D.i1z.symm z₁))
  have yz:y ≠ z:=fun x=>by subst x; rw [z₄] at u1; cases u1; simp at u2
  exact wpAny_setField_rec z₄ (by simp) fun h₅ _ s₅=>fin (fun d o c1 c2 c3 c4 x=>s₅.extBut _ _ c1 (s₄ _ _ c4 (s₃.extBut _ _ c2 (s₂.extBut _ _ c3 (s₁.extBut _ _ c1 x))))) ⟨u,s₅.extBut _ _ yz u1,u2⟩
end
section
abbrev zt1 (h:Heap) (a:Addr):Heap:=h.push ⟨.type "tuple_iterator",none,.fields #[.ref a,.int 0 0],#[]⟩
abbrev zt2 (h:Heap) (a c:Addr):Heap:=(zt1 h a).push ⟨.type "tuple_iterator",none,.fields #[.ref c,.int 0 0],#[]⟩
abbrev zt3 (h:Heap) (a c:Addr):Heap:=(zt2 h a c).push ⟨.type "tuple",none,.seq #[.ref h.objs.size,.ref (zt1 h a).objs.size],#[]⟩
abbrev zt4 (h:Heap) (a c:Addr):Heap:=(zt3 h a c).push ⟨.type "tuple",none,.seq #[.none,.none],#[]⟩
abbrev zt5 (h:Heap) (a c:Addr):Heap:=(zt4 h a c).push ⟨.type "zip",none,.fields #[.none,.bool false,.bool false,.ref (zt2 h a c).objs.size,.ref (zt3 h a c).objs.size],#[]⟩
theorem Zkr (a c:Addr) (vs us:Array Value) :
  Meets (Builtin.«zip.__new__» ⟨[.type "zip",.ref a,.ref c],[]⟩) (fun _ R s=>s.heap.IsTuple a vs/\s.heap.IsTuple c us/\R (.ok (.ret (.ref (zt4 s.heap a c).objs.size))) { s with heap:=zt5 s.heap a c }):=.of_wp fun prog w A R s h=>by
 obtain ⟨hp,g,d,tk,os⟩:=s; obtain ⟨u1,u2,h⟩:=h
 have sub0:=sub_zip
 have v1:Heap.IsTuple (Shared.heap ⟨hp,g,d,tk,os⟩) a vs:=u1
 have v2:Heap.IsTuple (Shared.heap ⟨hp.push { cls:=.type "tuple_iterator",data:=.fields #[.ref a,.int 0 0] },g,d,tk,os⟩) c us:=Heap.IsTuple.push u2 _
 wp_walk using wpAny_pyIter_tuple v1,wpAny_pyIter_tuple v2
 exact ⟨_,rfl,h⟩
variable {prog:Program} {w:World} {A:Around} {E:Value->Shared->Prop} {s:Shared}
theorem Zm8 {b:Bool} {a c:Addr} {vs us:Array Value} {Q:Value->Shared->Prop} (l1:HsB b s.heap a vs) (l2:HsB b s.heap c us)
  (q:∀ h',IsZip h' (s.heap.objs.size + 4) (s.heap.objs.size + 2) (s.heap.objs.size + 3) .none->IsPair h' (s.heap.objs.size + 2) (.ref s.heap.objs.size) (.ref (s.heap.objs.size + 1))->IsPair h' (s.heap.objs.size + 3) .none .none →
   ItB b h' s.heap.objs.size a 0->ItB b h' (s.heap.objs.size + 1) c 0->(∀ d o,s.heap.get? d=some o->h'.get? d=some o)->Q (.ref (s.heap.objs.size + 4)) { s with heap:=h' }):wpAny (model prog w) A (call (.type "zip") [.ref a,.ref c]) Q E s:=by
 cases b
 ·exact call_zip_2 l1 l2 fun h' b1 b2 b3 b4 b5 b6 hk=>q h' b1 b2 b3 b4 b5 hk
 ·refine callType_new F.called_zip (by decide) (F.typeCall_zip_2 _ _) (F.newCall_zip_2 _ _) (fun obj=>F.args_object_init_3 obj _ _) F.entry_zip_new (Zkr a c vs us) ⟨l1,l2,?_⟩
  have z1:(zt1 s.heap a).objs.size=s.heap.objs.size + 1:=Heap.size_push ..
  have z2:(zt2 s.heap a c).objs.size=s.heap.objs.size + 2:=by rw [Heap.size_push,z1]
  have z3:(zt3 s.heap a c).objs.size=s.heap.objs.size + 3:=by rw [Heap.size_push,z2]
  have z4:(zt4 s.heap a c).objs.size=s.heap.objs.size + 4:=by rw [Heap.size_push,z3]
  have p5:(zt5 s.heap a c).get? (zt4 s.heap a c).objs.size=some _:=Heap.get?_push_size _ rfl
  have p4:(zt5 s.heap a c).get? (zt3 s.heap a c).objs.size=some _:=Heap.get?_push_of_some _ (Heap.get?_push_size _ rfl)
  have p3:(zt5 s.heap a c).get? (zt2 s.heap a c).objs.size=some _:=Heap.get?_push_of_some _ (Heap.get?_push_of_some _ (Heap.get?_push_size _ rfl))
  have p2:(zt5 s.heap a c).get? (zt1 s.heap a).objs.size=some _:=Heap.get?_push_of_some _ (Heap.get?_push_of_some _ (Heap.get?_push_of_some _ (Heap.get?_push_size _ rfl)))
  have p1:(zt5 s.heap a c).get? s.heap.objs.size=some _:=Heap.get?_push_of_some _ (Heap.get?_push_of_some _ (Heap.get?_push_of_some _ (Heap.get?_push_of_some _ (Heap.get?_push_size _ rfl))))
  show _/\_
  rw [z2,z3,z4] at p5
  rw [z1,z2] at p3
  rw [z3] at p4
  rw [z1] at p2
  rw [z4]
  exact ⟨⟨_,p5,rfl⟩,q _ p5 p3 p4 ⟨_,p1,rfl,rfl⟩ ⟨_,p2,rfl,rfl⟩ fun d o e=>Heap.get?_push_of_some _ (Heap.get?_push_of_some _ (Heap.get?_push_of_some _ (Heap.get?_push_of_some _ (Heap.get?_push_of_some _ e))))⟩
end
def Izb (b:Bool) (K:PySem.W.Frag) (l1 l2:Addr):It:=
 ⟨fun i H=>∃ xs ys x y,SqB b K H l1 xs/\SqB b K H l2 ys/\xs[i]? = some x/\ys[i]? = some y,
  fun i H v H'=>∃ p x y,H p=none/\v=.ref p/\H' = upd H p (.tup [x,y])/\∀ xs ys,SqB b K H l1 xs->SqB b K H l2 ys->xs[i]? = some x/\ys[i]? = some y,
  fun i H=>∃ xs ys,SqB b K H l1 xs/\SqB b K H l2 ys/\(xs.length<=i\/ys.length<=i)⟩
theorem Znq {b:Bool} {P:Program} {w:World} {K:PySem.W.Frag} {es:List Expr} {kk:Nat} {tp:Pos} (l1 l2 z TI TO i1 i2:Addr) (D:ZipApart z TI TO i1 i2 l1 l2):Turn P w K (.Tuple es kk tp) (Izb b K l1 l2) [z,TI,TO,i1,i2] z
  (fun i h=>IsZip h z TI TO .none/\IsPair h TI (.ref i1) (.ref i2)/\(∃ a b,IsPair h TO a b)/\ItB b h i1 l1 i/\ItB b h i2 l2 i) where
 mem:=by simp
 obj:=fun i h st b2 hb=>by
  obtain ⟨hz,hTI,⟨a,b',hTO⟩,h1,h2⟩:=st
  obtain ⟨o1,e1,d1⟩:=h1.obj
  obtain ⟨o2,e2,d2⟩:=h2.obj
  simp only [List.mem_cons,List.not_mem_nil,or_false] at hb
  rcases hb with rfl | rfl | rfl | rfl | rfl
  ·exact ⟨_,hz,fun v q=>by cases q⟩
  ·exact ⟨_,hTI,fun v q=>by cases q⟩
  ·exact ⟨_,hTO,fun v q=>by cases q⟩
  ·exact ⟨o1,e1,fun v q=>by rw [d1] at q; cases q⟩
  ·exact ⟨o2,e2,fun v q=>by rw [d2] at q; cases q⟩
 keep:=fun i h h' st k=>by
  obtain ⟨hz,hTI,⟨a,b',hTO⟩,h1,h2⟩:=st
  exact ⟨k z (by simp) _ hz,k TI (by simp) _ hTI,⟨a,b',k TO (by simp) _ hTO⟩,h1.at fun o e=>k i1 (by simp) o e,h2.at fun o e=>k i2 (by simp) o e⟩
 item:=by
  intro X hP hw hK hc i pins s σ H E I hf st hg
  subst hP hw hK
  obtain ⟨hz,hTI,⟨a,b',hTO⟩,h1,h2⟩:=st
  obtain ⟨xs,ys,x,y,hq1,hq2,hx,hy⟩:=hg
  obtain ⟨its1,r1,p1⟩:=I.seqB hq1
  obtain ⟨its2,r2,p2⟩:=I.seqB hq2
  obtain ⟨u1,hu1,ru1⟩:=r1.get hx
  obtain ⟨u2,hu2,ru2⟩:=r2.get hy
  refine Zmk D hz hTI hTO h1 h2 p1 p2 (x:=u1) (y:=u2) (by simpa using hu1) (by simpa using hu2) fun h' b1 b2 b3 b4 b5 b6 hk=>?_
  refine ⟨_,rfl,wpAny_letOwnedTupleGo_zip (s:={ s with heap:=h' }) b1 fun h'' hz'' hs''=>?_⟩
  have lt:∀ {c o},s.heap.get? c=some o->c ≠ s.heap.objs.size:=fun e=>Nat.ne_of_lt (Heap.lt_size e)
  have hTz:s.heap.objs.size ≠ z:=Ne.symm (lt hz)
  have hTfree:H s.heap.objs.size=none:=I.hok.fresh (Nat.le_refl _)
  have kept:∀ c o,c ∉ [z,TI,TO,i1,i2]->s.heap.get? c=some o->h''.get? c=some o:=fun c o hc e=>by
   simp only [List.mem_cons,List.not_mem_nil,or_false,not_or] at hc
   exact hs''.extBut _ _ hc.1 (hk c o hc.1 hc.2.2.1 hc.2.2.2.1 hc.2.2.2.2 e)
  have hT:h''.get? s.heap.objs.size=some { cls:=.type "tuple",data:=.seq #[u1,u2] }:=hs''.extBut _ _ hTz b5
  have ntr:∀ c o,H c=some o->c ∉ [z,TI,TO,i1,i2]:=fun c o e hc=>by rw [(hf c hc).1] at e; cases e
  have hok:HOk X.prog X.w (upd H s.heap.objs.size (.tup [x,y])) h'':=fun c o e=>by
   by_cases hcT:c=s.heap.objs.size
   ·subst hcT
    rw [Zal] at e
    cases e
    exact ⟨by show 2<=sizeLine; decide,[u1,u2],.cons ru1 (.cons ru2 .nil),_,hT,⟨rfl,_,rfl⟩,rfl⟩
   ·rw [Zai hcT] at e
    refine (I.hok c o e).stay (fun d v hd q=>kept d v ?_ q) (fun d q=>by rw [Zai (Zah q hTfree)]; exact q) fun d zs q=>by rw [Zai (Zah q hTfree)]; exact q
    rcases hd with hd | hd
    ·rw [hd]; exact ntr c o e
    ·exact ntr d _ hd
  have I2:Inv X pins σ (upd H s.heap.objs.size (.tup [x,y])) { s with heap:=h'' }:=by
   refine I.call (g':=s.gens) (t':=s.toks) (d':=s.drawn) (ch:=[z,TI,TO,i1,i2]) ⟨fun c o e n hc hx=>kept c o hx e,fun c o e n hc hx=>⟨o.slots,kept c o hx e⟩,fun c o e n hx=>by rw [Zai (lt e)]; exact n,fun c o e hx=>⟨o,kept c o hx e⟩,
    fun c zs q=>by rw [Zai (Zah q hTfree)]; exact q,fun c o zs q=>by rw [Zai (Zah q hTfree)]; exact q,fun c zs q=>⟨#[],by rw [Zai (Zah q hTfree),q]; simp⟩⟩ hok I.bare fun c hcc=>?_
   obtain ⟨f0,f1,f2,f3,f4,f5⟩:=hf c hcc
   exact ⟨f3,f1,f4,f5⟩
  refine ⟨.ref s.heap.objs.size,_,I2,rfl,⟨s.heap.objs.size,x,y,hTfree,rfl,rfl,fun xs' ys' q1 q2=>?_⟩,⟨hz'',hs''.extBut _ _ D.TIz (hk _ _ D.TIz D.TITO D.TIi1 D.TIi2 hTI),⟨_,_,hs''.extBut _ _ D.TOz b2⟩,b3.off hs''.extBut D.i1z,b4.off hs''.extBut D.i2z⟩,fun c hcc=>?_⟩
  ·rw [I.seqB_inj q1 hq1,I.seqB_inj q2 hq2]; exact ⟨hx,hy⟩
  ·have hcl:c ≠ s.heap.objs.size:=by
    simp only [List.mem_cons,List.not_mem_nil,or_false] at hcc
    obtain ⟨_,e1,_⟩:=h1.obj
    obtain ⟨_,e2,_⟩:=h2.obj
    rcases hcc with rfl | rfl | rfl | rfl | rfl
    ·exact lt hz
    ·exact lt hTI
    ·exact lt hTO
    ·exact lt e1
    ·exact lt e2
   rw [Zai hcl]; exact (hf c hcc).1
 done:=by
  intro X hP hw hK hc i pins s σ H E I hf st hg
  subst hP hw hK
  obtain ⟨hz,hTI,⟨a,b',hTO⟩,h1,h2⟩:=st
  obtain ⟨xs,ys,hq1,hq2,hend⟩:=hg
  obtain ⟨its1,r1,p1⟩:=I.seqB hq1
  obtain ⟨its2,r2,p2⟩:=I.seqB hq2
  have l1':=r1.length
  have l2':=r2.length
  refine Zot (I.ok.hd hc) D hz hTI hTO h1 h2 p1 p2 ?_ fun h' hk=>⟨rfl,?_⟩
  ·rcases hend with q | q
   ·left; simp; omega
   ·right; simp; omega
  ·have kept:∀ c o,c ∉ [z,TI,TO,i1,i2]->s.heap.get? c=some o->h'.get? c=some o:=fun c o hc e=>by
    simp only [List.mem_cons,List.not_mem_nil,or_false,not_or] at hc
    exact hk c o hc.1 hc.2.2.1 hc.2.2.2.1 hc.2.2.2.2 e
   have ntr:∀ c o,H c=some o->c ∉ [z,TI,TO,i1,i2]:=fun c o e hc=>by rw [(hf c hc).1] at e; cases e
   refine I.call (g':=s.gens) (t':=s.toks) (d':=s.drawn) (ch:=[z,TI,TO,i1,i2]) ⟨fun c o e n hc hx=>kept c o hx e,fun c o e n hc hx=>⟨o.slots,kept c o hx e⟩,fun c o e n hx=>n,fun c o e hx=>⟨o,kept c o hx e⟩,
    fun c zs q=>q,fun c o zs q=>q,fun c zs q=>⟨#[],by rw [q]; simp⟩⟩ (fun c o e=>?_) I.bare fun c hcc=>?_
   ·refine (I.hok c o e).stay (fun d v hd q=>kept d v ?_ q) (fun d q=>q) fun d zs q=>q
    rcases hd with hd | hd
    ·rw [hd]; exact ntr c o e
    ·exact ntr d _ hd
   ·obtain ⟨f0,f1,f2,f3,f4,f5⟩:=hf c hcc
    exact ⟨f3,f1,f4,f5⟩
 self:=fun _ _ _ _ _ st h=>wpAny_pyIter_zip st.1 h
section
variable {X:Cx}
def iZip (K:PySem.W.Frag) (ta:TA):TI:=fun σ H R=>ta σ H fun vs H1=>∃ b l1 l2,vs=[.ref l1,.ref l2]/\(∃ xs,SqB b K H1 l1 xs)/\(∃ ys,SqB b K H1 l2 ys)/\R (Izb b K l1 l2) H1
theorem Zo9 (K:PySem.W.Frag) {es:List Expr} {kk:Nat} {tp:Pos} {a b:Expr} {ta:TA} {p pos:Pos} (hg:Gl X "zip") (hm:X.mg "zip" = none) (ha:PA X [a,b] ta) (hs:starEach [a,b] X.env=[(false,eval a X.env),(false,eval b X.env)]:=by rfl) (hs2:starEach [b] X.env=[(false,eval b X.env)]:=by rfl) (hK:X.K=K:=by rfl) :
  PI X (.Tuple es kk tp) (.Call (.Name "zip" p) [a,b] [] pos) (iZip K ta):=by
 subst hK
 intro pins s σ H R I h
 refine Call_ (Zd0 I hg hm (Zpk) (PyProof.Rows.callWith_type1 (thn (ha pos pins s σ H _ I h) fun us s1 ⟨vs,H1,I1,r1,q1⟩=>?_) (by rw [hs,hs2]) (by rw [hs2]; rfl)))
 obtain ⟨b,l1,l2,e,⟨xs,hx⟩,⟨ys,hy⟩,q⟩:=q1
 subst e
 obtain ⟨u1,u2,rfl,q1,q2⟩:=r1.two
 cases (show u1=Value.ref l1 from q1)
 cases (show u2=Value.ref l2 from q2)
 obtain ⟨its1,w1,p1⟩:=I1.seqB hx
 obtain ⟨its2,w2,p2⟩:=I1.seqB hy
 have lt1:l1 < s1.heap.objs.size:=p1.lt
 have lt2:l2 < s1.heap.objs.size:=p2.lt
 refine Zm8 p1 p2 fun h' b1 b2 b3 b4 b5 hk=>?_
 refine wpAny_pyIter_zip b1 ?_
 have I2:Inv X pins σ H1 { s1 with heap:=h' }:=I1.kept (t':=s1.toks) hk
 refine ⟨s1.heap.objs.size + 4,[s1.heap.objs.size + 4,s1.heap.objs.size + 2,s1.heap.objs.size + 3,s1.heap.objs.size,s1.heap.objs.size + 1],_,_,H1,rfl,I2,Znq l1 l2 _ _ _ _ _ (zipApart_new lt1 lt2),⟨b1,b2,⟨_,_,b3⟩,b4,b5⟩,fun b hb=>?_,q⟩
 have hge:s1.heap.objs.size<=b:=by
  simp only [List.mem_cons,List.not_mem_nil,or_false] at hb
  rcases hb with rfl | rfl | rfl | rfl | rfl <;> omega
 exact I1.fpOk hge (I1.hok.fresh hge)
end
end L2
set_option Elab.async false
set_option linter.all false
set_option maxRecDepth 100000
namespace L2
open PySem PySem.Spec PyProof.Rows
section
variable {X:Cx}
def rAll (K:PySem.W.Frag):List V->Hp->VK->Prop:=fun xs H Q=>∃ (p:Addr) (bs:List Bool),xs=[.ref p]/\SqL K H p (bs.map V.bl)/\Q (.bl (bs.all id)) H
theorem allK (K:PySem.W.Frag) (hc:X.calm=true) (hK:X.K=K:=by rfl):CallR X (.builtin "all") (rAll K):=by
 subst hK
 intro pins s σ H xs us Q I r h
 obtain ⟨p,bs,rfl,hx,q⟩:=h
 obtain ⟨u,rfl,ru⟩:=vals1 r
 cases (show u=Value.ref p from ru)
 obtain ⟨its,w1,p1,_⟩:=I.list hx
 have hlt:p < s.heap.objs.size:=by obtain ⟨o,e,_⟩:=p1.isList; exact Heap.lt_size e
 have hval:∀ (bs:List Bool) (its:List Value),Vals (bs.map V.bl) its->its=bs.map Value.bool:=by
  intro bs
  induction bs with
  | nil=>intro its h; cases h; rfl
  | cons b r ih=>intro its h; cases h with | cons h1 h2=>cases (show _=Value.bool b from h1); rw [ih _ h2]; rfl
 have e:=hval bs its w1
 subst e
 refine call_all_walk (wpAny_pyIter_list p1.isList ?_)
 refine ⟨s.heap.objs.size,_,_,_,_,_,fun i=>bs.getD i false,rfl,Walks.list (prog:=X.prog) (w:=X.w) (A:=X.A.in1) (show X.A.in1.handled=none from I.ok.hd hc) s.heap.objs.size p (Nat.ne_of_lt hlt) (bs.map Value.bool).toArray,⟨⟨_,Heap.get?_push_size _ rfl,rfl,rfl⟩,p1.isList.push _⟩,?_,fun h' tk hk=>?_⟩
 ·intro i v s0 Q0 E0 hv hq
  have hv:(bs.map Value.bool).toArray[i]? = some v:=hv
  have hv:(bs.map Value.bool)[i]? = some v:=by simpa using hv
  rw [List.getElem?_map] at hv
  cases z:bs[i]? with
  | none=>rw [z] at hv; cases hv
  | some b=>
   rw [z] at hv
   have hv:Value.bool b=v:=by simpa using hv
   subst hv
   have e0:bs.getD i false=b:=by rw [List.getD_eq_getElem?_getD,z]; rfl
   have hq:Q0 (bs.getD i false) s0:=hq
   rw [e0] at hq
   exact wpAny_truthy_bool hq
 ·have e:(List.range (bs.map Value.bool).toArray.size).all (fun i=>bs.getD i false)=bs.all id:=by
   rw [List.size_toArray,List.length_map]
   rw [Bool.eq_iff_iff,List.all_eq_true,List.all_eq_true]
   constructor
   ·intro hh b hb
    obtain ⟨i,hi,rfl⟩:=List.mem_iff_getElem.mp hb
    have:=hh i (List.mem_range.mpr hi)
    rw [List.getD_eq_getElem?_getD,List.getElem?_eq_getElem hi] at this
    exact this
   ·intro hh i hi
    rw [List.mem_range] at hi
    rw [List.getD_eq_getElem?_getD,List.getElem?_eq_getElem hi]
    exact hh _ (List.getElem_mem hi)
  rw [e]
  have I0:Inv X pins σ H { s with heap:=s.heap.push { cls:=.type "list_iterator",data:=.fields #[.ref p,.int 0 0] },toks:=s.toks }:=I.kept fun b o e=>Heap.get?_push_of_some _ e
  refine ⟨.bl (bs.all id),H,I0.turned (it:=s.heap.objs.size) (fun b o hb e=>hk b o (by simpa using hb) e) (I.hok.fresh (Nat.le_refl _)) (Nat.ne_of_gt I.lt) (.inr I.sz) ?_ ?_,rfl,q⟩
  ·have:=I.fpOk (b:=s.heap.objs.size) (H':=H) (Nat.le_refl _) (I.hok.fresh (Nat.le_refl _))
   exact this.2.2.2.2.1
  ·have:=I.fpOk (b:=s.heap.objs.size) (H':=H) (Nat.le_refl _) (I.hok.fresh (Nat.le_refl _))
   exact this.2.2.2.2.2
def rIsiU (K:PySem.W.Frag):List V->Hp->VK->Prop:=fun xs H Q=>rIsi K xs H Q\/∃ (x:V) (p:Addr) (ns:List String) (T:String) (b:Bool),xs=[x,.ref p]/\H p=some (.tup (ns.map V.ty))/\TyOf K H x (.type T)/\PySem.W.kitAny K (.type T) (ns.map Value.type)=some b/\Q (.bl b) H
theorem Zh0 {pins:List (Addr × Obj)} {σ:St} {H:Hp} {s:Shared} {x:V} {u t:Value} (I:Inv X pins σ H s) (rx:RelV x u) (ty:TyOf X.K H x t) (nt:∃ T,t=.type T):∃ Hh:Heap->Prop,PySem.W.KitX X.K u t Hh/\Hh s.heap/\u ≠ .builtin "__main__.__loader__#opaque":=by
 cases ty with
 | non=>cases (show u=Value.none from rx); exact ⟨_,PySem.W.kitx_none,True.intro,fun z=>nomatch z⟩
 | bl y=>cases (show u=Value.bool y from rx); exact ⟨_,PySem.W.kitx_bool,True.intro,fun z=>nomatch z⟩
 | int i=>obtain ⟨t,q⟩:=(show ∃ t,u=Value.int i t from rx); cases q; exact ⟨_,PySem.W.kitx_int,True.intro,fun z=>nomatch z⟩
 | str y=>obtain ⟨t,q⟩:=(show ∃ t,u=Value.str y t from rx); cases q; exact ⟨_,PySem.W.kitx_str,True.intro,fun z=>nomatch z⟩
 | flt y=>obtain ⟨t,q⟩:=(show ∃ t,u=Value.float y t from rx); cases q; exact ⟨_,PySem.W.kitx_float,True.intro,fun z=>nomatch z⟩
 | @lst a xs ea=>
  cases (show u=Value.ref a from rx)
  obtain ⟨_,_,n,_,h1⟩:=(show ObjOk X.prog X.w H s.heap a (.lst xs) from I.hok a _ ea)
  exact ⟨_,PySem.W.kitx_list,⟨_,h1,rfl⟩,fun z=>nomatch z⟩
 | @frz a ob xs ea=>
  cases (show u=Value.ref a from rx)
  obtain ⟨_,_,_,n,_,h1⟩:=(show ObjOk X.prog X.w H s.heap a (.frz ob (.lst xs)) from I.hok a _ ea)
  exact ⟨_,PySem.W.kitx_list,⟨_,h1,rfl⟩,fun z=>nomatch z⟩
 | @tup a xs ea=>
  cases (show u=Value.ref a from rx)
  obtain ⟨_,_,_,p⟩:=(show ObjOk X.prog X.w H s.heap a (.tup xs) from I.hok a _ ea)
  obtain ⟨o,h1,⟨h2,_⟩,_⟩:=p
  exact ⟨_,PySem.W.kitx_tuple,⟨o,h1,h2⟩,fun z=>nomatch z⟩
 | @dK a kvs ea=>
  cases (show u=Value.ref a from rx)
  obtain ⟨_,_,vs,_,p⟩:=(show ObjOk X.prog X.w H s.heap a (.dK kvs) from I.hok a _ ea)
  obtain ⟨o,es,ep,h1,h2,_⟩:=p
  exact ⟨_,PySem.W.kitx_dict,⟨o,h1,h2.1⟩,fun z=>nomatch z⟩
 | @dT a kvs ea=>
  cases (show u=Value.ref a from rx)
  obtain ⟨_,_,xs,_,o,es,ep,h1,h2,_⟩:=(show ObjOk X.prog X.w H s.heap a (.dT kvs) from I.hok a _ ea)
  exact ⟨_,PySem.W.kitx_dict,⟨o,h1,h2.1⟩,fun z=>nomatch z⟩
 | @ins a C dx fs ea cl ha hn htk hm=>obtain ⟨T,e⟩:=nt; cases e
theorem isiUK (K:PySem.W.Frag) (hK:X.K=K:=by rfl):CallR X (.builtin "isinstance") (rIsiU K):=by
 subst hK
 refine CallR.or Zg4 ?_
 intro pins s σ H xs us Q I r h
 obtain ⟨x,p,ns,T,b,rfl,hp,ty,e,q⟩:=h
 obtain ⟨u,u',rfl,rx,rn⟩:=vals2 r
 cases (show u' = Value.ref p from rn)
 obtain ⟨Hh,Z,hz,hne⟩:=Zh0 I rx ty ⟨T,rfl⟩
 obtain ⟨_,its,rv,o,ho,⟨hc,n,hd⟩,hdd⟩:=I.hok p _ hp
 have hv:∀ (ns:List String) (its:List Value),Vals (ns.map V.ty) its->its=ns.map Value.type:=by
  intro ns
  induction ns with
  | nil=>intro its h; cases h; rfl
  | cons b r ih=>intro its h; cases h with | cons h1 h2=>cases (show _=Value.type b from h1); rw [ih _ h2]; rfl
 have e2:=hv ns its rv
 subst e2
 obtain ⟨cls,dd,data,sl⟩:=o
 simp only at hc hd hdd
 subst hc hd hdd
 exact PySem.W.kia_tup Z I.kIn hz ho e hne fun tk=>⟨.bl b,H,I.tok _,rfl,q⟩
end
section
variable {K:PySem.W.Frag} {Δ:Evt}
theorem Zkz {b:Bool} {G:Hp} {l1 l2:Addr} {xs ys:List V} {ds es:List D} (h1:∀ G1 H1,Same G G1->Same G1 H1->SqB b K H1 l1 xs) (h2:∀ G1 H1,Same G G1->Same G1 H1->SqB b K H1 l2 ys) (r1:Reps K G xs ds) (r2:Reps K G ys es) (hl:ds.length=es.length) :
  ItOk K G (Izb b K l1 l2) ((ds.zip es).map fun p=>D.tup [p.1,p.2]):=fun G1 H1 sg sh=>by
 have hl1:=r1.length
 have hl2:=r2.length
 have e1:=h1 G1 H1 sg sh
 have e2:=h2 G1 H1 sg sh
 refine ⟨⟨xs,ys,e1,e2,.inl (by rw [List.length_map,List.length_zip]; omega)⟩,fun i d hd=>?_⟩
 rw [List.getElem?_map] at hd
 cases q:(ds.zip es)[i]? with
 | none=>rw [q] at hd; cases hd
 | some pr=>
  rw [q] at hd
  have hd:D.tup [pr.1,pr.2]=d:=by simpa using hd
  subst hd
  rw [List.getElem?_zip_eq_some] at q
  obtain ⟨u,hu,ru⟩:=r1.get q.1
  obtain ⟨v,hv,rv⟩:=r2.get q.2
  refine ⟨⟨xs,ys,u,v,e1,e2,hu,hv⟩,fun x H2 ⟨p,a,b',hp,ex,eH,hab⟩=>?_⟩
  obtain ⟨ha,hb⟩:=hab xs ys e1 e2
  rw [hu] at ha; rw [hv] at hb
  cases ha; cases hb
  subst ex; subst eH
  have hG:G1 p=none:=by
   cases z:G1 p with
   | none=>rfl
   | some o=>rw [sh _ _ z] at hp; cases hp
  refine ⟨upd G1 p (.tup [u,v]),fun c o e=>by rw [Zai (Zah e hG)]; exact e,fun c o e=>by rw [Zai (Zah e hp)]; exact e,fun c o e=>?_,?_⟩
  ·by_cases hc:c=p
   ·subst hc; rw [Zal] at e ⊢; exact ⟨e,.inr hp⟩
   ·rw [Zai hc] at e ⊢; exact ⟨sh c o e,.inl e⟩
  ·have sg2:Same G1 (upd G1 p (.tup [u,v])):=fun c o e=>by rw [Zai (Zah e hG)]; exact e
   exact .tup Zal (.cons ((ru.mono sg).mono sg2) (.cons ((rv.mono sg).mono sg2) .nil))
theorem Zm0 {ta:TA} {P:List D->Evt->Prop} (h:JA K ta Δ fun ds Δ1=>∃ as bs,ds=[.tup as,.tup bs]/\as.length=bs.length/\P ((as.zip bs).map fun p=>D.tup [p.1,p.2]) Δ1):JI K (iZip K ta) Δ P:=fun g G H σ R k c=>
 h g G H σ _ k fun vs ds G1 H1 Δ1 k1 s1 r1 hq_=>by
  obtain ⟨as,bs,e,hl,p1⟩:=hq_
  subst e
  obtain ⟨_,_,rfl,ra,rr⟩:=r1.inv
  next=>
   obtain ⟨_,_,rfl,rb,rr⟩:=rr.inv
   next=>
    cases rr.inv
    obtain ⟨_,_,rfl,ha,rsa⟩:=ra.inv
    next=>
     obtain ⟨_,_,rfl,hb,rsb⟩:=rb.inv
     next=>
      exact ⟨true,_,_,rfl,⟨_,SqT.of (k1.live _ _ ha)⟩,⟨_,SqT.of (k1.live _ _ hb)⟩,c _ _ G1 H1 Δ1 k1 s1 (Zkz (fun _ _ sg sh=>SqT.of (sh _ _ (sg _ _ ha))) (fun _ _ sg sh=>SqT.of (sh _ _ (sg _ _ hb))) rsa rsb hl) p1⟩
theorem Zil {bs:List Bool} {P:D->Evt->Prop} (p:P (.bl (bs.all id)) Δ):JC K (rAll K) [.lst (bs.map D.bl)] Δ P:=fun g G H σ Q vs k rs c=>by
 obtain ⟨_,_,rfl,r,t⟩:=rs.inv
 next=>
  cases t.inv
  obtain ⟨a,ws,rfl,ha,rs⟩:=r.inv
  next=>
   have e:∀ (bs:List Bool) (ws:List V),Reps K G ws (bs.map D.bl)->ws=bs.map V.bl:=by
    intro bs
    induction bs with
    | nil=>intro ws h; cases h; rfl
    | cons b r ih=>intro ws h; cases h with | cons h1 h2=>cases h1; rw [ih _ h2]; rfl
   have:=e bs ws rs
   subst this
   exact ⟨_,bs,rfl,SqL.of (k.live _ _ ha),c _ _ G H Δ k (Same.refl _) (.bl _) p⟩
theorem Zci {d:D} {n T:String} {b:Bool} {P:D->Evt->Prop} (ht:tyD d=some T) (e:∀ K,PySem.W.kitOne K (.type T) (.type n)=some b) (p:P (.bl b) Δ):JC K (rIsiU K) [d,.ty n] Δ P:=fun g G H σ Q vs k rs c=>.inl (Zow ht e p g G H σ Q vs k rs c)
theorem Znf {d:D} {ns:List String} {T:String} {b:Bool} {P:D->Evt->Prop} (ht:tyD d=some T) (e:∀ K,PySem.W.kitAny K (.type T) (ns.map Value.type)=some b) (p:P (.bl b) Δ):JC K (rIsiU K) [d,.tup (ns.map D.ty)] Δ P:=fun g G H σ Q vs k rs c=>by
 obtain ⟨_,_,rfl,r,t⟩:=rs.inv
 next=>
  obtain ⟨_,_,rfl,r',t⟩:=t.inv
  next=>
   cases t.inv
   obtain ⟨a,ws,rfl,ha,rs⟩:=r'.inv
   next=>
    have e1:∀ (ns:List String) (ws:List V),Reps K G ws (ns.map D.ty)->ws=ns.map V.ty:=by
     intro ns
     induction ns with
     | nil=>intro ws h; cases h; rfl
     | cons b r ih=>intro ws h; cases h with | cons h1 h2=>cases h1; rw [ih _ h2]; rfl
    have:=e1 ns ws rs
    subst this
    refine .inr ⟨_,a,ns,T,b,rfl,k.live _ _ ha,?_,e K,c _ _ G H Δ k (Same.refl _) (.bl b) p⟩
    cases r with
    | non=>cases ht; exact .non
    | bl b=>cases ht; exact .bl b
    | int i=>cases ht; exact .int i
    | str x=>cases ht; exact .str x
    | ty n=>cases ht
    | scr ha rs=>cases ht
    | adr a=>cases ht
    | dct ha hl rs=>cases ht; exact .dK (k.live _ _ ha)
    | exc ha=>cases ht
    | lst ha rs=>cases ht; exact .lst (k.live _ _ ha)
    | tup ha rs=>cases ht; exact .tup (k.live _ _ ha)
end
end L2
set_option Elab.async false
set_option linter.all false
set_option maxRecDepth 100000
namespace L2
open PySem PySem.Spec PyProof.Rows
section
variable {prog:Program} {w:World} {A:Around} {E:Value->Shared->Prop} {s:Shared}
theorem Znn {b:Bool} {e j a:Addr} {i:Nat} {ws:Array Value} {x old:Value} {Q:Option Value->Shared->Prop} (ge:IsEnum s.heap e j i old) (g:ItB b s.heap j a i) (l:HsB b s.heap a ws) (ex:ws[i]? = some x) (ne:e ≠ j)
  (q:∀ h',IsEnumOut h' e j ((i:Int) + 1) x s.heap.objs.size->ItB b h' j a (i + 1)->h'.get? s.heap.objs.size=some { cls:=.type "tuple",data:=.seq #[.int i s.toks,x] } →
   (∀ c o,c ≠ e->c ≠ j->s.heap.get? c=some o->h'.get? c=some o)->Q (some (.ref s.heap.objs.size)) { s with heap:=h',toks:=s.toks + 1 }):wpAny (model prog w) A (pyNext (.ref e)) Q E s:=by
 cases b
 ·exact wpAny_pyNext_enum_item ge g l ex ne fun h' b1 b2 b3 _ b4=>q h' b1 b2 b3 b4
 obtain ⟨hp,g0,d,tk,os⟩:=s
 have ty:Shared.TypeIs ⟨hp,g0,d,tk,os⟩ (.ref e) "enumerate":=⟨_,ge,rfl⟩
 unfold pyNext
 refine wpAny_bind (wpAny_attempt (wpAny_callSpecial?_slot (name:=Str.ofString "__next__") ty F.slot_enumerate_next (wpAny_call_entry F.slot_enumerate_next ty F.entry_enumerate_next ?_ (F.args_enumerate_next_1 _))))
 refine (show wpAny _ _ (field (.ref e) 2 >>= _) _ _ _ from wpAny_bind (wpAny_field ge rfl (x:=.ref j) rfl (wpAny_bind (Zdu (b:=true) g l ex fun h₁ g₁ s₁=>?_))))
 replace s₁:Heap.SameBut j hp h₁:=s₁
 have e₁:IsEnum h₁ e j i old:=(s₁.2 e ne).trans ge
 refine (show wpAny _ _ (field (.ref e) 3 >>= _) _ _ ⟨h₁,g0,d,tk,os⟩ from wpAny_bind (wpAny_field e₁ rfl (x:=rawInt i) rfl ?_))
 refine (show wpAny _ _ (field (.ref e) 4 >>= _) _ _ ⟨h₁,g0,d,tk,os⟩ from wpAny_bind (wpAny_field e₁ rfl (x:=.none) rfl ?_))
 refine (show wpAny _ _ (mkInt i >>= _) _ _ ⟨h₁,g0,d,tk,os⟩ from wpAny_bind (wpAny_mkInt ?_))
 refine (show wpAny _ _ (setField (.ref e) 3 (rawInt ((i:Int) + 1)) >>= _) _ _ ⟨h₁,g0,d,tk + 1,os⟩ from wpAny_bind (wpAny_setField_rec e₁ (by simp) fun h₂ e₂ s₂=>?_))
 replace s₂:Heap.SameBut e h₁ h₂:=s₂
 replace e₂:IsEnum h₂ e j ((i:Int) + 1) old:=e₂
 refine (show wpAny _ _ (setField (.ref e) 4 .none >>= _) _ _ ⟨h₂,g0,d,tk + 1,os⟩ from wpAny_bind (wpAny_setField_rec e₂ (by simp) fun h₃ e₃ s₃=>?_))
 replace s₃:Heap.SameBut e h₂ h₃:=s₃
 replace e₃:IsEnum h₃ e j ((i:Int) + 1) old:=e₃
 refine (show wpAny _ _ (newTuple [.int i tk,x] >>= _) _ _ ⟨h₃,g0,d,tk + 1,os⟩ from wpAny_bind (wpAny_newTuple ?_))
 have e₄:IsEnum (h₃.push { cls:=.type "tuple",data:=.seq #[.int i tk,x] }) e j ((i:Int) + 1) old:=Heap.get?_push_of_some _ e₃
 generalize eh₄:h₃.push { cls:=.type "tuple",data:=.seq #[.int i tk,x] } = h₄ at e₄
 have n3:h₃.objs.size=hp.objs.size:=by rw [s₃.1,s₂.1,s₁.1]
 have el:e < hp.objs.size:=Heap.lt_size ge
 have t₄:h₄.get? hp.objs.size=some { cls:=.type "tuple",data:=.seq #[.int i tk,x] }:=by rw [<- eh₄,<- n3]; exact Heap.get?_push_size _ rfl
 have k₄:∀ c o,c ≠ e->c ≠ j->hp.get? c=some o->h₄.get? c=some o:=fun c o c1 c2 z=>by rw [<- eh₄]; exact Heap.get?_push_of_some _ (s₃.extBut c o c1 (s₂.extBut c o c1 (s₁.extBut c o c2 z)))
 have g₄:ItB true h₄ j a (i + 1):=by rw [<- eh₄]; exact ((g₁.off s₂.extBut (Ne.symm ne)).off s₃.extBut (Ne.symm ne)).at fun o z=>Heap.get?_push_of_some _ z
 refine (show wpAny _ _ (Builtin.SmallTypes.ownedTupleIsFree (.ref e) >>= _) _ _ ⟨h₄,g0,d,tk + 1,os⟩ from ?_)
 rw [n3]
 clear eh₄ e₃ s₃ e₂ s₂ e₁ s₁ g₁ n3 h₃ h₂ h₁
 refine wpAny_bind ?_
 unfold Builtin.SmallTypes.ownedTupleIsFree
 refine wpAny_bind (wpAny_field e₄ rfl (x:=.none) rfl (wpAny_pure ?_))
 simp only [if_true]
 refine wpAny_bind (wpAny_rule (wpAny_bind (wpAny_field e₄ rfl (x:=old) rfl (wpAny_bind (wpAny_setField_rec e₄ (by simp) fun h₅ e₅ s₅=>?_)))))
 replace s₅:Heap.SameBut e h₄ h₅:=s₅
 replace e₅:IsEnum h₅ e j ((i:Int) + 1) x:=e₅
 refine (show wpAny _ _ (Builtin.SmallTypes.ownedTupleHandOut (.ref e) (.ref hp.objs.size) >>= _) _ _ ⟨h₅,g0,d,tk + 1,os⟩ from wpAny_bind ?_)
 unfold Builtin.SmallTypes.ownedTupleHandOut
 refine wpAny_bind (wpAny_setField_rec e₅ (by simp) fun h₆ e₆ s₆=>?_)
 replace s₆:Heap.SameBut e h₅ h₆:=s₆
 replace e₆:IsEnumOut h₆ e j ((i:Int) + 1) x hp.objs.size:=e₆
 refine wpAny_setField_rec e₆ (by simp) fun h₇ e₇ s₇=>?_
 replace s₇:Heap.SameBut e h₆ h₇:=s₇
 replace e₇:IsEnumOut h₇ e j ((i:Int) + 1) x hp.objs.size:=e₇
 have up:∀ c o,c ≠ e->h₄.get? c=some o->h₇.get? c=some o:=fun c o c1 z=>s₇.extBut c o c1 (s₆.extBut c o c1 (s₅.extBut c o c1 z))
 exact wpAny_bind (wpAny_letGo (wpAny_pure ⟨_,rfl,wpAny_pure (q h₇ e₇ (g₄.at fun o z=>up j o (Ne.symm ne) z) (up _ _ (Nat.ne_of_gt el) t₄) fun c o c1 c2 z=>up c o c1 (k₄ c o c1 c2 z))⟩))
theorem Zo1 {b:Bool} {e j a:Addr} {i:Nat} {ws:Array Value} {old:Value} {Q:Option Value->Shared->Prop} (hh:A.handled=none) (ge:IsEnum s.heap e j i old) (g:ItB b s.heap j a i) (l:HsB b s.heap a ws) (ex:ws[i]? = none)
  (q:∀ h',Heap.ExtBut j s.heap h' -> Q none { s with heap:=h' }):wpAny (model prog w) A (pyNext (.ref e)) Q E s:=by
 have ty:s.TypeIs (.ref e) "enumerate":=⟨_,ge,rfl⟩
 unfold pyNext
 refine wpAny_bind (wpAny_attempt (wpAny_callSpecial?_slot (name:=Str.ofString "__next__") ty F.slot_enumerate_next (wpAny_call_entry F.slot_enumerate_next ty F.entry_enumerate_next ?_ (F.args_enumerate_next_1 _))))
 refine (show wpAny _ _ (field (.ref e) 2 >>= _) _ _ _ from wpAny_bind (wpAny_field ge rfl (x:=.ref j) rfl (wpAny_bind (Zhm hh g l ex fun h' x e' ⟨o,ho,hc⟩=>?_))))
 exact wpAny_bind (wpAny_isInstance (T:="StopIteration") (b:=true) ⟨o,ho,hc⟩ isSubtype_stop (wpAny_pure (q _ e')))
theorem Zkw (a:Addr) (ws:Array Value) (n:Nat) (dct:Option Addr) (sl:Array (Option Value)) :
  Meets (Builtin.«enumerate.__new__» ⟨[.type "enumerate",.ref a],[]⟩) (fun _ R s=>s.heap.get? a=some ⟨.type "tuple",dct,.seq ws n,sl⟩ ∧
   R (.ok (.ret (.ref (zt1 s.heap a).objs.size))) { s with heap:=(zt1 s.heap a).push ⟨.type "enumerate",none,.fields #[.none,.bool false,.ref s.heap.objs.size,rawInt 0,.none,.none],#[]⟩ }):=.of_wp fun prog w A R s h=>by
 obtain ⟨hp,g,d,tk,os⟩:=s; obtain ⟨l,h⟩:=h
 have sub0:=sub_enumerate
 have t0:Heap.IsTuple (Shared.heap ⟨hp,g,d,tk,os⟩) a ws:=⟨_,l,rfl,n,rfl⟩
 wp_walk using AutoSeq1.wpAny_loadPart' l
 refine wpAny_stack_any fun st=>wpAny_pure ?_
 split
 ·rename_i c _ _ _ _ _
  cases (c == Value.type "enumerate") <;> (wp_walk using AutoSeq1.wpAny_loadPart' l,wpAny_pyIter_tuple t0; exact ⟨_,rfl,h⟩)
 ·wp_walk using AutoSeq1.wpAny_loadPart' l,wpAny_pyIter_tuple t0
  exact ⟨_,rfl,h⟩
theorem Zms {b:Bool} {a:Addr} {ws:Array Value} {Q:Value->Shared->Prop} (l:HsB b s.heap a ws)
  (q:∀ h',IsEnum h' (s.heap.objs.size + 1) s.heap.objs.size 0 .none->ItB b h' s.heap.objs.size a 0->(∀ c o,s.heap.get? c=some o->h'.get? c=some o)->Q (.ref (s.heap.objs.size + 1)) { s with heap:=h' }):wpAny (model prog w) A (call (.type "enumerate") [.ref a]) Q E s:=by
 cases b
 ·exact call_enumerate_list l fun h' b1 b2 _ b3=>q h' b1 b2 b3
 ·obtain ⟨⟨oc,od,oda,os⟩,l1,hc,n,hd⟩:=l
  dsimp only at hc hd
  subst hc hd
  refine callType_new F.called_enumerate (by decide) (F.typeCall_enumerate_1 _) (F.newCall_enumerate_1 _) (fun obj=>F.args_object_init_2 obj _) F.entry_enumerate_new (Zkw a ws n od os) ⟨l1,?_⟩
  have z1:(zt1 s.heap a).objs.size=s.heap.objs.size + 1:=Heap.size_push ..
  show _/\_
  rw [z1]
  have he:IsEnum ((zt1 s.heap a).push ⟨.type "enumerate",none,.fields #[.none,.bool false,.ref s.heap.objs.size,rawInt 0,.none,.none],#[]⟩) (s.heap.objs.size + 1) s.heap.objs.size 0 .none:=by
   rw [<- z1]; exact Heap.get?_push_size _ rfl
  exact ⟨⟨_,he,rfl⟩,q _ he ⟨_,Heap.get?_push_of_some _ (Heap.get?_push_size _ rfl),rfl,rfl⟩ fun c o z=>Heap.get?_push_of_some _ (Heap.get?_push_of_some _ z)⟩
end
def Ieb (b:Bool) (K:PySem.W.Frag) (l:Addr):It:=
 ⟨fun i H=>∃ xs x,SqB b K H l xs/\xs[i]? = some x,
  fun i H v H'=>∃ p x,H p=none/\v=.ref p/\H' = upd H p (.tup [.int (i:Int),x])/\∀ xs,SqB b K H l xs->xs[i]? = some x,
  fun i H=>∃ xs,SqB b K H l xs/\xs.length<=i⟩
theorem Znw {b:Bool} {P:Program} {w:World} {K:PySem.W.Frag} {es:List Expr} {kk:Nat} {tp:Pos} (l z j:Addr) (D:z ≠ j):Turn P w K (.Tuple es kk tp) (Ieb b K l) [z,j] z
  (fun i h=>(∃ old,IsEnum h z j i old)/\ItB b h j l i) where
 mem:=by simp
 obj:=fun i h st b2 hb=>by
  obtain ⟨⟨old,hz⟩,h1⟩:=st
  obtain ⟨o1,e1,d1⟩:=h1.obj
  simp only [List.mem_cons,List.not_mem_nil,or_false] at hb
  rcases hb with rfl | rfl
  ·exact ⟨_,hz,fun v q=>by cases q⟩
  ·exact ⟨o1,e1,fun v q=>by rw [d1] at q; cases q⟩
 keep:=fun i h h' st k=>by
  obtain ⟨⟨old,hz⟩,h1⟩:=st
  exact ⟨⟨old,k z (by simp) _ hz⟩,h1.at fun o e=>k j (by simp) o e⟩
 item:=by
  intro X hP hw hK hc i pins s σ H E I hf st hg
  subst hP hw hK
  obtain ⟨⟨old,hz⟩,h1⟩:=st
  obtain ⟨xs,x,hq1,hx⟩:=hg
  obtain ⟨its1,r1,p1⟩:=I.seqB hq1
  obtain ⟨u1,hu1,ru1⟩:=r1.get hx
  refine Znn hz h1 p1 (x:=u1) (by simpa using hu1) D fun h' b1 b2 b3 hk=>?_
  refine ⟨_,rfl,wpAny_letOwnedTupleGo_enum (s:={ s with heap:=h',toks:=s.toks + 1 }) b1 fun h'' hz'' hs''=>?_⟩
  have lt:∀ {c o},s.heap.get? c=some o->c ≠ s.heap.objs.size:=fun e=>Nat.ne_of_lt (Heap.lt_size e)
  have hTz:s.heap.objs.size ≠ z:=Ne.symm (lt hz)
  have hTfree:H s.heap.objs.size=none:=I.hok.fresh (Nat.le_refl _)
  have kept:∀ c o,c ∉ [z,j]->s.heap.get? c=some o->h''.get? c=some o:=fun c o hc e=>by
   simp only [List.mem_cons,List.not_mem_nil,or_false,not_or] at hc
   exact hs''.extBut _ _ hc.1 (hk c o hc.1 hc.2 e)
  have hT:h''.get? s.heap.objs.size=some { cls:=.type "tuple",data:=.seq #[.int i s.toks,u1] }:=hs''.extBut _ _ hTz b3
  have ntr:∀ c o,H c=some o->c ∉ [z,j]:=fun c o e hc=>by rw [(hf c hc).1] at e; cases e
  have hok:HOk X.prog X.w (upd H s.heap.objs.size (.tup [.int (i:Int),x])) h'':=fun c o e=>by
   by_cases hcT:c=s.heap.objs.size
   ·subst hcT
    rw [Zal] at e
    cases e
    exact ⟨by show 2<=sizeLine; decide,[.int i s.toks,u1],.cons ⟨_,rfl⟩ (.cons ru1 .nil),_,hT,⟨rfl,_,rfl⟩,rfl⟩
   ·rw [Zai hcT] at e
    refine (I.hok c o e).stay (fun d v hd q=>kept d v ?_ q) (fun d q=>by rw [Zai (Zah q hTfree)]; exact q) fun d zs q=>by rw [Zai (Zah q hTfree)]; exact q
    rcases hd with hd | hd
    ·rw [hd]; exact ntr c o e
    ·exact ntr d _ hd
  have I2:Inv X pins σ (upd H s.heap.objs.size (.tup [.int (i:Int),x])) { s with heap:=h'',toks:=s.toks + 1 }:=by
   refine I.call (g':=s.gens) (t':=s.toks + 1) (d':=s.drawn) (ch:=[z,j]) ⟨fun c o e n hc hx=>kept c o hx e,fun c o e n hc hx=>⟨o.slots,kept c o hx e⟩,fun c o e n hx=>by rw [Zai (lt e)]; exact n,fun c o e hx=>⟨o,kept c o hx e⟩,
    fun c zs q=>by rw [Zai (Zah q hTfree)]; exact q,fun c o zs q=>by rw [Zai (Zah q hTfree)]; exact q,fun c zs q=>⟨#[],by rw [Zai (Zah q hTfree),q]; simp⟩⟩ hok I.bare fun c hcc=>?_
   obtain ⟨f0,f1,f2,f3,f4,f5⟩:=hf c hcc
   exact ⟨f3,f1,f4,f5⟩
  refine ⟨.ref s.heap.objs.size,_,I2,rfl,⟨s.heap.objs.size,x,hTfree,rfl,rfl,fun xs' q1=>?_⟩,⟨⟨_,by have:=hz''; push_cast at this ⊢; exact this⟩,b2.off hs''.extBut (Ne.symm D)⟩,fun c hcc=>?_⟩
  ·rw [I.seqB_inj q1 hq1]; exact hx
  ·have hcl:c ≠ s.heap.objs.size:=by
    simp only [List.mem_cons,List.not_mem_nil,or_false] at hcc
    obtain ⟨_,e1,_⟩:=h1.obj
    rcases hcc with rfl | rfl
    ·exact lt hz
    ·exact lt e1
   rw [Zai hcl]; exact (hf c hcc).1
 done:=by
  intro X hP hw hK hc i pins s σ H E I hf st hg
  subst hP hw hK
  obtain ⟨⟨old,hz⟩,h1⟩:=st
  obtain ⟨xs,hq1,hend⟩:=hg
  obtain ⟨its1,r1,p1⟩:=I.seqB hq1
  have l1':=r1.length
  refine Zo1 (I.ok.hd hc) hz h1 p1 (by simp; omega) fun h' hk=>⟨rfl,?_⟩
  have kept:∀ c o,c ∉ [z,j]->s.heap.get? c=some o->h'.get? c=some o:=fun c o hc e=>by
   simp only [List.mem_cons,List.not_mem_nil,or_false,not_or] at hc
   exact hk c o hc.2 e
  have ntr:∀ c o,H c=some o->c ∉ [z,j]:=fun c o e hc=>by rw [(hf c hc).1] at e; cases e
  refine I.call (g':=s.gens) (t':=s.toks) (d':=s.drawn) (ch:=[z,j]) ⟨fun c o e n hc hx=>kept c o hx e,fun c o e n hc hx=>⟨o.slots,kept c o hx e⟩,fun c o e n hx=>n,fun c o e hx=>⟨o,kept c o hx e⟩,
   fun c zs q=>q,fun c o zs q=>q,fun c zs q=>⟨#[],by rw [q]; simp⟩⟩ (fun c o e=>?_) I.bare fun c hcc=>?_
  ·refine (I.hok c o e).stay (fun d v hd q=>kept d v ?_ q) (fun d q=>q) fun d zs q=>q
   rcases hd with hd | hd
   ·rw [hd]; exact ntr c o e
   ·exact ntr d _ hd
  ·obtain ⟨f0,f1,f2,f3,f4,f5⟩:=hf c hcc
   exact ⟨f3,f1,f4,f5⟩
 self:=fun _ _ _ _ _ st h=>by
  obtain ⟨⟨old,hz⟩,_⟩:=st
  exact wpAny_pyIter_enum hz h
theorem Zdf:bootBuiltins "enumerate" = some (.type "enumerate"):=by kernel_rfl
section
variable {X:Cx}
def iEnum (K:PySem.W.Frag) (ta:TA):TI:=fun σ H R=>ta σ H fun vs H1=>∃ b l,vs=[.ref l]/\(∃ xs,SqB b K H1 l xs)/\R (Ieb b K l) H1
theorem Zdg (K:PySem.W.Frag) {es:List Expr} {kk:Nat} {tp:Pos} {a:Expr} {ta:TA} {p pos:Pos} (hg:Gl X "enumerate") (hm:X.mg "enumerate" = none) (ha:PA X [a] ta) (hs:starEach [a] X.env=[(false,eval a X.env)]:=by rfl) (hs2:starEach [] X.env=[]:=by rfl) (hK:X.K=K:=by rfl) :
  PI X (.Tuple es kk tp) (.Call (.Name "enumerate" p) [a] [] pos) (iEnum K ta):=by
 subst hK
 intro pins s σ H R I h
 refine Call_ (Zd0 I hg hm (Zdf) (PyProof.Rows.callWith_type1 (thn (ha pos pins s σ H _ I h) fun us s1 ⟨vs,H1,I1,r1,q1⟩=>?_) (by rw [hs,hs2]) (by rw [hs2]; rfl)))
 obtain ⟨b,l1,e,⟨xs,hx⟩,q⟩:=q1
 subst e
 obtain ⟨u1,rfl,q1⟩:=vals1 r1
 cases (show u1=Value.ref l1 from q1)
 obtain ⟨its1,w1,p1⟩:=I1.seqB hx
 refine Zms p1 fun h' b1 b2 hk=>?_
 refine wpAny_pyIter_enum b1 ?_
 have I2:Inv X pins σ H1 { s1 with heap:=h' }:=I1.kept (t':=s1.toks) hk
 refine ⟨s1.heap.objs.size + 1,[s1.heap.objs.size + 1,s1.heap.objs.size],_,_,H1,rfl,I2,Znw l1 _ _ (Nat.succ_ne_self _),⟨⟨_,b1⟩,b2⟩,fun b hb=>?_,q⟩
 have hge:s1.heap.objs.size<=b:=by
  simp only [List.mem_cons,List.not_mem_nil,or_false] at hb
  rcases hb with rfl | rfl <;> omega
 exact I1.fpOk hge (I1.hok.fresh hge)
def rMin1 (K:PySem.W.Frag):List V->Hp->VK->Prop:=fun xs H Q=>∃ (b:Bool) (p:Addr) (ns:List Int),xs=[.ref p]/\SqB b K H p (ns.map V.int)/\0 < ns.length/\∀ m,m ∈ ns->(∀ a ∈ ns,m<=a)->Q (.int m) H
theorem minK (K:PySem.W.Frag) (hc:X.calm=true) (hK:X.K=K:=by rfl):CallR X (.builtin "min") (rMin1 K):=by
 subst hK
 intro pins s σ H xs us Q I r h
 obtain ⟨b,p,ns,rfl,hx,hne,q⟩:=h
 obtain ⟨u,rfl,ru⟩:=vals1 r
 cases (show u=Value.ref p from ru)
 obtain ⟨its,w1,p1⟩:=I.seqB hx
 have hlt:=p1.lt
 have hl:=w1.length
 rw [List.length_map] at hl
 have hv:∀ (i:Nat) v,its.toArray[i]? = some v->∃ t,v=Value.int (ns.getD i 0) t:=fun i v e=>by
  have hi:i < its.length:=by simpa using (Array.getElem?_eq_some_iff.mp e).1
  obtain ⟨v',e1,t,e2⟩:=w1.get (i:=i) (x:=.int (ns.getD i 0)) (by rw [List.getElem?_map,List.getD_eq_getElem?_getD,List.getElem?_eq_getElem (by omega)]; rfl)
  rw [List.getElem?_toArray,e1] at e
  cases e
  exact ⟨t,e2⟩
 have fin:∀ {h':Heap} {tk:Nat} {v:Value},its.toArray[argBest (fun i j=>decide (ns.getD i 0 < ns.getD j 0)) (its.toArray.size - 1)]? = some v->(∀ c o,s.heap.get? c=some o->h'.get? c=some o)->EP X pins σ Q v { s with heap:=h',toks:=tk }:=fun {h' tk v} hP hk=>by
  obtain ⟨t,rfl⟩:=hv _ _ hP
  obtain ⟨h1,h2⟩:=argBest_lt (fun i=>ns.getD i 0) (its.toArray.size - 1)
  have hz:its.toArray.size=ns.length:=by simp [hl]
  rw [hz] at h1 h2 ⊢
  refine ⟨.int (ns.getD (argBest (fun i j=>decide (ns.getD i 0 < ns.getD j 0)) (ns.length - 1)) 0),H,I.kept hk,⟨_,rfl⟩,q _ ?_ fun a ha=>?_⟩
  ·rw [List.getD_eq_getElem?_getD,List.getElem?_eq_getElem (by omega)]; exact List.getElem_mem _
  ·obtain ⟨j,hj,rfl⟩:=List.mem_iff_getElem.mp ha
   have:=h2 j (by omega)
   rw [List.getD_eq_getElem?_getD (l:=ns) (i:=j),List.getElem?_eq_getElem hj] at this
   exact this
 have old:∀ {o:Obj} {h':Heap},(∀ c u,c ∉ [s.heap.objs.size]->(s.heap.push o).get? c=some u->h'.get? c=some u)->∀ c u,s.heap.get? c=some u->h'.get? c=some u:=fun hk c u e=>hk c u (fun hm=>by
  have:c=s.heap.objs.size:=by simpa using hm
  exact absurd (this ▸ Heap.lt_size e) (Nat.lt_irrefl _)) (Heap.get?_push_of_some _ e)
 have fp:∀ o:Obj,∀ c ∈ [s.heap.objs.size,p],c < (s.heap.push o).objs.size:=fun o c hc=>by
  rw [Heap.size_push]
  simp only [List.mem_cons,List.not_mem_nil,or_false] at hc
  rcases hc with rfl | rfl
  ·exact Nat.lt_succ_self _
  ·exact Nat.lt_succ_of_lt hlt
 cases b
 ·refine call_min_walk (wpAny_pyIter_list p1 ?_)
  exact ⟨_,_,_,_,_,_,_,rfl,Walks.list (A:=X.A.in1) (I.ok.hd hc) _ p (Nat.ne_of_lt hlt) its.toArray,⟨⟨_,Heap.get?_push_size _ rfl,rfl,rfl⟩,Heap.IsList.push p1 _⟩,fp _,by simp; omega,CmpOf.ints_lt (fun i=>ns.getD i 0) hv,fun v h' tk hP hk=>fin hP (old hk)⟩
 ·refine call_min_walk (wpAny_pyIter_tuple p1 ?_)
  exact ⟨_,_,_,_,_,_,_,rfl,Walks.tuple (A:=X.A.in1) (I.ok.hd hc) _ p (Nat.ne_of_lt hlt) its.toArray,⟨⟨_,Heap.get?_push_size _ rfl,rfl,rfl⟩,Heap.IsTuple.push p1 _⟩,fp _,by simp; omega,CmpOf.ints_lt (fun i=>ns.getD i 0) hv,fun v h' tk hP hk=>fin hP (old hk)⟩
end
section
variable {K:PySem.W.Frag} {Δ:Evt}
theorem Zm7 {ns:List Int} {m:Int} {d:D} {P:D->Evt->Prop} (hd:d=.lst (ns.map .int)\/d=.tup (ns.map .int)) (hm:m ∈ ns) (hle:∀ a ∈ ns,m<=a) (p:P (.int m) Δ):JC K (rMin1 K) [d] Δ P:=fun g G H σ Q vs k rs c=>by
 have fin:∀ m',m' ∈ ns->(∀ a ∈ ns,m' <= a)->Q (.int m') H:=fun m' h1 h2=>by
  have:m' = m:=Int.le_antisymm (h2 m hm) (hle m' h1)
  subst this
  exact c _ _ G H Δ k (Same.refl _) (.int _) p
 have pos:0 < ns.length:=List.length_pos_of_mem hm
 obtain ⟨_,_,rfl,r,t⟩:=rs.inv
 next=>
  cases t.inv
  rcases hd with hd | hd <;> subst hd
  ·obtain ⟨_,_,rfl,ha,rs⟩:=r.inv
   next=>have:=rs.ints; subst this; exact ⟨false,_,ns,rfl,SqL.of (k.live _ _ ha),pos,fin⟩
  ·obtain ⟨_,_,rfl,ha,rs⟩:=r.inv
   next=>have:=rs.ints; subst this; exact ⟨true,_,ns,rfl,SqT.of (k.live _ _ ha),pos,fin⟩
def enD (ds:List D):List D:=ds.zipIdx.map fun p=>D.tup [.int (p.2:Int),p.1]
theorem Zdz (ds:List D):(enD ds).length=ds.length:=by unfold enD; rw [List.length_map,List.length_zipIdx]
theorem Zfc {ds:List D} {i:Nat} {e:D} (h:(enD ds)[i]? = some e):∃ d,ds[i]? = some d/\e=.tup [.int (i:Int),d]:=by
 unfold enD at h
 rw [List.getElem?_map,List.getElem?_zipIdx] at h
 cases q:ds[i]? with
 | none=>rw [q] at h; cases h
 | some d=>rw [q] at h; refine ⟨d,rfl,?_⟩; simpa using h.symm
theorem Zf4 {b:Bool} {G:Hp} {l1:Addr} {xs:List V} {ds:List D} (h1:∀ G1 H1,Same G G1->Same G1 H1->SqB b K H1 l1 xs) (r1:Reps K G xs ds):ItOk K G (Ieb b K l1) (enD ds):=fun G1 H1 sg sh=>by
 have hl1:=r1.length
 have e1:=h1 G1 H1 sg sh
 refine ⟨⟨xs,e1,by rw [Zdz]; omega⟩,fun i d hd=>?_⟩
 obtain ⟨d0,q,rfl⟩:=Zfc hd
 obtain ⟨u,hu,ru⟩:=r1.get q
 refine ⟨⟨xs,u,e1,hu⟩,fun x H2 ⟨p,a,hp,ex,eH,hab⟩=>?_⟩
 have ha:=hab xs e1
 rw [hu] at ha
 cases ha
 subst ex; subst eH
 have hG:G1 p=none:=by
  cases z:G1 p with
  | none=>rfl
  | some o=>rw [sh _ _ z] at hp; cases hp
 refine ⟨upd G1 p (.tup [.int (i:Int),u]),fun c o e=>by rw [Zai (Zah e hG)]; exact e,fun c o e=>by rw [Zai (Zah e hp)]; exact e,fun c o e=>?_,?_⟩
 ·by_cases hc:c=p
  ·subst hc; rw [Zal] at e ⊢; exact ⟨e,.inr hp⟩
  ·rw [Zai hc] at e ⊢; exact ⟨sh c o e,.inl e⟩
 ·have sg2:Same G1 (upd G1 p (.tup [.int (i:Int),u])):=fun c o e=>by rw [Zai (Zah e hG)]; exact e
  exact .tup Zal (.cons (.int _) (.cons ((ru.mono sg).mono sg2) .nil))
theorem Zig {ta:TA} {P:List D->Evt->Prop} (h:JA K ta Δ fun ds Δ1=>∃ as,(ds=[.lst as]\/ds=[.tup as])/\P (enD as) Δ1):JI K (iEnum K ta) Δ P:=fun g G H σ R k c=>
 h g G H σ _ k fun vs ds G1 H1 Δ1 k1 s1 r1 hq_=>by
  obtain ⟨as,e,p1⟩:=hq_
  rcases e with e | e
  ·subst e
   obtain ⟨_,_,rfl,ra,rr⟩:=r1.inv
   next=>
    cases rr.inv
    obtain ⟨_,_,rfl,ha,rsa⟩:=ra.inv
    next=>exact ⟨false,_,rfl,⟨_,SqL.of (k1.live _ _ ha)⟩,c _ _ G1 H1 Δ1 k1 s1 (Zf4 (fun _ _ sg sh=>SqL.of (sh _ _ (sg _ _ ha))) rsa) p1⟩
  ·subst e
   obtain ⟨_,_,rfl,ra,rr⟩:=r1.inv
   next=>
    cases rr.inv
    obtain ⟨_,_,rfl,ha,rsa⟩:=ra.inv
    next=>exact ⟨true,_,rfl,⟨_,SqT.of (k1.live _ _ ha)⟩,c _ _ G1 H1 Δ1 k1 s1 (Zf4 (fun _ _ sg sh=>SqT.of (sh _ _ (sg _ _ ha))) rsa) p1⟩
end
end L2
set_option Elab.async false
set_option linter.all false
set_option maxRecDepth 100000
namespace L2
open PySem PySem.Spec PyProof.Rows PySem.SeqAt
section
variable {X:Cx}
def rInU (K:PySem.W.Frag) (neg:Bool):R2:=fun x y H Q=>rIn K neg x y H Q\/(∃ a o,y=.ref a/\DGet H a x o/\Q (.bl (if neg then !o.isSome else o.isSome)) H) ∨
 ∃ a S n i,y=.ref a/\x=.int i/\H a=some (.set S n)/\Q (.bl (if neg then !S i else S i)) H
theorem inK (K:PySem.W.Frag) (hu:X.A.units + 1 < cLine) (hK:X.K=K:=by rfl):OpR X (compareOp .In) (rInU K false):=by
 subst hK
 intro pins s σ H x y v u Q I rx ry h
 rcases h with h | ⟨a,o,rfl,hd,q⟩ | ⟨a,S,n,i,rfl,rfl,hs,q⟩
 ·exact Zh8 pins s σ H x y v u Q I rx ry h
 ·cases ry
  exact d_in hu I hd rx fun s' I'=>⟨.bl _,H,I',rfl,q⟩
 ·cases ry
  obtain ⟨t,rfl⟩:=rx
  exact wpAny_inSet_of (knd:=intKind X.prog X.w) (k:=i) (by simp [intKind,Value.isInt]) rfl (I.hok a _ hs) ⟨.bl _,H,I.tok _,rfl,q⟩
end
theorem Zh5 {A:Around} {k:Nat} (hr:Room k A):A.units + 8 < cLine:=Nat.lt_of_le_of_lt (Nat.add_le_add_left (by decide:8<=64) _) hr.units
end L2
set_option Elab.async false
set_option linter.all false
set_option maxRecDepth 100000
namespace L2
open PySem PySem.Spec PyProof.Rows PySem.SeqAt
def flatD:D->Option V
 | .non=>some .non
 | .bl b=>some (.bl b)
 | .int i=>some (.int i)
 | .str x=>some (.str x)
 | _=>none
def eqFlat (d e:D):Bool:=match flatD d,flatD e with
 | some x,some y=>eqV x y
 | _,_=>false
def eqF:Nat->D->D->Bool
 | 0,_,_=>false
 | n + 1,.tup xs,.tup ys=>xs.length == ys.length && (xs.zip ys).all fun p=>eqF n p.1 p.2
 | n + 1,.lst xs,.lst ys=>xs.length == ys.length && (xs.zip ys).all fun p=>eqF n p.1 p.2
 | _ + 1,d,e=>eqFlat d e
def Dp:Nat->D->Prop
 | 0,_=>False
 | _ + 1,.int _=>True
 | n + 1,.tup xs=>∀ d ∈ xs,Dp n d
 | n + 1,.lst xs=>∀ d ∈ xs,Dp n d
 | _,_=>False
theorem Rep.uniq {K:PySem.W.Frag} {G:Hp}:∀ (n:Nat) {v:V} {d e:D},Rep K G v d->Rep K G v e->Dp n d->Dp n e->d=e
 | 0,_,_,_,_,_,h,_=>h.elim
 | n + 1,v,d,e,hd,he,pd,pe=>by
  have all:∀ {vs:List V} {xs ys:List D},Reps K G vs xs->Reps K G vs ys->(∀ d ∈ xs,Dp n d)->(∀ d ∈ ys,Dp n d)->xs=ys:=by
   intro vs
   induction vs with
   | nil=>intro xs ys h1 h2 _ _; cases h1; cases h2; rfl
   | cons v vs ih=>
    intro xs ys h1 h2 p1 p2
    cases h1 with
    | cons a1 b1=>
     cases h2 with
     | cons a2 b2=>
      rw [Rep.uniq n a1 a2 (p1 _ List.mem_cons_self) (p2 _ List.mem_cons_self),ih b1 b2 (fun d hd=>p1 d (List.mem_cons_of_mem _ hd)) fun d hd=>p2 d (List.mem_cons_of_mem _ hd)]
  cases d with
  | int i=>cases hd; cases he; rfl
  | tup xs=>
   cases hd with
   | tup ha ra=>
    cases e with
    | tup ys=>cases he with | tup hb rb=>rw [ha] at hb; cases hb; rw [all ra rb pd pe]
    | lst ys=>cases he with | lst hb rb=>rw [ha] at hb; cases hb
    | int i=>cases he
    | _=>exact pe.elim
  | lst xs=>
   cases hd with
   | lst ha ra=>
    cases e with
    | lst ys=>cases he with | lst hb rb=>rw [ha] at hb; cases hb; rw [all ra rb pd pe]
    | tup ys=>cases he with | tup hb rb=>rw [ha] at hb; cases hb
    | int i=>cases he
    | _=>exact pe.elim
  | _=>exact pd.elim
theorem Zdn:∀ (n:Nat) (d:D),Dp n d->eqF n d d=true
 | 0,_,h=>h.elim
 | n + 1,.int i,_=>by show (i == i)=true; simp
 | n + 1,.tup xs,h=>by
  show (xs.length == xs.length && (xs.zip xs).all fun p=>eqF n p.1 p.2)=true
  rw [beq_self_eq_true,Bool.true_and,List.all_eq_true]
  intro p hp
  obtain ⟨i,hi⟩:=List.mem_iff_getElem?.mp hp
  rw [List.getElem?_zip_eq_some] at hi
  have e:p.1=p.2:=Option.some.inj (hi.1.symm.trans hi.2)
  rw [<- e]
  exact Zdn n _ (h _ (List.mem_of_getElem? hi.1))
 | n + 1,.lst xs,h=>by
  show (xs.length == xs.length && (xs.zip xs).all fun p=>eqF n p.1 p.2)=true
  rw [beq_self_eq_true,Bool.true_and,List.all_eq_true]
  intro p hp
  obtain ⟨i,hi⟩:=List.mem_iff_getElem?.mp hp
  rw [List.getElem?_zip_eq_some] at hi
  have e:p.1=p.2:=Option.some.inj (hi.1.symm.trans hi.2)
  rw [<- e]
  exact Zdn n _ (h _ (List.mem_of_getElem? hi.1))
 | _ + 1,.non,h=>h.elim
 | _ + 1,.bl _,h=>h.elim
 | _ + 1,.str _,h=>h.elim
 | _ + 1,.ty _,h=>h.elim
 | _ + 1,.scr _,h=>h.elim
 | _ + 1,.adr _,h=>h.elim
 | _ + 1,.dct _ _,h=>h.elim
 | _ + 1,.exc _ _,h=>h.elim
def atZip (n:Nat) (xs ys:List D) (j:Nat):Bool:=match xs[j]?,ys[j]? with
 | some a,some b=>eqF n a b
 | _,_=>false
theorem Zgr (n:Nat):∀ (xs ys:List D),(List.range (min xs.length ys.length)).all (atZip n xs ys)=(xs.zip ys).all fun p=>eqF n p.1 p.2
 | [],ys=>by simp
 | _ :: _,[]=>by simp
 | x :: xs,y :: ys=>by
  rw [List.length_cons,List.length_cons,Nat.succ_min_succ,List.range_succ_eq_map,List.all_cons,List.all_map,List.zip_cons_cons,List.all_cons,<- Zgr n xs ys]
  rfl
section
variable {X:Cx}
theorem Zl4:∀ (n:Nat) {A:Around} {pins:List (Addr × Obj)} {σ:St} {H G:Hp} {s:Shared} {x y:V} {v u:Value} {d e:D},Inv X pins σ H s->Same G H->Rep X.K G x d->Rep X.K G y e->RelV x v->RelV y u->Dp n d->Dp n e->A.units + n < cLine →
  EqAt A s v u (eqF n d e)/\(∀ a b,v=.ref a->u=.ref b->RcAt A s v u (eqF n d e))
 | 0,_,_,_,_,_,_,_,_,_,_,_,_,_,_,_,_,_,_,h,_,_=>h.elim
 | n + 1,A,pins,σ,H,G,s,x,y,v,u,d,e,I,sg,rx,ry,rv,ru,pd,pe,hu=>by
  have hu0:A.units < cLine:=by omega
  have hu1:A.in1.units + n < cLine:=by show A.units + 1 + n < cLine; omega
  have items:∀ {vs us:List V} {its its2:List Value} {xs ys:List D},Vals vs its->Vals us its2->Reps X.K G vs xs->Reps X.K G us ys->(∀ d ∈ xs,Dp n d)->(∀ d ∈ ys,Dp n d) →
    ∀ j (h1:j < its.toArray.size) (h2:j < its2.toArray.size),EqAt A.in1 s its.toArray[j] its2.toArray[j] (atZip n xs ys j):=by
   intro vs us its its2 xs ys w1 w2 r1 r2 p1 p2 j h1 h2
   have l1:=w1.length
   have l2:=r1.length
   have l3:=w2.length
   have l4:=r2.length
   have h1':j < its.length:=by simpa using h1
   have h2':j < its2.length:=by simpa using h2
   have hx:j < xs.length:=by omega
   have hy:j < ys.length:=by omega
   obtain ⟨a,ha1,ha2⟩:=r1.get (List.getElem?_eq_getElem hx)
   obtain ⟨b,hb1,hb2⟩:=r2.get (List.getElem?_eq_getElem hy)
   obtain ⟨va,hv1,hv2⟩:=w1.get ha1
   obtain ⟨vb,hw1,hw2⟩:=w2.get hb1
   have e1:its.toArray[j]=va:=by
    rw [List.getElem?_eq_getElem h1'] at hv1
    simpa using Option.some.inj hv1
   have e2:its2.toArray[j]=vb:=by
    rw [List.getElem?_eq_getElem h2'] at hw1
    simpa using Option.some.inj hw1
   have e3:atZip n xs ys j=eqF n xs[j] ys[j]:=by unfold atZip; rw [List.getElem?_eq_getElem hx,List.getElem?_eq_getElem hy]
   rw [e1,e2,e3]
   exact (Zl4 n I sg ha2 hb2 hv2 hw2 (p1 _ (List.getElem_mem hx)) (p2 _ (List.getElem_mem hy)) hu1).1
  have same:∀ a,v=.ref a->u=.ref a->eqF (n + 1) d e=true:=fun a h1 h2=>by
   have hx:x=.ref a:=by cases x <;> simp [RelV,h1] at rv <;> first | (rw [rv]) | skip
   have hy:y=.ref a:=by cases y <;> simp [RelV,h2] at ru <;> first | (rw [ru]) | skip
   rw [hx] at rx; rw [hy] at ry
   rw [Rep.uniq (n + 1) rx ry pd pe]
   exact Zdn (n + 1) e pe
  have lift:(∃ a,v=.ref a)->(∃ b,u=.ref b)->(∀ a b,v=.ref a->u=.ref b->RcAt A s v u (eqF (n + 1) d e))->EqAt A s v u (eqF (n + 1) d e)/\(∀ a b,v=.ref a->u=.ref b->RcAt A s v u (eqF (n + 1) d e)):=by
   rintro ⟨a,rfl⟩ ⟨b,rfl⟩ h
   refine ⟨?_,h⟩
   by_cases hab:a=b
   ·subst hab
    rw [same a rfl rfl]
    exact EqAt.same _
   ·exact .of_refs hab (h a b rfl rfl)
  cases d with
  | int i=>
   cases rx
   obtain ⟨t,rfl⟩:=rv
   refine ⟨?_,fun a b z=>nomatch z⟩
   cases e with
   | int j=>
    cases ry
    obtain ⟨t',rfl⟩:=ru
    exact EqAt.int_int i t j t'
   | tup ys=>
    cases ry with
    | tup hb rb=>
     cases ru
     obtain ⟨its,w1,pl,_⟩:=I.tuple (SqT.of (sg _ _ hb))
     exact EqAt.int_tuple i t pl hu0
   | lst ys=>
    cases ry with
    | lst hb rb=>
     cases ru
     obtain ⟨its,w1,pl,_⟩:=I.list (SqL.of (sg _ _ hb))
     exact EqAt.int_list i t pl.isList hu0
   | _=>exact pe.elim
  | tup xs=>
   cases rx with
   | @tup a vs _ ha ra=>
    cases rv
    obtain ⟨its,w1,pl,_⟩:=I.tuple (SqT.of (sg _ _ ha))
    cases e with
    | int j=>
     cases ry
     obtain ⟨t',rfl⟩:=ru
     exact ⟨EqAt.tuple_int j t' pl hu0,fun a b _ z=>nomatch z⟩
    | tup ys=>
     cases ry with
     | @tup b us _ hb rb=>
      cases ru
      obtain ⟨its2,w2,pl2,_⟩:=I.tuple (SqT.of (sg _ _ hb))
      refine lift ⟨_,rfl⟩ ⟨_,rfl⟩ fun _ _ _ _=>?_
      have z:=RcAt.tuples (A:=A) (s:=s) pl pl2 hu0 (items w1 w2 ra rb pd pe)
      have e1:((List.range (min its.toArray.size its2.toArray.size)).all (atZip n xs ys) && its.toArray.size == its2.toArray.size)=eqF (n + 1) (.tup xs) (.tup ys):=by
       show _=(xs.length == ys.length && (xs.zip ys).all fun p=>eqF n p.1 p.2)
       rw [<- Zgr,List.size_toArray,List.size_toArray,<- w1.length,<- w2.length,ra.length,rb.length,Bool.and_comm]
      rw [e1] at z
      exact z
    | lst ys=>
     cases ry with
     | @lst b us _ hb rb=>
      cases ru
      obtain ⟨its2,w2,pl2,_⟩:=I.list (SqL.of (sg _ _ hb))
      exact ⟨EqAt.tuple_list pl pl2.isList hu0,fun _ _ _ _=>RcAt.tuple_list pl pl2.isList hu0⟩
    | _=>exact pe.elim
  | lst xs=>
   cases rx with
   | @lst a vs _ ha ra=>
    cases rv
    obtain ⟨its,w1,pl,_⟩:=I.list (SqL.of (sg _ _ ha))
    cases e with
    | int j=>
     cases ry
     obtain ⟨t',rfl⟩:=ru
     exact ⟨EqAt.list_int j t' pl.isList hu0,fun a b _ z=>nomatch z⟩
    | tup ys=>
     cases ry with
     | @tup b us _ hb rb=>
      cases ru
      obtain ⟨its2,w2,pl2,_⟩:=I.tuple (SqT.of (sg _ _ hb))
      exact ⟨EqAt.list_tuple pl.isList pl2 hu0,fun _ _ _ _=>RcAt.list_tuple pl.isList pl2 hu0⟩
    | lst ys=>
     cases ry with
     | @lst b us _ hb rb=>
      cases ru
      obtain ⟨its2,w2,pl2,_⟩:=I.list (SqL.of (sg _ _ hb))
      refine lift ⟨_,rfl⟩ ⟨_,rfl⟩ fun _ _ _ _=>?_
      have l1:=w1.length
      have l2:=w2.length
      have l3:=ra.length
      have l4:=rb.length
      by_cases hl:xs.length=ys.length
      ·have hsz:its.toArray.size=its2.toArray.size:=by rw [List.size_toArray,List.size_toArray]; omega
       have z:=RcAt.lists (A:=A) (s:=s) pl.isList pl2.isList hsz hu0 (items w1 w2 ra rb pd pe)
       have e1:(List.range its.toArray.size).all (atZip n xs ys)=eqF (n + 1) (.lst xs) (.lst ys):=by
        show _=(xs.length == ys.length && (xs.zip ys).all fun p=>eqF n p.1 p.2)
        rw [<- Zgr,List.size_toArray,hl,beq_self_eq_true,Bool.true_and,Nat.min_self,show its.length=ys.length by omega]
       rw [e1] at z
       exact z
      ·have z:=RcAt.lists_lengths (A:=A) (s:=s) pl.isList pl2.isList (by rw [List.size_toArray,List.size_toArray]; simp; omega) hu0
       have e1:eqF (n + 1) (.lst xs) (.lst ys)=false:=by
        show (xs.length == ys.length && (xs.zip ys).all fun p=>eqF n p.1 p.2)=false
        rw [beq_eq_false_iff_ne.mpr hl,Bool.false_and]
       rw [e1]
       exact z
    | _=>exact pe.elim
  | _=>exact pd.elim
def rEqD (K:PySem.W.Frag):R2:=fun x y H Q=>∃ G d e n,Same G H/\Rep K G x d/\Rep K G y e/\Dp n d/\Dp n e/\n<=5/\(∃ a,x=.ref a)/\(∃ b,y=.ref b)/\Q (.bl (eqF n d e)) H
theorem eqDK (K:PySem.W.Frag) (hv:X.A.units + 8 < cLine) (hK:X.K=K:=by rfl):OpR X (compareOp .Eq) (rEqD K):=by
 subst hK
 intro pins s σ H x y v u Q I rx ry h
 obtain ⟨G,d,e,n,sg,r1,r2,p1,p2,hn,⟨a,rfl⟩,⟨b,rfl⟩,q⟩:=h
 cases rx; cases ry
 exact (Zl4 n I sg r1 r2 rfl rfl p1 p2 (A:=X.A) (by omega)).2 a b rfl rfl X.prog X.w _ _ ⟨.bl _,H,I,rfl,q⟩
end
section
variable {K:PySem.W.Frag} {Δ:Evt} {P:D->Evt->Prop}
def isSeqD:D->Bool
 | .tup _=>true
 | .lst _=>true
 | _=>false
theorem Zid {G:Hp} {x:V} {d:D} (r:Rep K G x d) (h:isSeqD d=true):∃ a,x=.ref a:=by
 cases r with
 | tup _ _=>exact ⟨_,rfl⟩
 | lst _ _=>exact ⟨_,rfl⟩
 | _=>cases h
theorem Zn3 {n:Nat} {d e:D} (hn:n<=5) (pd:Dp n d) (pe:Dp n e) (sd:isSeqD d=true) (se:isSeqD e=true) (p:P (.bl (eqF n d e)) Δ):JR2 K (rEqD K) d e Δ P:=fun g G H σ Q x y k rx ry c=>
 ⟨G,d,e,n,k.live,rx,ry,pd,pe,hn,Zid rx sd,Zid ry se,c _ _ G H Δ k (Same.refl _) (.bl _) p⟩
end
end L2
set_option Elab.async false
set_option linter.all false
set_option maxRecDepth 100000
namespace L2
open PySem PySem.Spec PyProof.Rows PySem.SeqAt
section
variable {prog:Program} {w:World}
end
section
variable {prog:Program} {w:World} {A:Around} {E:Value->Shared->Prop} {s:Shared}
end
end L2
namespace L2
open PySem PySem.Spec PyProof.Rows PySem.SeqAt
end L2
namespace L2
open PySem PySem.Spec PyProof.Rows PySem.SeqAt
section
variable {prog:Program} {w:World} {A:Around} {E:Value->Shared->Prop} {s:Shared}
end
end L2
namespace L2
open PySem PySem.Spec PyProof.Rows PySem.SeqAt
end L2
namespace L2
open PySem PySem.Spec PyProof.Rows PySem.SeqAt
end L2
namespace L2
open PySem PySem.Spec PyProof.Rows PySem.SeqAt
section
variable {K:PySem.W.Frag} {Δ:Evt}
end
end L2
set_option Elab.async false
set_option linter.all false
set_option maxRecDepth 100000
namespace L2
open PySem PySem.Spec PyProof.Rows
section
variable {X:Cx}
end
end L2
set_option Elab.async false
set_option linter.all false
set_option maxRecDepth 100000
namespace L2
open PySem PySem.Spec PyProof.Rows PySem.SeqAt
section
variable {X:Cx}
theorem intsAt {its:List Value} {ns:List Int} (hi:IntsAre its ns):∀ j (h:j < its.length),∃ t,its[j]=.int (ns.getD j 0) t:=by
 induction hi with
 | nil=>intro j h; simp at h
 | cons n t _ ih=>
  intro j h
  cases j with
  | zero=>exact ⟨t,rfl⟩
  | succ j=>simpa using ih j (by simpa using h)
def rNeI (K:PySem.W.Frag):R2:=fun x y H Q=>∃ (a b:Addr) (ns:List Int),x=.ref a/\y=.ref b/\SqL K H a (ns.map V.int)/\SqL K H b (ns.map V.int)/\Q (.bl false) H
theorem neIK (K:PySem.W.Frag) (hv:X.A.units + 8 < cLine) (hK:X.K=K:=by rfl):OpR X (compareOp .NotEq) (rNeI K):=by
 subst hK
 intro pins s σ H x y v u Q I rx ry h
 obtain ⟨a,b,ns,rfl,rfl,ha,hb,q⟩:=h
 cases rx; cases ry
 obtain ⟨its,w1,p1,_⟩:=I.list ha
 obtain ⟨its2,w2,p2,_⟩:=I.list hb
 have i1:=Zc9 w1
 have i2:=Zc9 w2
 have l1:=i1.length
 have l2:=i2.length
 have hsz:its.toArray.size=its2.toArray.size:=by rw [List.size_toArray,List.size_toArray]; omega
 refine RcNeAt.lists (A:=X.A) (s:=s) (e:=fun _=>true) p1.isList p2.isList hsz (by omega) (fun j h1 h2=>?_) X.prog X.w _ _ ?_
 ·rw [List.size_toArray] at h1 h2
  obtain ⟨t1,e1⟩:=intsAt i1 j h1
  obtain ⟨t2,e2⟩:=intsAt i2 j h2
  rw [List.getElem_toArray,List.getElem_toArray,e1,e2]
  have:=EqAt.int_int (A:=X.A.in1) (s:=s) (ns.getD j 0) t1 (ns.getD j 0) t2
  rw [beq_self_eq_true] at this
  exact this
 ·have:(!(List.range its.toArray.size).all fun _=>true)=false:=by
   rw [List.all_eq_true.mpr (fun _ _=>rfl)]; rfl
  rw [this]
  exact ⟨.bl false,H,I,rfl,q⟩
end
section
variable {K:PySem.W.Frag} {Δ:Evt} {P:D->Evt->Prop}
theorem Zo5 {ns:List Int} (p:P (.bl false) Δ):JR2 K (rNeI K) (.lst (ns.map .int)) (.lst (ns.map .int)) Δ P:=fun g G H σ Q x y k rx ry c=>by
 obtain ⟨a,vs,rfl,ha,rs⟩:=rx.inv
 next=>
  obtain ⟨b,us,rfl,hb,rt⟩:=ry.inv
  next=>
   have e1:=rs.ints
   have e2:=rt.ints
   subst e1 e2
   exact ⟨a,b,ns,rfl,rfl,SqL.of (k.live _ _ ha),SqL.of (k.live _ _ hb),c _ _ G H Δ k (Same.refl _) (.bl _) p⟩
end
end L2
set_option Elab.async false
set_option linter.all false
set_option maxRecDepth 100000
namespace L2
open PySem PySem.Spec PyProof.Rows
section
variable {K:PySem.W.Frag} {Δ:Evt} {P:D->Evt->Prop}
theorem Ze7 {r r':R2} {ta tb tc:TE} (h:JE K ta Δ fun d Δ1=>JE K tb Δ1 fun e Δ2=>JR2 K r d e Δ2 fun z Δ3=>∃ k,z=.bl k/\if k=true then JE K tc Δ3 fun u Δ4=>JR2 K r' e u Δ4 P else P (.bl false) Δ3):JE K (tChain r r' ta tb tc) Δ P:=fun g G H σ Q k c=>
 h g G H σ _ k fun x d G1 H1 Δ1 k1 s1 r1 p1=>p1 g G1 H1 σ _ k1 fun y e G2 H2 Δ2 k2 s2 r2 p2=>p2 g G2 H2 σ _ x y k2 (r1.mono s2) r2 fun z dz G3 H3 Δ3 k3 s3 r3 hq_=>by
  obtain ⟨b,eb,p3⟩:=hq_
  subst eb
  cases r3.inv
  refine ⟨b,rfl,?_⟩
  cases b with
  | true=>
   rw [if_pos rfl] at p3 ⊢
   exact p3 g G3 H3 σ _ k3 fun u du G4 H4 Δ4 k4 s4 r4 p4=>p4 g G4 H4 σ Q y u k4 (r2.mono (s3.trans s4)) r4 (c.up (s1.trans (s2.trans (s3.trans s4))))
  | false=>
   rw [if_neg Bool.false_ne_true] at p3 ⊢
   exact c _ _ G3 H3 Δ3 k3 (s1.trans (s2.trans s3)) (.bl false) p3
end
end L2
set_option Elab.async false
set_option linter.all false
set_option maxRecDepth 100000
namespace L2
open PySem PySem.Spec PyProof.Rows
section
variable {K:PySem.W.Frag} {Δ:Evt}
end
end L2
set_option Elab.async false
set_option linter.all false
set_option maxRecDepth 100000
namespace L2
open PySem PySem.Spec PyProof.Rows PySem.SeqAt
section
variable {K:PySem.W.Frag} {Δ:Evt} {P:D->Evt->Prop}
end
end L2
set_option Elab.async false
set_option linter.all false
set_option maxRecDepth 100000
namespace L2
open PySem PySem.Spec PyProof.Rows
end L2
set_option Elab.async false
set_option linter.all false
set_option maxRecDepth 100000
namespace L2
open PySem PySem.Spec PyProof.Rows
section
variable {K:PySem.W.Frag} {Δ:Evt}
end
end L2
set_option Elab.async false
set_option linter.all false
set_option maxRecDepth 100000
namespace L2
open PySem PySem.Spec PyProof.Rows
section
variable {prog:Program} {w:World} {A:Around} {E:Value->Shared->Prop} {s:Shared}
theorem Zgq {l:Addr} {vs:List Value} {Q:List Value->Shared->Prop} (hl:s.heap.IsTuple l vs.toArray)
  (h:Q vs { s with heap:=(s.heap.push (seqObj "list" #[] 0)).update s.heap.objs.size (Obj.mapSeq (· ++ vs.toArray)) }) (hsz:vs.length<=sizeLine) :
  wpAny (model prog w) A (collect (.ref l)) Q E s:=by
 obtain ⟨o,ho,hc,n,hd⟩:=id hl
 unfold collect
 refine wpAny_bind (wpAny_runValue (codeAny_builtin entry_proto_collect' ?_))
 show wpAny _ _ (do again (.builtin "list.__iadd__" ⟨[← newList [],.ref l],[]⟩)) _ _ s
 refine wpAny_bind (wpAny_newList (wpAny_pure ⟨Code.quiet_builtin _ (by decide +kernel),codeAny_builtin entry_list_iadd' ?_⟩))
 show wpAny _ _ (Builtin.List.listExtendWith (.ref s.heap.objs.size) (.ref l) (.ref s.heap.objs.size)) _ _ { s with heap:=s.heap.push (seqObj "list" #[] 0) }
 unfold Builtin.List.listExtendWith
 have ho':(s.heap.push (seqObj "list" #[] 0)).get? l=some o:=Heap.get?_push_of_some _ ho
 refine wpAny_bind (wpAny_typeOf (T:="tuple") ⟨o,ho',hc⟩ ?_)
 have ht:(Value.type "tuple" == Value.type "tuple")=true:=by rfl
 rw [if_pos (by rw [ht]; simp)]
 refine wpAny_bind (listItems_at ho' hd ?_)
 refine wpAny_bind (listItems_at (xs:=#[]) (n:=0) (Heap.get?_push_size _ rfl) rfl ?_)
 rw [if_neg (by simp)]
 refine wpAny_bind (listUpdate_at (xs:=#[]) (n:=0) (Heap.get?_push_size _ rfl) rfl ?_ (Nat.zero_le _) (by show (#[] ++ vs.toArray).size<=sizeLine + 1; simp only [Array.size_append,List.size_toArray,List.length_nil]; omega))
 refine wpAny_pure ?_
 show wpAny (model prog w) A (do
   let o ← load s.heap.objs.size
   match o.data with
   | .seq xs _=>pure xs.toList
   | _=>unsupported "internal:collect") Q E { s with heap:=(s.heap.push (seqObj "list" #[] 0)).update s.heap.objs.size (Obj.mapSeq (· ++ vs.toArray)) }
 refine wpAny_bind (wpAny_load (get?_update_seq (Heap.get?_push_size _ rfl) _) ?_)
 show wpAny _ _ (pure ((#[]:Array Value) ++ vs.toArray).toList) Q E _
 rw [show ((#[]:Array Value) ++ vs.toArray).toList=vs by simp]
 exact wpAny_pure h
theorem Zf9 {l:Addr} {vs:List Value} {ns:List Int} {Q:Value->Shared->Prop} (hl:s.heap.IsTuple l vs.toArray) (hI:IntsAre vs ns) (h64:vs.length < 64)
  (h:∀ (out:Array Value) (ns':List Int),IntsAre out.toList ns' -> ns'.Perm ns->ns'.Pairwise (· <= ·)->Q (.ref (s.heap.objs.size + 1)) { s with heap:=sortedAll s.heap vs out }) :
  wpAny (model prog w) A (call (.builtin "sorted") [.ref l]) Q E s:=by
 refine Calls.call_function_entry kind_sorted plain_sorted entry_sorted (args_sorted1 _) ?_
 unfold Builtin.«sorted»
 refine wpAny_bind (m:=checkCount "sorted" 1 1 _) (wpAny_pure ?_)
 refine wpAny_bind (Zgq hl ?_ (Nat.le_of_lt (small1000 (by omega))))
 refine wpAny_bind (wpAny_newList ?_)
 have hsz:((s.heap.push (seqObj "list" #[] 0)).update s.heap.objs.size (Obj.mapSeq (· ++ vs.toArray))).objs.size=s.heap.objs.size + 1:=by
  rw [Heap.size_update,size_push']
 have hoL:(((s.heap.push (seqObj "list" #[] 0)).update s.heap.objs.size (Obj.mapSeq (· ++ vs.toArray))).push (seqObj "list" vs.toArray 0)).get? (s.heap.objs.size + 1)=some (seqObj "list" vs.toArray 0):=by
  rw [<- hsz]; exact Heap.get?_push_size _ rfl
 show wpAny _ _ _ _ _ { s with heap:=((s.heap.push (seqObj "list" #[] 0)).update s.heap.objs.size (Obj.mapSeq (· ++ vs.toArray))).push (seqObj "list" vs.toArray 0) }
 rw [hsz]
 refine wpAny_bind (wpAny_holding (wpAny_call_entry slot_list_sort ⟨_,hoL,rfl⟩ entry_list_sort (list_sort_tree hoL hI h64 fun out ns' a1 a2 a3=>⟨_,rfl,?_⟩) (args_list_sort _)))
 exact wpAny_pure ⟨_,rfl,h out ns' a1 a2 a3⟩
end
section
variable {X:Cx}
def rSortT (K:PySem.W.Frag):List V->Hp->VK->Prop:=fun xs H Q=>∃ (p:Addr) (ns:List Int),xs=[.ref p]/\SqT K H p (ns.map V.int)/\ns.length < 64/\∀ (l:Addr) (ms:List Int),ms.Perm ns->ms.Pairwise (· <= ·)->H l=none->Q (.ref l) (upd H l (.lst (ms.map V.int)))
theorem sortTK (K:PySem.W.Frag) (hK:X.K=K:=by rfl):CallR X (.builtin "sorted") (rSortT K):=by
 subst hK
 intro pins s σ H xs us Q I r h
 obtain ⟨p,ns,rfl,hx,hl,q⟩:=h
 obtain ⟨u,rfl,ru⟩:=vals1 r
 cases (show u=Value.ref p from ru)
 obtain ⟨its,w1,p1⟩:=I.seqB (b:=true) hx
 have hi:=Zc9 w1
 have hlen:=hi.length
 refine Zf9 p1 hi (by omega) fun out ms o1 o2 o3=>?_
 obtain ⟨e,he⟩:=sortedAll_at s.heap its out
 have hml:=o2.length_eq
 refine ⟨.ref (s.heap.objs.size + 1),_,I.laid (t':=s.toks) (fun _ _ z=>sortedAll_old z) (Nat.le_succ _) (show ObjOk X.prog X.w _ _ _ (.lst (ms.map V.int)) from ⟨?_,out.toList,e,Zd9 o1,?_⟩),rfl,q _ ms o2 o3 (I.hok.fresh (Nat.le_succ _))⟩
 ·rw [List.length_map]; exact Nat.le_of_lt (small1000 (by omega))
 ·rw [Array.toArray_toList]; exact he
end
section
variable {K:PySem.W.Frag} {Δ:Evt} {P:D->Evt->Prop}
theorem Zhp {ta:TA} {Po:OD->Evt->Prop} (h:JA K ta Δ fun ds Δ1=>∃ ns:List Int,ds=[.tup (ns.map .int)]/\ns.length < 64/\∀ ms:List Int,ms.Perm ns->ms.Pairwise (· <= ·)->Po (.lst (ms.map .int)) Δ1):JO K (tCB (rSortT K) ta) Δ Po:=fun g G H σ Q k c=>
 h g G H σ _ k fun vs ds G1 H1 Δ1 k1 s1 r1 hq_=>by
  obtain ⟨ns,e,hl,p⟩:=hq_
  subst e
  obtain ⟨_,_,rfl,r,t⟩:=r1.inv
  next=>
   cases t.inv
   obtain ⟨a,us,rfl,ha,rr⟩:=r.inv
   next=>
    have ev:=rr.ints
    subst ev
    refine ⟨a,ns,rfl,SqT.of (k1.live _ _ ha),hl,fun l ms o1 o2 hl=>?_⟩
    obtain ⟨k2,pd⟩:=k1.fresh (od:=.lst (ms.map .int)) hl (show OwnRep K G1 (.lst (ms.map V.int)) (.lst (ms.map .int)) from Reps.ofInts ms)
    exact c l _ G1 _ Δ1 k2 s1 pd (p ms o1 o2)
end
end L2
set_option Elab.async false
set_option linter.all false
set_option maxRecDepth 100000
namespace L2
open PySem PySem.Spec PyProof.Rows
section
variable {M:Model} {A:Around} {E:Value->Shared->Prop} {s:Shared}
theorem Zga:typeLookup (.type "list") (dunderI "add")=pure (some (.builtin "list.__iadd__")):=F.slot_list_iadd.lookup
theorem Zfk {a b:Value} {Q:Value->Shared->Prop} (ha:s.TypeIs a "list") (hb:s.TypeIs b "list") (hc:wpAny M A (call (.builtin "list.__iadd__") [a,b]) Q E s):wpAny M A (inplaceOp .Add a b) Q E s:=by
 unfold inplaceOp
 refine wpAny_holding ?_
 have hfi:fillsInplaceSlot (.type "list") "add" (Operator.Add == .Add)=pure false:=by
  unfold fillsInplaceSlot
  show (typeLookup (.type "list") (dunderI "add") >>= fun fi=>pure (fi.isSome && !isSeqSlot fi))=pure false
  rw [Zga,pure_bind]
  have:isSeqSlot (some (.builtin "list.__iadd__"))=true:=by decide +kernel
  rw [this]; rfl
 have hsi:seqSlot? (.type "list") (dunderI "add")=pure (some (.builtin "list.__iadd__")):=PySem.seqSlot_of Zga (by decide +kernel)
 refine wpAny_bind (wpAny_typeOf ha (wpAny_bind (wpAny_of_eq hfi ?_)))
 show wpAny M A (if false=true then _ else _) Q E s
 rw [if_neg Bool.false_ne_true]
 refine wpAny_bind (wpAny_binaryOp1_none (nm:="add") ha hb noFill_list_add ?_)
 refine wpAny_bind (wpAny_of_eq hsi ?_)
 exact wpAny_bind (wpAny_rule hc)
end
section
variable {X:Cx}
def rIaddL:TIp:=fun x y H Q=>∃ a b xs ys,x=.ref a/\y=.ref b/\H a=some (.lst xs)/\H b=some (.lst ys)/\xs.length + ys.length<=sizeLine/\Q (.ref a) (upd H a (.lst (xs ++ ys)))
theorem Zjg:PIp X .Add rIaddL:=by
 intro pins s σ H x y v u Q I rx ry h
 obtain ⟨l,b,xs,zs,rfl,rfl,hH,hB,hz,q⟩:=h
 cases rx
 cases ry
 obtain ⟨z,its,n,r,hl,e⟩:=I.lstM hH
 obtain ⟨z2,its2,n2,r2,hl2,e2⟩:=I.lstM hB
 have hsz:its.toArray.size + its2.toArray.size<=sizeLine:=by rw [List.size_toArray,List.size_toArray]; omega
 have hlong:¬ (!its.toArray.isEmpty && Builtin.List.listTooLong (its.toArray.size + its2.toArray.size))=true:=by
  rw [notLongL hsz,Bool.and_false]
  exact Bool.false_ne_true
 refine Zfk ⟨_,e,rfl⟩ ⟨_,e2,rfl⟩ ?_
 refine call_meets F.slot_list_iadd ⟨_,e,rfl⟩ F.entry_list_iadd (F.args_list_iadd_2 _ _)
  (AutoSeq1.list___iadd___list_list_0 l its.toArray n b its2.toArray n2 hlong (by rw [List.size_toArray]; omega) (by omega)) ⟨e,e2,?_⟩
 refine ⟨.ref l,_,I.lset (its':=its ++ its2) hH e (by simp) (r.append r2) ?_,rfl,q⟩
 rw [List.length_append]
 omega
def rStrU:List V->Hp->VK->Prop:=fun xs H Q=>(∃ i,xs=[.int i]/\i.natAbs.log2 < 1920/\Q (.str (toString i)) H)\/∃ x,xs=[.str x]/\Q (.str x) H
theorem strUK:CallR X (.type "str") rStrU:=by
 intro pins s σ H xs us Q I r h
 rcases h with ⟨i,rfl,hz,q⟩ | ⟨x,rfl,q⟩
 ·obtain ⟨u,rfl,t,rfl⟩:=vals1 r
  exact PySem.P.str_of_int hz ⟨.str _,H,I.tok _,⟨_,rfl⟩,q⟩
 ·obtain ⟨u,rfl,t,rfl⟩:=vals1 r
  exact PySem.P.str_of_str ⟨.str _,H,I,⟨_,rfl⟩,q⟩
def rJoin (K:PySem.W.Frag):V->List V->Hp->VK->Prop:=fun x vs H Q=>∃ sep p zs,x=.str sep/\vs=[.ref p]/\SqL K H p (zs.map V.str)/\zs.foldl (fun n z=>n + z.length + sep.length) 0<=sizeLine/\Q (.str (Str.join sep zs)) H
theorem Zjk:∀ {zs:List Str} {us:List Value},Vals (zs.map V.str) us->∃ l:List (Str × Tok),us=strValues l/\l.map (·.1)=zs
 | [],_,r=>by cases r; exact ⟨[],rfl,rfl⟩
 | z :: zs,_,r=>by
  cases r with
  | cons r rr=>
   obtain ⟨t,rfl⟩:=r
   obtain ⟨l,rfl,e⟩:=Zjk rr
   exact ⟨(z,t) :: l,rfl,by rw [List.map_cons,e]⟩
theorem Zfg (k:Nat):∀ (zs:List Str) (n:Nat),zs.foldl (fun n z=>n + z.length + k) n=n + (zs.map fun z=>z.length + k).sum
 | [],n=>by simp
 | z :: zs,n=>by rw [List.foldl_cons,Zfg k zs,List.map_cons,List.sum_cons]; omega
theorem Zcr (sep:Str):∀ zs:List Str,(Str.join sep zs).length<=(zs.map fun z=>z.length + sep.length).sum
 | []=>by show Str.empty.length<=_; exact Nat.zero_le _
 | [x]=>by show x.length<=_; simp only [List.map_cons,List.map_nil,List.sum_cons,List.sum_nil]; omega
 | x :: y :: r=>by
  have h:=Zcr sep (y :: r)
  show (x ++ sep ++ Str.join sep (y :: r)).length<=_
  rw [List.map_cons,List.sum_cons,Str.length_append,Str.length_append]
  omega
theorem joinK (K:PySem.W.Frag) (hK:X.K=K:=by rfl):MtM X "str.join" (rJoin K):=by
 subst hK
 intro pins s σ H x vs v us Q I rx rv h
 obtain ⟨sep,p,zs,rfl,rfl,hx,hz,q⟩:=h
 obtain ⟨t,rfl⟩:=rx
 obtain ⟨u,rfl,ru⟩:=rv.one
 cases (show u=Value.ref p from ru)
 obtain ⟨its,w1,p1,_⟩:=I.list hx
 obtain ⟨l,rfl,e⟩:=Zjk w1
 have hT:s.TypeIs (.str sep t) "str":=typeIs_str s sep t
 have hlen:Builtin.Str.tooLong ((l.map (·.1)).toArray.foldl (· + ·.length + sep.length) 0)=false:=by
  unfold Builtin.Str.tooLong
  rw [e,List.foldl_toArray]
  exact decide_eq_false (by omega)
 refine call_meets PySem.F.slot_str_join hT PySem.F.entry_str_join (PySem.F.args_str_join_2 _ _) (meets_str_join_list sep t p l hlen) ⟨p1.isList,?_⟩
 have key:∀ (s':Shared) (t':Tok),Inv X pins σ H s' -> EP X pins σ Q (.str (Str.join sep zs) t') s':=fun s' t' I'=>⟨.str _,H,I',⟨_,rfl⟩,q⟩
 subst e
 rcases l with _ | ⟨a,_ | ⟨b,r⟩⟩
 ·exact ⟨by show Str.empty.length<=_; exact Nat.zero_le _,key _ _ (I.tok _)⟩
 ·exact key _ _ I
 ·have e2:Builtin.Str.glued sep ((a :: b :: r).map (·.1))=Str.join sep ((a :: b :: r).map (·.1)):=StrLaws.glued_eq_join sep _
  have hj:=Zcr sep ((a :: b :: r).map (·.1))
  rw [Zfg] at hz
  rw [<- e2] at key hj
  exact ⟨by omega,key _ _ (I.tok _)⟩
end
section
variable {K:PySem.W.Frag} {Δ:Evt} {P:D->Evt->Prop}
def rAddS:R2:=fun x y H Q=>∃ i j,x=.str i/\y=.str j/\i.length + j.length<=sizeLine/\Q (.str (i ++ j)) H
theorem Zcz {x y:Str} (hz:x.length + y.length<=sizeLine) (p:P (.str (x ++ y)) Δ):JR2 K rAddS (.str x) (.str y) Δ P:=fun g G H σ Q u v k rx ry c=>by
 cases rx.inv; cases ry.inv
 exact ⟨x,y,rfl,rfl,hz,c _ _ G H Δ k (Same.refl _) (.str _) p⟩
theorem Zos {x:Str} (p:P (.bl false) Δ):JR2 K rNe (.str x) (.str x) Δ P:=fun g G H σ Q u v k rx ry c=>by
 cases rx.inv; cases ry.inv
 refine ⟨rfl,?_⟩
 rw [decide_eq_true rfl]
 exact c _ _ G H Δ k (Same.refl _) (.bl _) p
theorem Zdb {i:Int} (hz:i.natAbs.log2 < 1920) (p:P (.str (toString i)) Δ):JC K rStrU [.int i] Δ P:=fun g G H σ Q vs k rs c=>by
 obtain ⟨_,_,rfl,r,t⟩:=rs.inv
 next=>cases t.inv; cases r.inv; exact .inl ⟨i,rfl,hz,c _ _ G H Δ k (Same.refl _) (.str _) p⟩
theorem Zmo {x:Str} (p:P (.str x) Δ):JC K rStrU [.str x] Δ P:=fun g G H σ Q vs k rs c=>by
 obtain ⟨_,_,rfl,r,t⟩:=rs.inv
 next=>cases t.inv; cases r.inv; exact .inr ⟨x,rfl,c _ _ G H Δ k (Same.refl _) (.str _) p⟩
theorem Reps.strs {G:Hp} {vs:List V}:∀ {zs:List Str},Reps K G vs (zs.map D.str)->vs=zs.map V.str:=by
 induction vs with
 | nil=>intro ns h; cases ns with
  | nil=>rfl
  | cons n ns=>cases h
 | cons v vs ih=>intro ns h; cases ns with
  | nil=>cases h
  | cons n ns=>
   cases h with
   | cons r t=>cases r.inv; rw [ih t]; rfl
theorem Ze4 {to te:TE} (h:JE K to Δ fun d Δ1=>∃ sep,d=.str sep/\JE K te Δ1 fun e Δ2=>∃ zs:List Str,e=.lst (zs.map D.str)/\zs.foldl (fun n z=>n + z.length + sep.length) 0<=sizeLine/\P (.str (Str.join sep zs)) Δ2) :
  JE K (tBM K "str" (rJoin K) to (tCons te tNil)) Δ P:=fun g G H σ Q k c=>
 h g G H σ _ k fun v d G1 H1 Δ1 k1 s1 r1 hq_=>by
  obtain ⟨sep,e,p1⟩:=hq_
  subst e
  cases r1.inv
  refine ⟨rfl,p1 g G1 H1 σ _ k1 fun u e G2 H2 Δ2 k2 s2 r2 ⟨zs,e2,hz,p⟩=>?_⟩
  subst e2
  obtain ⟨a,us,rfl,ha,rr⟩:=r2.inv
  next=>
   have ev:=rr.strs
   subst ev
   exact ⟨sep,a,zs,rfl,rfl,SqL.of (k2.live _ _ ha),hz,c _ _ G2 H2 Δ2 k2 (s1.trans s2) (.str _) p⟩
theorem Zik {i:Nat} {te:TE} {x:Slot} {ds0:List D} {nx bk ct:Evt->Prop} {rt:D->Evt->Prop} {ro:OD->Evt->Prop} (hx:Δ[i]? = some x) (ho:x.od=some (.lst ds0))
  (h:JE K te Δ fun e Δ1=>∃ y ds es,Δ1[i]? = some y/\y.od=some (.lst ds)/\e=.lst es/\ds.length + es.length<=sizeLine/\nx (Δ1.set i (y.put (.lst (ds ++ es))))):JS K (tAug i te rIaddL) Δ ⟨nx,rt,bk,ct,ro⟩:=fun g G H σ E k c=>by
 obtain ⟨a,o,h1,h2,h3,h4,h5⟩:=k.own i x _ hx ho
 refine ⟨.ref a,h1,h g G H σ _ k fun v e G1 H1 Δ1 k1 s1 r1 ⟨y,ds,es,q1,q2,q3,q4,p⟩=>?_⟩
 subst q3
 obtain ⟨a',o',w1,w2,w3,w4,w5⟩:=k1.own i y _ q1 q2
 rw [h1] at w1; cases w1
 cases o' with
 | lst vs=>
  have w3:Reps K G1 vs ds:=w3
  obtain ⟨b,us,rfl,hb,rr⟩:=r1.inv
  next=>
   refine ⟨a,b,vs,us,rfl,rfl,w2,k1.live _ _ hb,by rw [w3.length,rr.length]; exact q4,?_⟩
   have e1:σ.set i (some (.ref a)) = σ:=by
    apply List.ext_getElem?
    intro j
    by_cases hj:j=i
    ·subst hj; rw [List.getElem?_set_self (k.lt hx),h1]
    ·rw [List.getElem?_set_ne (Ne.symm hj)]
   show E.nx (σ.set i (some (.ref a))) _
   rw [e1]
   exact c.nx σ G1 _ _ (k1.write q1 q2 h1 (show OwnRep K G1 (.lst (vs ++ us)) (.lst (ds ++ es)) from w3.append rr)) p
 | _=>exact absurd w3 (fun z=>z)
end
end L2
set_option Elab.async false
set_option linter.all false
set_option maxRecDepth 100000
namespace L2
open PySem PySem.Spec PyProof.Rows
end L2
set_option Elab.async false
set_option linter.all false
set_option maxRecDepth 100000
namespace L2
open PySem PySem.Spec PyProof.Rows
end L2
set_option Elab.async false
set_option linter.all false
set_option maxRecDepth 100000
namespace L2
open PySem PySem.Spec PyProof.Rows
section
variable {X:Cx}
end
end L2
set_option Elab.async false
set_option linter.all false
set_option maxRecDepth 100000
namespace L2
open PySem PySem.Spec PyProof.Rows
end L2
set_option Elab.async false
set_option linter.all false
set_option maxRecDepth 100000
namespace L2
open PySem PySem.Spec PyProof.Rows
end L2
set_option Elab.async false
set_option linter.all false
set_option maxRecDepth 100000
namespace L2
open PySem PySem.Spec PyProof.Rows
section
variable {K:PySem.W.Frag} {Δ:Evt}
end
section
variable {K:PySem.W.Frag} {Δ:Evt} {P:D->Evt->Prop}
end
end L2
set_option Elab.async false
set_option linter.all false
set_option maxRecDepth 100000
namespace L2
open PySem PySem.Spec PyProof.Rows
section
variable {X:Cx} {pins:List (Addr × Obj)} {σ:St} {H H':Hp} {s:Shared} {h':Heap} {b:Addr}
end
section
variable {X:Cx} {pins:List (Addr × Obj)} {σ:St} {H H':Hp} {s:Shared} {h':Heap} {a C T:Addr}
variable {M:Model} {E:Value->Shared->Prop} {Q:Unit->Shared->Prop}
end
end L2
set_option Elab.async false
set_option linter.all false
set_option maxRecDepth 100000
namespace L2
open PySem PySem.Spec PyProof.Rows
end L2
set_option Elab.async false
set_option linter.all false
set_option maxRecDepth 100000
namespace L2
open PySem PySem.Spec PyProof.Rows
end L2
set_option Elab.async false
set_option linter.all false
set_option maxRecDepth 100000
namespace L2
open PySem PySem.Spec PyProof.Rows
abbrev XT (X:Cx) (pn:List (Addr × Obj)) (xe:Value->Shared->Prop):Cx:={ X with pn:=pn,xe:=xe }
theorem Cx.Ok.try_ {X:Cx} (ok:X.Ok) (pn:List (Addr × Obj)) (xe:Value->Shared->Prop):(XT X pn xe).Ok:=
 ⟨ok.mod,ok.kind,ok.glob,ok.blt,ok.above,ok.inj,ok.has,ok.cab,ok.hd,ok.frames,ok.stk,ok.exf,ok.bs,ok.bsz,ok.noex,ok.exfs,ok.funs,ok.frf⟩
section
variable {X:Cx} {pins:List (Addr × Obj)} {σ:St} {H:Hp} {s:Shared} {a C:Addr}
theorem Inv.into {xe:Value->Shared->Prop} (I:Inv X pins σ H s):Inv (XT X (X.pn ++ pins) xe) [] σ H s:=⟨I.ok.try_ _ _,I.os,I.bare,I.base,I.loc,I.cell,I.free,I.freeC,fun p hp=>I.pin p (by simpa using hp),I.hok,I.len⟩
theorem Inv.outof {xe:Value->Shared->Prop} {pins1:List (Addr × Obj)} (ok:X.Ok) (I:Inv (XT X (X.pn ++ pins) xe) pins1 σ H s):Inv X pins σ H s:=⟨ok,I.os,I.bare,I.base,I.loc,I.cell,I.free,I.freeC,fun p hp=>I.pin p (List.mem_append_left _ hp),I.hok,I.len⟩
end
end L2
set_option Elab.async false
set_option linter.all false
set_option maxRecDepth 100000
namespace L2
open PySem PySem.Spec PyProof.Rows
section
variable {X:Cx}
end
end L2
set_option Elab.async false
set_option linter.all false
set_option maxRecDepth 100000
namespace L2
open PySem PySem.Spec PyProof.Rows
section
variable {P:Program} {w:World} {K:PySem.W.Frag} {mg:Str->Option Value} {base:Heap}
end
section
variable {K:PySem.W.Frag} {Δ:Evt} {E:XK} {Xp:Addr->Prop} {nx bk ct:Evt->Prop} {rt:D->Evt->Prop} {ro:OD->Evt->Prop}
end
end L2
set_option Elab.async false
set_option linter.all false
set_option maxRecDepth 100000
namespace L2
open PySem PySem.Spec PyProof.Rows PySem.SeqAt
section
variable {K:PySem.W.Frag} {Δ:Evt} {P:D->Evt->Prop}
end
end L2
set_option Elab.async false
set_option linter.all false
set_option maxRecDepth 100000
namespace L2
open PySem PySem.Spec PyProof.Rows
end L2
set_option Elab.async false
set_option linter.all false
set_option maxRecDepth 100000
namespace L2
open PySem PySem.Spec PyProof.Rows
section
variable {K:PySem.W.Frag} {Δ:Evt}
end
end L2
set_option Elab.async false
set_option linter.all false
set_option maxRecDepth 100000
namespace L2
open PySem PySem.Spec PyProof.Rows
section
variable {X:Cx}
def CDivB (i j:Int):Prop:=0 < j/\j<=100000000000000000000000000000000000000000000000000000000000
theorem Zew:OpR X (binaryOp .FloorDiv) (rI CDivB fun i j=>.int (i / j)):=opI fun i j _ _ _ _ _ hc q=>by
 have h1:(0:Int) < j:=hc.1
 have h2:=hc.2
 refine floordiv_int (by omega) (by rw [Int.fdiv_eq_ediv_of_nonneg i (by omega)]; exact q) (.inl (PyProof.noPylong_of_log2 ?_))
 have h3:j.natAbs<=100000000000000000000000000000000000000000000000000000000000:=by omega
 have h4:j.natAbs < 2 ^ 200:=Nat.lt_of_le_of_lt h3 (by decide)
 exact Nat.lt_trans ((Nat.log2_lt (by omega)).2 h4) (by decide)
end
section
variable {K:PySem.W.Frag} {Δ:Evt} {E:XK} {Xp:Addr->Prop} {P:D->Evt->Prop}
end
def keyPd:Key->PyData
 | .inl i=>.int i
 | .inr x=>.str x
mutual
def D.pd:D->PyData
 | .non=>.none
 | .bl b=>.bool b
 | .int i=>.int i
 | .str x=>.str x
 | .tup ds=>.tuple (D.pds ds)
 | .lst ds=>.list (D.pds ds)
 | .dct ks ds=>.dict ((ks.map keyPd).zip (D.pds ds))
 | _=>.none
def D.pds:List D->List PyData
 | []=>[]
 | d :: ds=>D.pd d :: D.pds ds
end
section
variable {X:Cx}
end
end L2
set_option Elab.async false
set_option linter.all false
set_option maxRecDepth 100000
namespace L2
open PySem PySem.Spec PyProof.Rows
section
variable {X:Cx}
end
section
variable {X:Cx}
end
def PV (K:PySem.W.Frag) (te:TE) (Δ:Evt) (d:D):Prop:=∀ P:D->Evt->Prop,P d Δ -> JE K te Δ P
def PVs (K:PySem.W.Frag) (ta:TA) (Δ:Evt) (ds:List D):Prop:=∀ P:List D->Evt->Prop,P ds Δ -> JA K ta Δ P
def PR2 (K:PySem.W.Frag) (r:R2) (d e:D) (Δ:Evt) (x:D):Prop:=∀ P:D->Evt->Prop,P x Δ -> JR2 K r d e Δ P
section
variable {K:PySem.W.Frag} {Δ:Evt}
theorem Zfi {te:TE} {d:D} {P:D->Evt->Prop} (h:PV K te Δ d) (p:P d Δ):JE K te Δ P:=h P p
theorem Zhh {ta:TA} {ds:List D} {P:List D->Evt->Prop} (h:PVs K ta Δ ds) (p:P ds Δ):JA K ta Δ P:=h P p
theorem Zbs {i:Nat} {d:D} (h:Δ[i]? = some (.val d)):PV K (tVar i) Δ d:=fun P p=>Zac h p
theorem Zbc {i:Int}:PV K (tC (.int i)) Δ (.int i):=fun P p=>Zao p
theorem Zdy:PVs K tNil Δ []:=fun P p=>Zae p
theorem Zbe {ta:TE} {tr:TA} {d:D} {ds:List D} (h:PV K ta Δ d) (t:PVs K tr Δ ds):PVs K (tCons ta tr) Δ (d :: ds):=fun P p=>Zab (h _ (t _ p))
theorem Zop {ta:TA} {ds:List D} (h:PVs K ta Δ ds) (z:ds.length<=sizeLine):PV K (tLst ta) Δ (.lst ds):=fun P p=>Zmb (h _ ⟨z,p⟩)
theorem Zcw {r:R2} {ta tb:TE} {d e x:D} (a:PV K ta Δ d) (b:PV K tb Δ e) (h:PR2 K r d e Δ x):PV K (tOp r ta tb) Δ x:=fun P p=>Zan (a _ (b _ (h P p)))
theorem Zpd {ds:List D} {i:Int} {d:D} (h:atI ds i=some d):PR2 K (rIxU K) (.tup ds) (.int i) Δ d:=fun P p=>Za5 h p
theorem Zn1 {ds:List D} {i:Int} {d:D} (h:atI ds i=some d):PR2 K (rIxU K) (.lst ds) (.int i) Δ d:=fun P p=>Zb6 h p
theorem Zgm {i j:Int}:PR2 K (rAddU K) (.int i) (.int j) Δ (.int (i + j)):=fun P p=>Ze6 p
theorem Zp7 {f:Int->Int->Int} {i j:Int}:PR2 K (rI0 fun i j=>.int (f i j)) (.int i) (.int j) Δ (.int (f i j)):=fun P p=>Zlq p
theorem pr_I {C:Int->Int->Prop} {f:Int->Int->Int} {i j:Int} (hc:C i j):PR2 K (rI C fun i j=>.int (f i j)) (.int i) (.int j) Δ (.int (f i j)):=fun P p=>jr_I hc p
theorem Zc6 {ta tb:TE} {ds:List D} {i:Int} {d:D} (a:PV K ta Δ (.tup ds)) (b:PV K tb Δ (.int i)) (h:atI ds i=some d):PV K (tOp (rIxU K) ta tb) Δ d:=Zcw a b (Zpd h)
theorem Zmd {ta tb:TE} {ds:List D} {i:Int} {d:D} (a:PV K ta Δ (.lst ds)) (b:PV K tb Δ (.int i)) (h:atI ds i=some d):PV K (tOp (rIxU K) ta tb) Δ d:=Zcw a b (Zn1 h)
theorem Zl7 {n:Nat} {ds:List D} {i:Int} {d:D} (hx:Δ[n]? = some (.val (.tup ds))) (h:atI ds i=some d):PV K (tOp (rIxU K) (tVar n) (tC (.int i))) Δ d:=Zc6 (Zbs hx) Zbc h
theorem Zmw {ta:TE} {ds:List D} (a:PV K ta Δ (.tup ds)):PV K (tCB (rLenU K) (tCons ta tNil)) Δ (.int ds.length):=fun P p=>Zaz (Zab (a _ (Zae (Zbj (.inr rfl) p))))
end
end L2
set_option Elab.async false
set_option linter.all false
set_option maxRecDepth 100000
namespace L2
open PySem PySem.Spec PyProof.Rows PySem.SeqAt
section
variable {K:PySem.W.Frag} {Δ:Evt} {P:D->Evt->Prop}
end
end L2
set_option Elab.async false
set_option linter.all false
set_option maxRecDepth 100000
namespace L2
open PySem PySem.Spec PyProof.Rows PySem.SeqAt
section
variable {K:PySem.W.Frag} {Δ:Evt}
end
end L2
set_option Elab.async false
set_option linter.all false
set_option maxRecDepth 100000
namespace L2
open PySem PySem.Spec PyProof.Rows
section
variable {K:PySem.W.Frag} {Δ:Evt} {nx bk ct:Evt->Prop} {rt:D->Evt->Prop} {ro:OD->Evt->Prop}
end
end L2
set_option Elab.async false
set_option linter.all false
set_option maxRecDepth 100000
namespace L2
open PySem PySem.Spec PyProof.Rows
section
variable {K:PySem.W.Frag} {Δ:Evt} {P:D->Evt->Prop}
end
end L2
set_option Elab.async false
set_option linter.all false
set_option maxRecDepth 100000
namespace L2
open PySem PySem.Spec PyProof.Rows
end L2
set_option Elab.async false
set_option linter.all false
set_option maxRecDepth 100000
namespace HT
open PySem PyProof.Rows
end HT
namespace L2
open PySem PySem.Spec PyProof.Rows
section
variable {K:PySem.W.Frag} {Δ:Evt} {P:D->Evt->Prop}
end
end L2
set_option Elab.async false
set_option linter.all false
set_option maxRecDepth 100000
namespace L2
open PySem PySem.Spec PyProof.Rows
section
variable {prog:Program} {w:World} {A:Around} {R:Result->Shared->Prop} {I:Addr} {fp wr:List Addr} {G:Array GenState->Array GenState->Prop} {n:Nat} {P:Nat->Value->Prop} {St:Nat->Shared->Prop} {K:Type} [DecidableEq K] {knd:KeyKind prog w K}
end
section
variable {X:Cx}
end
end L2
set_option Elab.async false
set_option linter.all false
set_option maxRecDepth 100000
namespace L2
open PySem PySem.Spec PyProof.Rows
end L2
namespace L2
open PySem PySem.Spec PyProof.Rows
section
variable {prog:Program} {w:World} {A:Around} {E:Value->Shared->Prop} {s:Shared}
end
section
variable {K:PySem.W.Frag} {Δ:Evt} {P:D->Evt->Prop}
end
end L2
namespace L2
open PySem PySem.Spec PyProof.Rows
end L2
set_option Elab.async false
set_option linter.all false
set_option maxRecDepth 100000
namespace L2
open PySem PySem.Spec PyProof.Rows PySem.SeqAt
section
variable {prog:Program} {w:World} {A:Around} {E:Value->Shared->Prop} {s:Shared}
end
section
variable {K:PySem.W.Frag} {Δ:Evt}
end
end L2
set_option Elab.async false
set_option linter.all false
set_option maxRecDepth 100000
namespace L2
open PySem PySem.Spec PyProof.Rows PySem.SeqAt
section
open PySem.AutoSeq1 (wpAny_loadPart')
open PySem.MeetsSeq PySem.MeetsSeq2 PySem.MeetsSeq3
end
section
variable {prog:Program} {w:World} {A:Around} {R:Result->Shared->Prop} {I:Addr} {fp wr:List Addr} {n:Nat} {P:Nat->Value->Prop} {St:Nat->Heap->Prop}
end
end L2
namespace L2
open PySem PySem.Spec PyProof.Rows PySem.SeqAt
section
variable {K:PySem.W.Frag} {Δ:Evt} {P:D->Evt->Prop}
end
end L2
set_option Elab.async false
set_option linter.all false
set_option maxRecDepth 100000
namespace L2
open PySem PySem.Spec PyProof.Rows PySem.SeqAt
section
variable {K:PySem.W.Frag} {Δ:Evt} {P:D->Evt->Prop}
theorem Zok (p:P (.bl true) Δ):JR2 K (fun x y H Q=>y=.non/\Q (.bl (decide (x=.non))) H) .non .non Δ P:=fun g G H σ Q u v k rx ry c=>by
 cases rx.inv; cases ry.inv
 refine ⟨rfl,?_⟩
 rw [decide_eq_true rfl]
 exact c _ _ G H Δ k (Same.refl _) (.bl true) p
theorem Zgy {ds:List D} (p:P (.bl false) Δ):JR2 K (fun x y H Q=>y=.non/\Q (.bl (decide (x=.non))) H) (.tup ds) .non Δ P:=fun g G H σ Q u v k rx ry c=>by
 obtain ⟨a,vs,rfl,_,_⟩:=rx.inv
 cases ry.inv
 refine ⟨rfl,?_⟩
 rw [decide_eq_false (by intro z; cases z)]
 exact c _ _ G H Δ k (Same.refl _) (.bl _) p
end
end L2
set_option Elab.async false
set_option linter.all false
set_option maxRecDepth 100000
namespace L2
open PySem PySem.Spec PyProof.Rows PySem.SeqAt
section
variable {X:Cx}
theorem Zdi:fillsNumberSlot (.type "tuple") "mul" = pure false:=
 PySem.fillsNumberSlot_seq (id:="tuple.__mul__") (r:=some (.builtin "tuple.__rmul__")) F.slot_tuple_mul.lookup (by decide +kernel) F.slot_tuple_rmul.lookup (by decide +kernel)
theorem Zfu:seqRepeat? (.type "tuple")=pure (some (.builtin "tuple.__mul__")):=by
 unfold seqRepeat?
 rw [PySem.seqSlot_of (T:="tuple") (name:="__mul__") (id:="tuple.__mul__") F.slot_tuple_mul.lookup (by decide +kernel),PySem.seqSlot_of (T:="tuple") (name:="__rmul__") (id:="tuple.__rmul__") F.slot_tuple_rmul.lookup (by decide +kernel)]
 rfl
theorem Zda (a:Int) (t:Tok) (l:Addr) (items:Array Value) (n:Nat) (d:Option Addr) (sl:Array (Option Value)) :
  Meets (Builtin.«int.__rmul__» ⟨[.int a t,.ref l],[]⟩) (fun _ R s=>s.heap.get? l=some { cls:=.type "tuple",dict:=d,data:=.seq items n,slots:=sl } /\ R (.ok (.ret Value.notImplemented)) s):=
 .of_wp fun prog w A R s h=>by obtain ⟨hp,g,d,tk,os⟩:=s; obtain ⟨hl,h⟩:=h; wp_walk; exact ⟨_,rfl,h⟩
end
end L2
set_option Elab.async false
set_option linter.all false
set_option maxRecDepth 100000
namespace L2
open PySem PySem.Spec PyProof.Rows PySem.SeqAt
end L2
set_option Elab.async false
set_option linter.all false
set_option maxRecDepth 100000
namespace L2
open PySem PySem.Spec PyProof.Rows PySem.SeqAt
section
variable {X:Cx}
end
section
variable {prog:Program} {w:World} {A:Around} {E:Value->Shared->Prop} {s:Shared}
end
section
variable {X:Cx}
theorem Zhl {u:V} {v:Value} (r:RelV u v):∀ n,Vals (List.replicate n u) (List.replicate n v)
 | 0=>.nil
 | n + 1=>.cons r (Zhl r n)
end
section
variable {K:PySem.W.Frag} {Δ:Evt} {P:D->Evt->Prop}
theorem Zhc {G:Hp} {v:V} {d:D} (r:Rep K G v d):∀ n,Reps K G (List.replicate n v) (List.replicate n d)
 | 0=>.nil
 | n + 1=>.cons r (Zhc r n)
end
end L2
set_option Elab.async false
set_option linter.all false
set_option maxRecDepth 100000
namespace L2
open PySem PySem.Spec PyProof.Rows PySem.SeqAt
section
variable {prog:Program} {w:World} {A:Around} {E:Value->Shared->Prop} {s:Shared}
end
section
variable {K:PySem.W.Frag} {Δ:Evt}
end
section
variable {K:PySem.W.Frag} {Δ:Evt} {P:D->Evt->Prop}
end
section
variable {X:Cx}
end
end L2
set_option Elab.async false
set_option linter.all false
set_option maxRecDepth 100000
namespace L2
open PySem
end L2
set_option Elab.async false
set_option linter.all false
set_option maxRecDepth 100000
namespace L2
open PySem PySem.Spec PyProof.Rows
def SmP (k:Int × Int):Prop:=0<=k.1/\k.1 < 64/\0<=k.2/\k.2 < 2
section
variable {prog:Program} {w:World} {A:Around} {E:Value->Shared->Prop} {s:Shared}
variable {hf:Int × Int->Int} (hfi:∀ {a b:Int × Int},SmP a->SmP b->hf a=hf b->a=b)
include hfi
end
end L2
set_option Elab.async false
set_option linter.all false
set_option maxRecDepth 100000
namespace L2
open PySem PySem.Spec PyProof.Rows
section
variable {X:Cx}
variable {o e:Expr} {es:List Expr} {to:TE} {t:TA} {name:Str} {apos cpos:Pos} {id:String} {r:V->List V->Hp->VK->Prop}
end
end L2
namespace L2
open PySem PySem.Spec PyProof.Rows
end L2
namespace L2
open PySem PySem.Spec PyProof.Rows
end L2
set_option Elab.async false
set_option linter.all false
set_option maxRecDepth 100000
namespace L2
open PySem PySem.Spec PyProof.Rows PySem.SeqAt
section
variable {X:Cx}
end
end L2
set_option Elab.async false
set_option linter.all false
set_option maxRecDepth 100000
namespace L2
open PySem PySem.Spec PyProof.Rows
section
variable {K:PySem.W.Frag} {Δ:Evt}
theorem Zeb {x y:Str} {P:D->Evt->Prop} (p:P (.bl (decide (x=y))) Δ):JR2 K rEq (.str x) (.str y) Δ P:=fun g G H σ Q v u k rx ry c=>by
 cases rx.inv; cases ry.inv
 refine ⟨rfl,?_⟩
 rw [show decide (V.str x=V.str y)=decide (x=y) from decide_eq_decide.mpr ⟨fun e=>V.str.inj e,fun e=>by rw [e]⟩]
 exact c _ _ G H Δ k (Same.refl _) (.bl _) p
theorem Zna {x y:Str} {P:D->Evt->Prop} (p:P (.bl (!decide (x=y))) Δ):JR2 K rNe (.str x) (.str y) Δ P:=fun g G H σ Q v u k rx ry c=>by
 cases rx.inv; cases ry.inv
 refine ⟨rfl,?_⟩
 rw [show decide (V.str x=V.str y)=decide (x=y) from decide_eq_decide.mpr ⟨fun e=>V.str.inj e,fun e=>by rw [e]⟩]
 exact c _ _ G H Δ k (Same.refl _) (.bl _) p
end
end L2
set_option Elab.async false
set_option linter.all false
set_option maxRecDepth 100000
namespace L2
open PySem PySem.Spec PyProof.Rows PySem.SeqAt
section
variable {K:PySem.W.Frag} {Δ:Evt}
end
end L2
set_option Elab.async false
set_option linter.all false
set_option maxRecDepth 100000
namespace L2
open PySem PySem.Spec PyProof.Rows PySem.SeqAt
section
variable {K:PySem.W.Frag} {Δ:Evt} {P:D->Evt->Prop}
end
end L2
set_option Elab.async false
set_option linter.all false
set_option maxRecDepth 100000
namespace L2
open PySem PySem.Spec PyProof.Rows PySem.Builtin PySem.Builtin.Str
section
variable {X:Cx}
theorem Zfl:∀ l:List (PySem.Str × Tok),Vals ((l.map (·.1)).map V.str) (strValues l)
 | []=>.nil
 | p :: r=>.cons ⟨p.2,rfl⟩ (Zfl r)
theorem Zhx {x y:PySem.Str} (h:(y.length == 0)=false):(Txt.split x y).length<=x.length + 2:=by
 unfold Txt.split
 split
 ·show 1<=_; omega
 ·split
  ·show 1<=_; omega
  ·rw [length_partsBetween]
   have e1:=StrLaws.occ_length_le x y 0 x.length (x.length + 1)
   omega
def rSplit (K:PySem.W.Frag):V->List V->Hp->VK->Prop:=fun x vs H Q=>∃ z y,x=.str z/\vs=[.str y]/\(y.length == 0)=false/\z.length + 2<=sizeLine/\∀ l,H l=none->Q (.ref l) (upd H l (.lst ((Txt.split z y).map V.str)))
theorem splitK (K:PySem.W.Frag) (hK:X.K=K:=by rfl):MtM X "str.split" (rSplit K):=by
 subst hK
 intro pins s σ H v vs w us Q I rx rv h
 obtain ⟨x,y,rfl,rfl,hy,hsz,q⟩:=h
 obtain ⟨t,rfl⟩:=rx
 obtain ⟨u0,rfl,u,rfl⟩:=rv.one
 have hm:=Zhx (x:=x) hy
 have fin:∀ (l:List (PySem.Str × Tok)) (k:Nat),l.map (·.1)=Txt.split x y->EP X pins σ Q (.ref s.heap.objs.size) { s with heap:=s.heap.push { cls:=.type "list",data:=.seq (strValues l).toArray },toks:=k }:=fun l k e=>by
  have hv:=Zfl l
  rw [e] at hv
  exact ⟨.ref s.heap.objs.size,_,I.lnew hv (by rw [List.length_map]; omega),rfl,q _ I.fresh⟩
 have hn:(partsBetween x (occurrences x y 0 x.length (x.length + 1)) y.length).length<=sizeLine:=by
  have e1:=StrLaws.occ_length_le x y 0 x.length (x.length + 1)
  rw [length_partsBetween]; omega
 cases h1:(decide (x.length < y.length) || decide (strKind x < strKind y))
 ·cases hf:(occurrences x y 0 x.length (x.length + 1)).isEmpty
  ·refine call_meets F.slot_str_split (typeIs_str _ _ _) F.entry_str_split (F.args_str_split_2 _ _) (meets_str_split_sep x y t u h1 hy hf (by omega) hn) ?_
   show wants _ _ _ { s with toks:=_,heap:=s.heap.push { cls:=.type "list",data:=.seq (strsFrom s.toks (partsBetween x (occurrences x y 0 x.length (x.length + 1)) y.length)).toArray } }
   rw [strsFrom_eq]
   exact fin (numbered s.toks _) _ ((numbered_texts _ _).trans ((if_neg (ne_true_of_eq_false h1)).trans (if_neg (ne_true_of_eq_false hf))).symm)
  ·exact call_meets F.slot_str_split (typeIs_str _ _ _) F.entry_str_split (F.args_str_split_2 _ _) (meets_str_split_not_found x y t u h1 hy hf) (fin [(x,t)] s.toks ((if_neg (ne_true_of_eq_false h1)).trans (if_pos hf)).symm)
 ·exact call_meets F.slot_str_split (typeIs_str _ _ _) F.entry_str_split (F.args_str_split_2 _ _) (meets_str_split_cannot_occur x y t u h1) (fin [(x,t)] s.toks (if_pos h1).symm)
end
section
variable {K:PySem.W.Frag} {Δ:Evt}
theorem Reps.ofStrs {G:Hp}:∀ zs:List PySem.Str,Reps K G (zs.map V.str) (zs.map D.str)
 | []=>.nil
 | z :: zs=>.cons (.str z) (Reps.ofStrs zs)
theorem Zg9 {to te:TE} {Po:OD->Evt->Prop} (h:JE K to Δ fun d Δ1=>∃ z,d=.str z/\JE K te Δ1 fun e Δ2=>∃ y,e=.str y/\(y.length == 0)=false/\z.length + 2<=sizeLine/\Po (.lst ((Txt.split z y).map D.str)) Δ2) :
  JO K (tBM K "str" (rSplit K) to (tCons te tNil)) Δ Po:=fun g G H σ Q k c=>
 h g G H σ _ k fun v d G1 H1 Δ1 k1 s1 r1 hq_=>by
  obtain ⟨z,e,p1⟩:=hq_
  subst e
  cases r1.inv
  refine ⟨rfl,p1 g G1 H1 σ _ k1 fun u e G2 H2 Δ2 k2 s2 r2 ⟨y,e2,hy,hz,p⟩=>?_⟩
  subst e2
  cases r2.inv
  refine ⟨z,y,rfl,rfl,hy,hz,fun l hl=>?_⟩
  obtain ⟨k3,pd⟩:=k2.fresh (od:=.lst ((Txt.split z y).map D.str)) hl (show OwnRep K G2 (.lst ((Txt.split z y).map V.str)) (.lst ((Txt.split z y).map D.str)) from Reps.ofStrs _)
  exact c l _ G2 _ Δ2 k3 (s1.trans s2) pd p
end
end L2
set_option Elab.async false
set_option linter.all false
set_option maxRecDepth 100000
namespace L2
open PySem PySem.Spec PyProof.Rows
section
variable {X:Cx}
def rIntN:List V->Hp->VK->Prop:=fun xs H Q=>∃ n:Int,xs=[.str (PySem.Str.ofString (toString n))]/\0<=n/\n < 10 ^ 10/\Q (.int n) H
theorem Zij:CallR X (.type "int") rIntN:=by
 intro pins s σ H xs us Q I r h
 obtain ⟨n,rfl,h0,h1,q⟩:=h
 obtain ⟨u,rfl,t,rfl⟩:=vals1 r
 exact PySem.W.KIN.call_num h0 h1 ⟨.int n,H,I.tok _,⟨_,rfl⟩,q⟩
end
section
variable {K:PySem.W.Frag} {Δ:Evt} {P:D->Evt->Prop}
theorem Zmu {n:Int} (h0:0<=n) (h1:n < 10 ^ 10) (p:P (.int n) Δ):JC K rIntN [.str (PySem.Str.ofString (toString n))] Δ P:=fun g G H σ Q vs k rs c=>by
 obtain ⟨_,_,rfl,r,t⟩:=rs.inv
 cases t.inv
 cases r.inv
 exact ⟨n,rfl,h0,h1,c _ _ G H Δ k (Same.refl _) (.int _) p⟩
theorem Zpl {i j:PySem.Str} (p:P (.bl (!(Builtin.Str.occurrences j i 0 j.length 1).isEmpty)) Δ):JR2 K (fun x y H Q=>∃ i j,x=.str i/\y=.str j/\Q (.bl (!(Builtin.Str.occurrences j i 0 j.length 1).isEmpty)) H) (.str i) (.str j) Δ P:=fun g G H σ Q v u k rx ry c=>by
 cases rx.inv; cases ry.inv
 exact ⟨i,j,rfl,rfl,c _ _ G H Δ k (Same.refl _) (.bl _) p⟩
end
end L2
set_option Elab.async false
set_option linter.all false
set_option maxRecDepth 100000
namespace L2
open PySem PySem.Spec PyProof.Rows
section
variable {X:Cx} {tg:Expr}
def sgn (c:Nat):PySem.Str:=⟨#[c]⟩
def Its (x:PySem.Str):It:=⟨fun i _=>i < x.cps.size,fun i H v H'=>H' = H/\∃ c,x.cps[i]? = some c/\v=.str (sgn c),fun i _=>x.cps.size<=i⟩
theorem Zk0 {P:Program} {w:World} {K:PySem.W.Frag} {tg:Expr} (it:Addr) (x:PySem.Str) (t:Tok):Turn P w K tg (Its x) [it] it (fun i h=>h.IsStrIter it "str_ascii_iterator" x t i) where
 mem:=by simp
 obj:=fun i h st b hb=>by
  have e:b=it:=by simpa using hb
  subst e
  obtain ⟨o,e,c,d⟩:=st
  exact ⟨o,e,fun v z=>by rw [d] at z; cases z⟩
 keep:=fun i h h' st k=>by
  obtain ⟨o,e,r⟩:=st
  exact ⟨o,k it (by simp) o e,r⟩
 item:=by
  intro X hP hw hK hc i pins s σ H E I hf st hg
  subst hP hw hK
  obtain ⟨f0,f1,f2,f3,f4,f5⟩:=hf it (by simp)
  have W:=Walks.strAscii (prog:=X.prog) (w:=X.w) (I.ok.hd hc) it x t
  refine W.item i s _ _ hg st fun v h' tk hv st' kk=>?_
  obtain ⟨c,u,hx,rfl⟩:=hv
  have I1:Inv X pins σ H { s with heap:=h',toks:=tk }:=I.turned (fun b o hb e=>kk b o (by simpa using hb) e) f0 f1 f3 f4 f5
  obtain ⟨o,e1,e2,e3⟩:=id st'
  exact ⟨_,rfl,Zkj (s:={ s with heap:=h',toks:=tk }) e1 e2 e3 (by decide) ⟨.str (sgn c),H,I1,⟨u,rfl⟩,⟨rfl,c,hx,rfl⟩,st',fun b hb=>(hf b hb).1⟩⟩
 done:=by
  intro X hP hw hK hc i pins s σ H E I hf st hg
  subst hP hw hK
  obtain ⟨f0,f1,f2,f3,f4,f5⟩:=hf it (by simp)
  exact wpAny_pyNext_ascii_end (I.ok.hd hc) st (by have:x.cps.size<=i:=hg; simpa using this) fun h' eb=>⟨rfl,I.turned (t':=s.toks) (fun b o hb e=>eb b o hb e) f0 f1 f3 f4 f5⟩
 self:=fun _ _ _ _ _ st h=>wpAny_pyIter_striter_ascii st h
def iStr (tl:TE):TI:=fun σ H R=>tl σ H fun v H1=>∃ x:PySem.Str,v=.str x/\x.cps.all (· < 128)=true/\R (Its x) H1
theorem Zoy {l:Expr} {tl:TE} (hl:PE X l tl):PI X tg l (iStr tl):=by
 intro pins s σ H R I h
 refine thn (hl pins s σ H _ I h) fun v s1 ⟨y,H1,I1,r1,q1⟩=>?_
 obtain ⟨x,rfl,ha,q⟩:=q1
 obtain ⟨t,rfl⟩:=r1
 refine wpAny_pyIter_ascii ha ?_
 refine ⟨s1.heap.objs.size,[s1.heap.objs.size],_,_,H1,rfl,I1.kept (t':=s1.toks) fun b o e=>Heap.get?_push_of_some _ e,Zk0 _ x t,⟨_,Heap.get?_push_size _ rfl,rfl,rfl⟩,fun b hb=>?_,q⟩
 have e:b=s1.heap.objs.size:=by simpa using hb
 subst e
 exact I1.fpOk (Nat.le_refl _) (I1.hok.fresh (Nat.le_refl _))
end
section
variable {K:PySem.W.Frag} {Δ:Evt}
theorem Zox {tl:TE} {P:List D->Evt->Prop} (h:JE K tl Δ fun d Δ1=>∃ x:PySem.Str,d=.str x/\x.cps.all (· < 128)=true/\P (x.cps.toList.map fun c=>D.str (sgn c)) Δ1):JI K (iStr tl) Δ P:=fun g G H σ R k c=>
 h g G H σ _ k fun v d G1 H1 Δ1 k1 s1 r1 hq_=>by
  obtain ⟨x,e,ha,p1⟩:=hq_
  subst e
  cases r1.inv
  refine ⟨x,rfl,ha,c _ _ G1 H1 Δ1 k1 s1 (fun G2 H2 sg sh=>⟨by show x.cps.size<=_; rw [List.length_map,Array.length_toList]; exact Nat.le_refl _,fun i d e=>?_⟩) p1⟩
  rw [List.getElem?_map] at e
  cases z:x.cps.toList[i]? with
  | none=>rw [z] at e; cases e
  | some cc=>
   rw [z] at e
   have e:D.str (sgn cc)=d:=by simpa using e
   subst e
   have hz:x.cps[i]? = some cc:=by rw [<- Array.getElem?_toList]; exact z
   have hi:i < x.cps.size:=(Array.getElem?_eq_some_iff.mp hz).1
   refine ⟨hi,fun y H3 ⟨e3,c3,h3,e4⟩=>⟨G2,Same.refl _,by rw [e3]; exact Same.refl _,fun b o q=>⟨by rw [e3]; exact sh b o q,.inl q⟩,?_⟩⟩
   rw [hz] at h3
   cases h3
   rw [e4]
   exact .str _
end
end L2
set_option Elab.async false
set_option linter.all false
set_option maxRecDepth 100000
namespace L2
open PySem PySem.Spec PyProof.Rows
section
variable {K:PySem.W.Frag} {Δ:Evt} {P:D->Evt->Prop}
theorem Zmh {z:PySem.Str} (hz:z.length<=sizeLine) (p:P (.int z.length) Δ):JC K (fun xs H Q=>∃ z,xs=[.str z]/\z.length<=sizeLine/\Q (.int z.length) H) [.str z] Δ P:=fun g G H σ Q vs k rs c=>by
 obtain ⟨_,_,rfl,r,t⟩:=rs.inv
 cases t.inv
 cases r.inv
 exact ⟨z,rfl,hz,c _ _ G H Δ k (Same.refl _) (.int _) p⟩
theorem Zni {z:PySem.Str} {i:Int} {c:Nat} (hz:z.length<=sizeLine) (h:atI z.cps.toList i=some c) (p:P (.str (sgn c)) Δ):JR2 K (rIxU K) (.str z) (.int i) Δ P:=fun g G H σ Q x y k rx ry cc=>by
 cases rx.inv; cases ry.inv
 exact .inl (.inr (.inr ⟨z,i,c,rfl,rfl,hz,h,cc _ _ G H Δ k (Same.refl _) (.str _) p⟩))
theorem Zie:∀ ns:List Int,inV .non (ns.map V.int)=false
 | []=>rfl
 | n :: ns=>by
  have:=Zie ns
  unfold inV at this ⊢
  rw [List.map_cons,List.any_cons,this,Bool.or_false]
  rfl
theorem Zeg:∀ ns:List Int,(ns.map V.int).all flatV=true
 | []=>rfl
 | n :: ns=>by rw [List.map_cons,List.all_cons,Zeg ns]; rfl
theorem Zn0 {ns:List Int} (p:P (.bl false) Δ):JR2 K (rInU K false) .non (.lst (ns.map .int)) Δ P:=fun g G H σ Q x y k rx ry c=>by
 cases rx.inv
 obtain ⟨a,vs,rfl,ha,rs⟩:=ry.inv
 have ev:=rs.ints
 subst ev
 refine .inl ⟨a,_,rfl,.inl (SqL.of (k.live _ _ ha)),rfl,Zeg ns,?_⟩
 rw [Zie]
 exact c _ _ G H Δ k (Same.refl _) (.bl false) p
end
end L2
set_option Elab.async false
set_option linter.all false
set_option maxRecDepth 100000
namespace L2
open PySem PySem.Spec PyProof.Rows
theorem Zhd {α:Type} (v:α):∀ (m:Nat) (acc:Array α),(List.replicate m #[v]).foldl (· ++ ·) acc=acc ++ (List.replicate m v).toArray
 | 0,acc=>by simp
 | m + 1,acc=>by
  rw [List.replicate_succ,List.foldl_cons,Zhd v m,List.replicate_succ]
  apply Array.toList_inj.mp
  simp
theorem Zet (l:Addr) (v:Value) (k:Nat) (d:Option Addr) (sl:Array (Option Value)) (x:Int) (u:Tok) (h0:2<=x) (h1:x<=1000) :
  Meets (Builtin.«tuple.__mul__» ⟨[.ref l,.int x u],[]⟩) (fun _ R s=>s.heap.get? l=some { cls:=.type "tuple",dict:=d,data:=.seq #[v] k,slots:=sl } /\ R (.ok (.ret (Value.ref s.heap.objs.size))) { s with heap:=s.heap.push { cls:=Value.type "tuple",data:=Data.seq (List.replicate x.toNat v).toArray } }):=
 .of_wp fun prog w A R s h=>by
  obtain ⟨hp,g,d,tk,os⟩:=s; obtain ⟨hl,h⟩:=h
  have e1:(decide (x < -(2 ^ 63:Int)) || decide (x ≥ 2 ^ 63))=false:=by rw [Bool.or_eq_false_iff]; exact ⟨decide_eq_false (by omega),decide_eq_false (by omega)⟩
  have e2:(x == 1)=false:=beq_eq_false_iff_ne.mpr (by omega)
  have e3:(decide (x<=0))=false:=decide_eq_false (by omega)
  have e4:((#[v]:Array Value).isEmpty || x == 1)=false:=by rw [e2]; rfl
  have e5:(decide (x<=0) || (#[v]:Array Value).isEmpty)=false:=by rw [e3]; rfl
  have e6:¬ ((#[v]:Array Value).size:Int) * x > (2 ^ 63 - 1) / 8:=by
   show ¬ ((1:Nat):Int) * x > (2 ^ 63 - 1) / 8
   omega
  have e7:Builtin.Tuple.tupleTooMany (((#[v]:Array Value).size:Int) * x)=false:=by
   unfold Builtin.Tuple.tupleTooMany
   show decide _=false
   exact decide_eq_false (by show ¬ ((1:Nat):Int) * x > _; have:=sizeLine_eq; omega)
  wp_walk
  simp only [e1,Bool.false_eq_true,if_false]
  wp_walk
  rw [if_neg e6,e7,if_neg Bool.false_ne_true,Zhd,Array.empty_append]
  have e8:¬ (List.replicate x.toNat v).toArray.size > sizeLine:=by
   rw [List.size_toArray,List.length_replicate]
   have:=sizeLine_eq
   omega
  wp_walk
  rw [if_neg e8]
  wp_walk
  exact ⟨_,rfl,h⟩
theorem Zdk (l:Addr) (v:Value) (n:Nat) (d:Option Addr) (sl:Array (Option Value)) (u:Tok) :
  Meets (Builtin.«tuple.__mul__» ⟨[.ref l,.int 1 u],[]⟩) (fun _ R s=>s.heap.get? l=some { cls:=.type "tuple",dict:=d,data:=.seq #[v] n,slots:=sl } /\ R (.ok (.ret (Value.ref l))) s):=
 .of_wp fun prog w A R s h=>by
  obtain ⟨hp,g,d,tk,os⟩:=s; obtain ⟨hl,h⟩:=h
  wp_walk
  exact ⟨_,rfl,h⟩
theorem Zdj (l:Addr) (v:Value) (n:Nat) (d:Option Addr) (sl:Array (Option Value)) (u:Tok) :
  Meets (Builtin.«tuple.__mul__» ⟨[.ref l,.int 0 u],[]⟩) (fun _ R s=>s.heap.get? l=some { cls:=.type "tuple",dict:=d,data:=.seq #[v] n,slots:=sl } /\ R (.ok (.ret (Value.ref s.heap.objs.size))) { s with heap:=s.heap.push { cls:=Value.type "tuple",data:=Data.seq #[] } }):=
 .of_wp fun prog w A R s h=>by
  obtain ⟨hp,g,d,tk,os⟩:=s; obtain ⟨hl,h⟩:=h
  wp_walk
  exact ⟨_,rfl,h⟩
section
variable {X:Cx}
def rMulT (K:PySem.W.Frag):R2:=fun x y H Q=>∃ (a:Addr) (u:V) (n:Int),x=.ref a/\y=.int n/\0<=n/\n<=1000/\SqT K H a [u]/\(n=1->Q (.ref a) H)/\(n ≠ 1->∀ l,H l=none->Q (.ref l) (upd H l (.tup (List.replicate n.toNat u))))
theorem Zje (K:PySem.W.Frag) (hK:X.K=K:=by rfl):OpR X (binaryOp .Mult) (rMulT K):=by
 subst hK
 intro pins s σ H x y v u Q I rx ry h
 obtain ⟨a,z,m,rfl,rfl,h2,h3,ha,q1,q⟩:=h
 cases rx
 obtain ⟨t,rfl⟩:=ry
 obtain ⟨its,r1,p1,_⟩:=I.tuple ha
 obtain ⟨⟨cls,dd,data,sl⟩,ho,hc,n,hd⟩:=id p1
 simp only at hc hd
 subst hc hd
 obtain ⟨v,rfl,rv⟩:=r1.one
 refine wpAny_binaryOp_repeat_ref (T:="tuple") (U:="int") (by decide) ⟨_,ho,rfl⟩ (fun s'=>typeIs_int s' m t) Zdi F.fills_int_mul F.slot_int_rmul Zfu F.slot_int_index.lookup
  (call_meets F.slot_int_rmul (typeIs_int s m t) F.entry_int_rmul (F.args_int_rmul_2 _ _) (Zda m t a [v].toArray n dd sl)
   ⟨ho,rfl,⟨_,ho,rfl⟩,?_⟩)
 by_cases e1:m=1
 ·subst e1
  exact call_meets F.slot_tuple_mul ⟨_,ho,rfl⟩ F.entry_tuple_mul (F.args_tuple_mul_2 _ _) (Zdk a v n dd sl t) ⟨ho,⟨.ref a,H,I,rfl,q1 rfl⟩⟩
 have q:=q e1
 have fin:EP X pins σ Q (.ref s.heap.objs.size) { s with heap:=s.heap.push { cls:=Value.type "tuple",data:=Data.seq (List.replicate m.toNat v).toArray } }:=by
  refine ⟨.ref s.heap.objs.size,_,I.laid (t':=s.toks) (o:=.tup (List.replicate m.toNat z)) (fun b ob q=>Heap.get?_push_of_some _ q) (Nat.le_refl _) ?_,rfl,q _ (I.hok.fresh (Nat.le_refl _))⟩
  exact ⟨by rw [List.length_replicate]; have:=sizeLine_eq; omega,List.replicate m.toNat v,Zhl rv _,IsTupN.new _ _⟩
 by_cases e0:m=0
 ·subst e0
  exact call_meets F.slot_tuple_mul ⟨_,ho,rfl⟩ F.entry_tuple_mul (F.args_tuple_mul_2 _ _) (Zdj a v n dd sl t) ⟨ho,fin⟩
 ·exact call_meets F.slot_tuple_mul ⟨_,ho,rfl⟩ F.entry_tuple_mul (F.args_tuple_mul_2 _ _) (Zet a v n dd sl m t (by omega) h3) ⟨ho,fin⟩
end
section
variable {K:PySem.W.Frag} {Δ:Evt} {P:D->Evt->Prop}
theorem Zip {d:D} {n:Int} (h2:0<=n) (h3:n<=1000) (p:P (.tup (List.replicate n.toNat d)) Δ):JR2 K (rMulT K) (.tup [d]) (.int n) Δ P:=fun g G H σ Q x y k rx ry c=>by
 cases ry.inv
 obtain ⟨a,us,rfl,ha,rs⟩:=rx.inv
 obtain ⟨u,t,rfl,r,tt⟩:=rs.inv
 cases tt.inv
 refine ⟨a,u,n,rfl,rfl,h2,h3,SqT.of (k.live _ _ ha),fun e=>?_,fun e l hl=>?_⟩
 ·subst e; exact c _ _ G H Δ k (Same.refl _) (.tup ha (.cons r .nil)) p
 obtain ⟨k2,sg⟩:=k.laid hl (.tup (List.replicate n.toNat u))
 exact c _ _ _ _ Δ k2 sg (.tup Zal (Zhc (r.mono sg) _)) p
end
end L2
set_option Elab.async false
set_option linter.all false
set_option maxRecDepth 100000
namespace L2
open PySem PySem.Spec PyProof.Rows
section
variable {X:Cx} {pos:Pos} {body:List Stmt} {hd0:ExceptHandler} {hds:List ExceptHandler} {tb:TS}
theorem Zns (hbd:∀ (pn:List (Addr × Obj)),PSs (XT X pn (fun _ _=>False)) body tb):PS X (.Try body (hd0 :: hds) [] [] pos) tb:=by
 intro pins s σ H D I h
 refine wpAny_Try_except ?_
 refine wpAny_mono (hbd (X.pn ++ pins) [] s σ H D I.into h) (fun f s1 hq=>?_) (fun _ _ z=>z.elim)
 cases f with
 | next=>
  obtain ⟨σ',H',J,q⟩:=hq
  exact wpAny_execs_nil ⟨σ',H',Inv.outof I.ok J,q⟩
 | brk=>
  obtain ⟨σ',H',J,q⟩:=hq
  exact ⟨σ',H',Inv.outof I.ok J,q⟩
 | cont=>
  obtain ⟨σ',H',J,q⟩:=hq
  exact ⟨σ',H',Inv.outof I.ok J,q⟩
 | ret u=>
  obtain ⟨v,σ',H',J,r,q⟩:=hq
  exact ⟨v,σ',H',Inv.outof I.ok J,r,q⟩
end
end L2
set_option Elab.async false
set_option linter.all false
set_option maxRecDepth 100000
namespace L2
open PySem PySem.Spec PyProof.Rows
section
variable {prog:Program} {w:World} {A:Around} {E:Value->Shared->Prop} {s:Shared}
theorem Zlt {b:Bool} {e j a:Addr} {i:Nat} {m:Int} {ws:Array Value} {x old:Value} {Q:Option Value->Shared->Prop} (ge:IsEnum s.heap e j m old) (g:ItB b s.heap j a i) (l:HsB b s.heap a ws) (ex:ws[i]? = some x) (ne:e ≠ j)
  (q:∀ h',IsEnumOut h' e j (m + 1) x s.heap.objs.size->ItB b h' j a (i + 1)->h'.get? s.heap.objs.size=some { cls:=.type "tuple",data:=.seq #[.int m s.toks,x] } →
   (∀ c o,c ≠ e->c ≠ j->s.heap.get? c=some o->h'.get? c=some o)->Q (some (.ref s.heap.objs.size)) { s with heap:=h',toks:=s.toks + 1 }):wpAny (model prog w) A (pyNext (.ref e)) Q E s:=by
 obtain ⟨hp,g0,d,tk,os⟩:=s
 have ty:Shared.TypeIs ⟨hp,g0,d,tk,os⟩ (.ref e) "enumerate":=⟨_,ge,rfl⟩
 unfold pyNext
 refine wpAny_bind (wpAny_attempt (wpAny_callSpecial?_slot (name:=Str.ofString "__next__") ty F.slot_enumerate_next (wpAny_call_entry F.slot_enumerate_next ty F.entry_enumerate_next ?_ (F.args_enumerate_next_1 _))))
 refine (show wpAny _ _ (field (.ref e) 2 >>= _) _ _ _ from wpAny_bind (wpAny_field ge rfl (x:=.ref j) rfl (wpAny_bind (Zdu (b:=b) g l ex fun h₁ g₁ s₁=>?_))))
 replace s₁:Heap.SameBut j hp h₁:=s₁
 have e₁:IsEnum h₁ e j m old:=(s₁.2 e ne).trans ge
 refine (show wpAny _ _ (field (.ref e) 3 >>= _) _ _ ⟨h₁,g0,d,tk,os⟩ from wpAny_bind (wpAny_field e₁ rfl (x:=rawInt m) rfl ?_))
 refine (show wpAny _ _ (field (.ref e) 4 >>= _) _ _ ⟨h₁,g0,d,tk,os⟩ from wpAny_bind (wpAny_field e₁ rfl (x:=.none) rfl ?_))
 refine (show wpAny _ _ (mkInt m >>= _) _ _ ⟨h₁,g0,d,tk,os⟩ from wpAny_bind (wpAny_mkInt ?_))
 refine (show wpAny _ _ (setField (.ref e) 3 (rawInt (m + 1)) >>= _) _ _ ⟨h₁,g0,d,tk + 1,os⟩ from wpAny_bind (wpAny_setField_rec e₁ (by simp) fun h₂ e₂ s₂=>?_))
 replace s₂:Heap.SameBut e h₁ h₂:=s₂
 replace e₂:IsEnum h₂ e j (m + 1) old:=e₂
 refine (show wpAny _ _ (setField (.ref e) 4 .none >>= _) _ _ ⟨h₂,g0,d,tk + 1,os⟩ from wpAny_bind (wpAny_setField_rec e₂ (by simp) fun h₃ e₃ s₃=>?_))
 replace s₃:Heap.SameBut e h₂ h₃:=s₃
 replace e₃:IsEnum h₃ e j (m + 1) old:=e₃
 refine (show wpAny _ _ (newTuple [.int m tk,x] >>= _) _ _ ⟨h₃,g0,d,tk + 1,os⟩ from wpAny_bind (wpAny_newTuple ?_))
 have e₄:IsEnum (h₃.push { cls:=.type "tuple",data:=.seq #[.int m tk,x] }) e j (m + 1) old:=Heap.get?_push_of_some _ e₃
 generalize eh₄:h₃.push { cls:=.type "tuple",data:=.seq #[.int m tk,x] } = h₄ at e₄
 have n3:h₃.objs.size=hp.objs.size:=by rw [s₃.1,s₂.1,s₁.1]
 have el:e < hp.objs.size:=Heap.lt_size ge
 have t₄:h₄.get? hp.objs.size=some { cls:=.type "tuple",data:=.seq #[.int m tk,x] }:=by rw [<- eh₄,<- n3]; exact Heap.get?_push_size _ rfl
 have k₄:∀ c o,c ≠ e->c ≠ j->hp.get? c=some o->h₄.get? c=some o:=fun c o c1 c2 z=>by rw [<- eh₄]; exact Heap.get?_push_of_some _ (s₃.extBut c o c1 (s₂.extBut c o c1 (s₁.extBut c o c2 z)))
 have g₄:ItB b h₄ j a (i + 1):=by rw [<- eh₄]; exact ((g₁.off s₂.extBut (Ne.symm ne)).off s₃.extBut (Ne.symm ne)).at fun o z=>Heap.get?_push_of_some _ z
 refine (show wpAny _ _ (Builtin.SmallTypes.ownedTupleIsFree (.ref e) >>= _) _ _ ⟨h₄,g0,d,tk + 1,os⟩ from ?_)
 rw [n3]
 clear eh₄ e₃ s₃ e₂ s₂ e₁ s₁ g₁ n3 h₃ h₂ h₁
 refine wpAny_bind ?_
 unfold Builtin.SmallTypes.ownedTupleIsFree
 refine wpAny_bind (wpAny_field e₄ rfl (x:=.none) rfl (wpAny_pure ?_))
 simp only [if_true]
 refine wpAny_bind (wpAny_rule (wpAny_bind (wpAny_field e₄ rfl (x:=old) rfl (wpAny_bind (wpAny_setField_rec e₄ (by simp) fun h₅ e₅ s₅=>?_)))))
 replace s₅:Heap.SameBut e h₄ h₅:=s₅
 replace e₅:IsEnum h₅ e j (m + 1) x:=e₅
 refine (show wpAny _ _ (Builtin.SmallTypes.ownedTupleHandOut (.ref e) (.ref hp.objs.size) >>= _) _ _ ⟨h₅,g0,d,tk + 1,os⟩ from wpAny_bind ?_)
 unfold Builtin.SmallTypes.ownedTupleHandOut
 refine wpAny_bind (wpAny_setField_rec e₅ (by simp) fun h₆ e₆ s₆=>?_)
 replace s₆:Heap.SameBut e h₅ h₆:=s₆
 replace e₆:IsEnumOut h₆ e j (m + 1) x hp.objs.size:=e₆
 refine wpAny_setField_rec e₆ (by simp) fun h₇ e₇ s₇=>?_
 replace s₇:Heap.SameBut e h₆ h₇:=s₇
 replace e₇:IsEnumOut h₇ e j (m + 1) x hp.objs.size:=e₇
 have up:∀ c o,c ≠ e->h₄.get? c=some o->h₇.get? c=some o:=fun c o c1 z=>s₇.extBut c o c1 (s₆.extBut c o c1 (s₅.extBut c o c1 z))
 exact wpAny_bind (wpAny_letGo (wpAny_pure ⟨_,rfl,wpAny_pure (q h₇ e₇ (g₄.at fun o z=>up j o (Ne.symm ne) z) (up _ _ (Nat.ne_of_gt el) t₄) fun c o c1 c2 z=>up c o c1 (k₄ c o c1 c2 z))⟩))
theorem Znc {b:Bool} {e j a:Addr} {i:Nat} {m:Int} {ws:Array Value} {old:Value} {Q:Option Value->Shared->Prop} (hh:A.handled=none) (ge:IsEnum s.heap e j m old) (g:ItB b s.heap j a i) (l:HsB b s.heap a ws) (ex:ws[i]? = none)
  (q:∀ h',Heap.ExtBut j s.heap h' -> Q none { s with heap:=h' }):wpAny (model prog w) A (pyNext (.ref e)) Q E s:=by
 have ty:s.TypeIs (.ref e) "enumerate":=⟨_,ge,rfl⟩
 unfold pyNext
 refine wpAny_bind (wpAny_attempt (wpAny_callSpecial?_slot (name:=Str.ofString "__next__") ty F.slot_enumerate_next (wpAny_call_entry F.slot_enumerate_next ty F.entry_enumerate_next ?_ (F.args_enumerate_next_1 _))))
 refine (show wpAny _ _ (field (.ref e) 2 >>= _) _ _ _ from wpAny_bind (wpAny_field ge rfl (x:=.ref j) rfl (wpAny_bind (Zhm hh g l ex fun h' x e' ⟨o,ho,hc⟩=>?_))))
 exact wpAny_bind (wpAny_isInstance (T:="StopIteration") (b:=true) ⟨o,ho,hc⟩ isSubtype_stop (wpAny_pure (q _ e')))
end
def IebS (m:Int) (b:Bool) (K:PySem.W.Frag) (l:Addr):It:=
 ⟨fun i H=>∃ xs x,SqB b K H l xs/\xs[i]? = some x,
  fun i H v H'=>∃ p x,H p=none/\v=.ref p/\H' = upd H p (.tup [.int (m + (i:Int)),x])/\∀ xs,SqB b K H l xs->xs[i]? = some x,
  fun i H=>∃ xs,SqB b K H l xs/\xs.length<=i⟩
theorem Zkx {m:Int} {b:Bool} {P:Program} {w:World} {K:PySem.W.Frag} {es:List Expr} {kk:Nat} {tp:Pos} (l z j:Addr) (D:z ≠ j):Turn P w K (.Tuple es kk tp) (IebS m b K l) [z,j] z
  (fun i h=>(∃ old,IsEnum h z j (m + (i:Int)) old)/\ItB b h j l i) where
 mem:=by simp
 obj:=fun i h st b2 hb=>by
  obtain ⟨⟨old,hz⟩,h1⟩:=st
  obtain ⟨o1,e1,d1⟩:=h1.obj
  simp only [List.mem_cons,List.not_mem_nil,or_false] at hb
  rcases hb with rfl | rfl
  ·exact ⟨_,hz,fun v q=>by cases q⟩
  ·exact ⟨o1,e1,fun v q=>by rw [d1] at q; cases q⟩
 keep:=fun i h h' st k=>by
  obtain ⟨⟨old,hz⟩,h1⟩:=st
  exact ⟨⟨old,k z (by simp) _ hz⟩,h1.at fun o e=>k j (by simp) o e⟩
 item:=by
  intro X hP hw hK hc i pins s σ H E I hf st hg
  subst hP hw hK
  obtain ⟨⟨old,hz⟩,h1⟩:=st
  obtain ⟨xs,x,hq1,hx⟩:=hg
  obtain ⟨its1,r1,p1⟩:=I.seqB hq1
  obtain ⟨u1,hu1,ru1⟩:=r1.get hx
  refine Zlt hz h1 p1 (x:=u1) (by simpa using hu1) D fun h' b1 b2 b3 hk=>?_
  refine ⟨_,rfl,wpAny_letOwnedTupleGo_enum (s:={ s with heap:=h',toks:=s.toks + 1 }) b1 fun h'' hz'' hs''=>?_⟩
  have lt:∀ {c o},s.heap.get? c=some o->c ≠ s.heap.objs.size:=fun e=>Nat.ne_of_lt (Heap.lt_size e)
  have hTz:s.heap.objs.size ≠ z:=Ne.symm (lt hz)
  have hTfree:H s.heap.objs.size=none:=I.hok.fresh (Nat.le_refl _)
  have kept:∀ c o,c ∉ [z,j]->s.heap.get? c=some o->h''.get? c=some o:=fun c o hc e=>by
   simp only [List.mem_cons,List.not_mem_nil,or_false,not_or] at hc
   exact hs''.extBut _ _ hc.1 (hk c o hc.1 hc.2 e)
  have hT:h''.get? s.heap.objs.size=some { cls:=.type "tuple",data:=.seq #[.int (m + (i:Int)) s.toks,u1] }:=hs''.extBut _ _ hTz b3
  have ntr:∀ c o,H c=some o->c ∉ [z,j]:=fun c o e hc=>by rw [(hf c hc).1] at e; cases e
  have hok:HOk X.prog X.w (upd H s.heap.objs.size (.tup [.int (m + (i:Int)),x])) h'':=fun c o e=>by
   by_cases hcT:c=s.heap.objs.size
   ·subst hcT
    rw [Zal] at e
    cases e
    exact ⟨by show 2<=sizeLine; decide,[.int (m + (i:Int)) s.toks,u1],.cons ⟨_,rfl⟩ (.cons ru1 .nil),_,hT,⟨rfl,_,rfl⟩,rfl⟩
   ·rw [Zai hcT] at e
    refine (I.hok c o e).stay (fun d v hd q=>kept d v ?_ q) (fun d q=>by rw [Zai (Zah q hTfree)]; exact q) fun d zs q=>by rw [Zai (Zah q hTfree)]; exact q
    rcases hd with hd | hd
    ·rw [hd]; exact ntr c o e
    ·exact ntr d _ hd
  have I2:Inv X pins σ (upd H s.heap.objs.size (.tup [.int (m + (i:Int)),x])) { s with heap:=h'',toks:=s.toks + 1 }:=by
   refine I.call (g':=s.gens) (t':=s.toks + 1) (d':=s.drawn) (ch:=[z,j]) ⟨fun c o e n hc hx=>kept c o hx e,fun c o e n hc hx=>⟨o.slots,kept c o hx e⟩,fun c o e n hx=>by rw [Zai (lt e)]; exact n,fun c o e hx=>⟨o,kept c o hx e⟩,
    fun c zs q=>by rw [Zai (Zah q hTfree)]; exact q,fun c o zs q=>by rw [Zai (Zah q hTfree)]; exact q,fun c zs q=>⟨#[],by rw [Zai (Zah q hTfree),q]; simp⟩⟩ hok I.bare fun c hcc=>?_
   obtain ⟨f0,f1,f2,f3,f4,f5⟩:=hf c hcc
   exact ⟨f3,f1,f4,f5⟩
  refine ⟨.ref s.heap.objs.size,_,I2,rfl,⟨s.heap.objs.size,x,hTfree,rfl,rfl,fun xs' q1=>?_⟩,⟨⟨_,by have:=hz''; push_cast at this ⊢; rw [<- Int.add_assoc]; exact this⟩,b2.off hs''.extBut (Ne.symm D)⟩,fun c hcc=>?_⟩
  ·rw [I.seqB_inj q1 hq1]; exact hx
  ·have hcl:c ≠ s.heap.objs.size:=by
    simp only [List.mem_cons,List.not_mem_nil,or_false] at hcc
    obtain ⟨_,e1,_⟩:=h1.obj
    rcases hcc with rfl | rfl
    ·exact lt hz
    ·exact lt e1
   rw [Zai hcl]; exact (hf c hcc).1
 done:=by
  intro X hP hw hK hc i pins s σ H E I hf st hg
  subst hP hw hK
  obtain ⟨⟨old,hz⟩,h1⟩:=st
  obtain ⟨xs,hq1,hend⟩:=hg
  obtain ⟨its1,r1,p1⟩:=I.seqB hq1
  have l1':=r1.length
  refine Znc (I.ok.hd hc) hz h1 p1 (by simp; omega) fun h' hk=>⟨rfl,?_⟩
  have kept:∀ c o,c ∉ [z,j]->s.heap.get? c=some o->h'.get? c=some o:=fun c o hc e=>by
   simp only [List.mem_cons,List.not_mem_nil,or_false,not_or] at hc
   exact hk c o hc.2 e
  have ntr:∀ c o,H c=some o->c ∉ [z,j]:=fun c o e hc=>by rw [(hf c hc).1] at e; cases e
  refine I.call (g':=s.gens) (t':=s.toks) (d':=s.drawn) (ch:=[z,j]) ⟨fun c o e n hc hx=>kept c o hx e,fun c o e n hc hx=>⟨o.slots,kept c o hx e⟩,fun c o e n hx=>n,fun c o e hx=>⟨o,kept c o hx e⟩,
   fun c zs q=>q,fun c o zs q=>q,fun c zs q=>⟨#[],by rw [q]; simp⟩⟩ (fun c o e=>?_) I.bare fun c hcc=>?_
  ·refine (I.hok c o e).stay (fun d v hd q=>kept d v ?_ q) (fun d q=>q) fun d zs q=>q
   rcases hd with hd | hd
   ·rw [hd]; exact ntr c o e
   ·exact ntr d _ hd
  ·obtain ⟨f0,f1,f2,f3,f4,f5⟩:=hf c hcc
   exact ⟨f3,f1,f4,f5⟩
 self:=fun _ _ _ _ _ st h=>by
  obtain ⟨⟨old,hz⟩,_⟩:=st
  exact wpAny_pyIter_enum hz h
section
variable {K:PySem.W.Frag} {Δ:Evt}
def enS (m:Int) (ds:List D):List D:=ds.zipIdx.map fun p=>D.tup [.int (m + (p.2:Int)),p.1]
theorem Zjo (m:Int) (ds:List D):(enS m ds).length=ds.length:=by unfold enS; rw [List.length_map,List.length_zipIdx]
theorem Zir {m:Int} {ds:List D} {i:Nat} {e:D} (h:(enS m ds)[i]? = some e):∃ d,ds[i]? = some d/\e=.tup [.int (m + (i:Int)),d]:=by
 unfold enS at h
 rw [List.getElem?_map,List.getElem?_zipIdx] at h
 cases q:ds[i]? with
 | none=>rw [q] at h; cases h
 | some d=>rw [q] at h; refine ⟨d,rfl,?_⟩; simpa using h.symm
theorem Zh2 {m:Int} {b:Bool} {G:Hp} {l1:Addr} {xs:List V} {ds:List D} (h1:∀ G1 H1,Same G G1->Same G1 H1->SqB b K H1 l1 xs) (r1:Reps K G xs ds):ItOk K G (IebS m b K l1) (enS m ds):=fun G1 H1 sg sh=>by
 have hl1:=r1.length
 have e1:=h1 G1 H1 sg sh
 refine ⟨⟨xs,e1,by rw [Zjo]; omega⟩,fun i d hd=>?_⟩
 obtain ⟨d0,q,rfl⟩:=Zir hd
 obtain ⟨u,hu,ru⟩:=r1.get q
 refine ⟨⟨xs,u,e1,hu⟩,fun x H2 ⟨p,a,hp,ex,eH,hab⟩=>?_⟩
 have ha:=hab xs e1
 rw [hu] at ha
 cases ha
 subst ex; subst eH
 have hG:G1 p=none:=by
  cases z:G1 p with
  | none=>rfl
  | some o=>rw [sh _ _ z] at hp; cases hp
 refine ⟨upd G1 p (.tup [.int (m + (i:Int)),u]),fun c o e=>by rw [Zai (Zah e hG)]; exact e,fun c o e=>by rw [Zai (Zah e hp)]; exact e,fun c o e=>?_,?_⟩
 ·by_cases hc:c=p
  ·subst hc; rw [Zal] at e ⊢; exact ⟨e,.inr hp⟩
  ·rw [Zai hc] at e ⊢; exact ⟨sh c o e,.inl e⟩
 ·have sg2:Same G1 (upd G1 p (.tup [.int (m + (i:Int)),u])):=fun c o e=>by rw [Zai (Zah e hG)]; exact e
  exact .tup Zal (.cons (.int _) (.cons ((ru.mono sg).mono sg2) .nil))
end
end L2
set_option Elab.async false
set_option linter.all false
set_option maxRecDepth 100000
namespace L2
open PySem PySem.Spec PyProof.Rows
section
variable {prog:Program} {w:World} {A:Around} {E:Value->Shared->Prop} {s:Shared}
set_option maxHeartbeats 2000000 in
theorem Zlj (a:Addr) (ws:Array Value) (n:Nat) (dct:Option Addr) (sl:Array (Option Value)) (t:Tok) :
  Meets (Builtin.«enumerate.__new__» ⟨[.type "enumerate",.ref a],[("start",.int 1 t)]⟩) (fun _ R s=>s.heap.get? a=some ⟨.type "list",dct,.seq ws n,sl⟩ ∧
   R (.ok (.ret (.ref (s.heap.push { cls:=.type "list_iterator",data:=.fields #[.ref a,.int 0 0] }).objs.size))) { s with heap:=(s.heap.push { cls:=.type "list_iterator",data:=.fields #[.ref a,.int 0 0] }).push ⟨.type "enumerate",none,.fields #[.none,.bool false,.ref s.heap.objs.size,rawInt 1,.none,.none],#[]⟩ }):=.of_wp fun prog w A R s h=>by
 obtain ⟨hp,g,d,tk,os⟩:=s; obtain ⟨l,h⟩:=h
 have sub0:=sub_enumerate
 have t0:Heap.IsList (Shared.heap ⟨hp,g,d,tk,os⟩) a ws:=⟨_,l,rfl,n,rfl⟩
 wp_walk using AutoSeq1.wpAny_loadPart' l
 refine wpAny_stack_any fun st=>wpAny_pure ?_
 split
 ·rename_i c _ _ _ _ _
  cases (c == Value.type "enumerate") <;> (wp_walk using AutoSeq1.wpAny_loadPart' l,wpAny_pyIter_list t0; exact ⟨_,rfl,h⟩)
 ·wp_walk using AutoSeq1.wpAny_loadPart' l,wpAny_pyIter_list t0
  exact ⟨_,rfl,h⟩
theorem Zp4 (a:Value) (t:Tok):checkTypeCall "enumerate" ⟨[a],[("start",.int 1 t)]⟩ = pure ():=by kernel_rfl
theorem Zp0 (a:Value) (t:Tok):checkBuiltinCall "enumerate.__new__" ⟨[.type "enumerate",a],[("start",.int 1 t)]⟩ = pure ():=by kernel_rfl
theorem Zp3 (a b:Value) (t:Tok):argsOk "object.__init__" ⟨[a,b],[("start",.int 1 t)]⟩:=by
 unfold argsOk; rw [signature?_of (id:="object.__init__") (n:=['_','_','t','i','n','i','_','_']) (o:=['t','c','e','j','b','o']) (by kernel_rfl) F.owner_object]; kernel_rfl
theorem Zpw (self b:Value) (t:Tok):Meets (Builtin.«object.__init__» ⟨[self,b],[("start",.int 1 t)]⟩) (fun _ R s=>s.TypeIs self "enumerate" /\ R (.ok (.ret .none)) s):=by
 have hl:=F.called_enumerate.init.lookup
 have hm:=F.called_enumerate.made
 refine Meets.of_wp fun prog w A R s hs=>?_
 obtain ⟨hT,hq⟩:=hs
 repeat (any_goals (first | assumption | wp_step))
 exact ⟨_,rfl,hq⟩
theorem Zm5 {a:Addr} {ws:Array Value} {t:Tok} {Q:Value->Shared->Prop} (l:s.heap.IsList a ws)
  (q:∀ h',IsEnum h' (s.heap.objs.size + 1) s.heap.objs.size 1 .none->ItB false h' s.heap.objs.size a 0->(∀ c o,s.heap.get? c=some o->h'.get? c=some o)->Q (.ref (s.heap.objs.size + 1)) { s with heap:=h' }):wpAny (model prog w) A (call (.type "enumerate") [.ref a] [("start",.int 1 t)]) Q E s:=by
 obtain ⟨⟨oc,od,oda,os⟩,l1,hc,n,hd⟩:=l
 dsimp only at hc hd
 subst hc hd
 have ft:=F.called_enumerate
 obtain ⟨c,tl,hmro⟩:=ft.mro
 have hmade:=ft.made
 have hsub:=ft.sub
 have z1:(s.heap.push { cls:=.type "list_iterator",data:=.fields #[.ref a,.int 0 0] }).objs.size=s.heap.objs.size + 1:=Heap.size_push ..
 have he:IsEnum ((s.heap.push { cls:=.type "list_iterator",data:=.fields #[.ref a,.int 0 0] }).push ⟨.type "enumerate",none,.fields #[.none,.bool false,.ref s.heap.objs.size,rawInt 1,.none,.none],#[]⟩) (s.heap.objs.size + 1) s.heap.objs.size 1 .none:=by
  rw [<- z1]; exact Heap.get?_push_size _ rfl
 have fin:=q _ he ⟨_,Heap.get?_push_of_some _ (Heap.get?_push_size _ rfl),rfl,rfl⟩ fun c o z=>Heap.get?_push_of_some _ (Heap.get?_push_of_some _ z)
 refine wpAny_call (codeAny_of_tree ?_)
 show wpAny _ _ (callAny (.type "enumerate") _) _ _ _
 refine wpAny_pure ⟨Code.quiet_builtin _ (by decide +kernel),codeAny_builtin F.entry_type_call ?_⟩
 rw [Around.under_plain (weight_type_call_type "enumerate" [.ref a] [("start",.int 1 t)]) (units_type_call_type "enumerate" [.ref a] [("start",.int 1 t)])]
 have h1:=ft.notType
 have h2:=ft.canCreate
 have hct:=Zp4 (.ref a) t
 repeat (any_goals (first | assumption | wp_step))
 refine codeAny_mono (codeAny_call_builtin ft.plain F.entry_enumerate_new (wpAny_of_eq (Zp0 (.ref a) t) (Zlj a ws n od os t prog w A.in1 (wants (fun obj s₁=>s₁.TypeIs obj "enumerate" /\ Q obj s₁) E) s ⟨l1,?_⟩))) fun r s₁ hr=>?_
 ·show _/\_
  rw [z1]
  exact ⟨⟨_,he,rfl⟩,fin⟩
 cases r with
 | error e=>exact hr
 | ok fl=>
  cases fl with
  | ret obj=>
   obtain ⟨hT,hq⟩:=hr
   have hli:=ft.init.lookup
   have hbi:=ft.init.bind obj
   repeat (any_goals (first | assumption | wp_step))
   refine codeAny_mono (codeAny_call_builtin ft.init.plain F.entry_object_init (ft.init.check _ _ _ _ _ _ _ _ hT (Zp3 obj (.ref a) t) (Zpw obj (.ref a) t prog w A.in1 (wants (fun r s₂=>r=.none/\Q obj s₂) E) s₁ ⟨hT,rfl,hq⟩))) fun r₂ s₂ hr₂=>?_
   cases r₂ with
   | error e=>exact hr₂
   | ok fl₂=>
    cases fl₂ with
    | ret r=>
     obtain ⟨rfl,hq⟩:=hr₂
     repeat (any_goals (first | assumption | wp_step))
    | _=>exact hr₂.elim
  | _=>exact hr.elim
end
def iEnumS (K:PySem.W.Frag) (ta:TA):TI:=fun σ H R=>ta σ H fun vs H1=>∃ l,vs=[.ref l]/\(∃ xs,SqB false K H1 l xs)/\R (IebS 1 false K l) H1
section
variable {X:Cx}
theorem Zf3 {M:Model} {A:Around} {E:Value->Shared->Prop} {s:Shared} {env:Env} {pos:Pos} {T:String} {e:Expr} {rest:List Expr} {kws:List Keyword} {Q:Value->Shared->Prop}
  (h:wpAny M A (spliced (backTo pos (starEach (e :: rest) env))) (fun vs s₁=>wpAny M A (evalAll ((backToKw pos (keywordEach kws env)).map (·.2)))
   (fun kvs s₂=>wpAny M A (call (.type T) vs (((backToKw pos (keywordEach kws env)).filterMap (·.1)).zip kvs)) Q E s₂) E s₁) E s)
  (he:backTo pos (starEach (e :: rest) env)=(false,eval e env) :: backTo pos (starEach rest env))
  (hplain:(backTo pos (starEach (e :: rest) env)).any (·.1)=false)
  (hall:(backToKw pos (keywordEach kws env)).all (·.1.isSome)=true)
  (hkw:(backToKw pos (keywordEach kws env)).any (·.1.isNone)=false) :
  wpAny M A (callWith pos (.type T) [] (backTo pos (starEach (e :: rest) env)) (backToKw pos (keywordEach kws env))) Q E s:=by
 have h2:wpAny M A (evalArgs (.type T) true (backTo pos (starEach (e :: rest) env)) (backToKw pos (keywordEach kws env))) (fun a s₁=>wpAny M A (call (.type T) ([] ++ a.pos) a.kw) Q E s₁) E s:=by
  rw [he] at h ⊢
  exact evalArgs_kwB hall h
 unfold callWith
 refine wpAny_bind (wpAny_holding (thn h2 fun a s₁ h₁=>wpAny_bind (wpAny_standAt ?_)))
 simp only [hplain,hkw,Bool.or_false]
 refine wpAny_bind (wpAny_pure ?_)
 exact wpAny_bind (thn h₁ fun r s₂ hr=>wpAny_bind (wpAny_holding (wpAny_point (wpAny_pure hr))))
theorem Zke (K:PySem.W.Frag) {es:List Expr} {kk k2:Nat} {tp:Pos} {a:Expr} {ta:TA} {p pos kp cp:Pos} (hg:Gl X "enumerate") (hm:X.mg "enumerate" = none) (ha:PA X [a] ta) (hs:starEach [a] X.env=[(false,eval a X.env)]:=by rfl) (hK:X.K=K:=by rfl) :
  PI X (.Tuple es kk tp) (.Call (.Name "enumerate" p) [a] [⟨some "start",.Constant (.int 1) k2 cp,kp⟩] pos) (iEnumS K ta):=by
 subst hK
 intro pins s σ H R I h
 refine wpAny_Call_Name_kw (Zd0 I hg hm (Zdf) (Zf3 (thn (ha pos pins s σ H _ I h) fun us s1 ⟨vs,H1,I1,r1,q1⟩=>?_) (by rw [hs]; rfl) (by rw [hs]; rfl) rfl rfl))
 refine thn ((Zmt (Zag (i:=1)) Zn5) pos pins s1 σ H1 (fun zs H2=>zs=[.int 1]/\H2=H1) I1 ⟨rfl,rfl⟩) fun ws s2 ⟨zs,H2,I2,rz,q2⟩=>?_
 obtain ⟨rfl,rfl⟩:=q2
 obtain ⟨l1,e,⟨xs,hx⟩,q⟩:=q1
 subst e
 obtain ⟨u1,rfl,q1⟩:=vals1 r1
 cases (show u1=Value.ref l1 from q1)
 obtain ⟨u2,rfl,t,e2⟩:=vals1 rz
 cases e2
 obtain ⟨its1,w1,p1⟩:=I2.seqB hx
 refine Zm5 p1 fun h' b1 b2 hk=>?_
 refine wpAny_pyIter_enum b1 ?_
 have I3:Inv X pins σ H2 { s2 with heap:=h' }:=I2.kept (t':=s2.toks) hk
 refine ⟨s2.heap.objs.size + 1,[s2.heap.objs.size + 1,s2.heap.objs.size],_,_,H2,rfl,I3,Zkx l1 _ _ (Nat.succ_ne_self _),⟨⟨_,b1⟩,b2⟩,fun b hb=>?_,q⟩
 have hge:s2.heap.objs.size<=b:=by
  simp only [List.mem_cons,List.not_mem_nil,or_false] at hb
  rcases hb with rfl | rfl <;> omega
 exact I2.fpOk hge (I2.hok.fresh hge)
end
section
variable {K:PySem.W.Frag} {Δ:Evt}
theorem Zk1 {ta:TA} {P:List D->Evt->Prop} (h:JA K ta Δ fun ds Δ1=>∃ as,ds=[.lst as]/\P (enS 1 as) Δ1):JI K (iEnumS K ta) Δ P:=fun g G H σ R k c=>
 h g G H σ _ k fun vs ds G1 H1 Δ1 k1 s1 r1 hq_=>by
  obtain ⟨as,e,p1⟩:=hq_
  subst e
  obtain ⟨_,_,rfl,ra,rr⟩:=r1.inv
  next=>
   cases rr.inv
   obtain ⟨_,_,rfl,ha,rsa⟩:=ra.inv
   next=>exact ⟨_,rfl,⟨_,SqL.of (k1.live _ _ ha)⟩,c _ _ G1 H1 Δ1 k1 s1 (Zh2 (fun _ _ sg sh=>SqL.of (sh _ _ (sg _ _ ha))) rsa) p1⟩
end
end L2
set_option Elab.async false
set_option linter.all false
set_option maxRecDepth 100000
set_option maxHeartbeats 4000000
namespace Lw
open PySem L2
def top (i:Nat):Stmt:=PySem.Challenge.pw_holefloor_k82_whole_read_back.main.body.getD i (.Pass ⟨0,0,0,0⟩)
abbrev s_is_whole:Stmt:=top 5
abbrev s_is_row:Stmt:=top 6
abbrev s_web_of:Stmt:=top 10
abbrev s_tie_of:Stmt:=top 11
abbrev s_ends_at:Stmt:=top 12
abbrev s_place_of:Stmt:=top 13
abbrev s_written:Stmt:=top 17
abbrev s_read:Stmt:=top 18
abbrev s_floor_with:Stmt:=top 19
abbrev s_number_written:Stmt:=top 20
abbrev s_with_places:Stmt:=top 21
abbrev s_with_tie:Stmt:=top 22
abbrev s_with_web:Stmt:=top 23
abbrev s_with_ends:Stmt:=top 24
abbrev s_law_pen:Stmt:=top 26
abbrev s_law_draw:Stmt:=top 27
abbrev s_law_web:Stmt:=top 28
abbrev s_law_order:Stmt:=top 29
abbrev s_law_whole:Stmt:=top 30
abbrev s_law_same:Stmt:=top 31
abbrev s_law_text:Stmt:=top 32
abbrev s_law:Stmt:=top 33
theorem sc_is_whole:FnScope ["thing"] ["thing"] (defScope s_is_whole):=⟨rfl,rfl,rfl,by decide +kernel,rfl,by decide +kernel,by decide +kernel⟩
theorem sc_is_row:FnScope ["thing"] ["thing"] (defScope s_is_row):=⟨rfl,rfl,rfl,by decide +kernel,rfl,by decide +kernel,by decide +kernel⟩
theorem sc_web_of:FnScope ["many","ties"] ["many","ties"] (defScope s_web_of):=⟨rfl,rfl,rfl,by decide +kernel,rfl,by decide +kernel,by decide +kernel⟩
theorem sc_tie_of:FnScope ["many","tie","place"] ["many","tie"] (defScope s_tie_of):=⟨rfl,rfl,rfl,by decide +kernel,rfl,by decide +kernel,by decide +kernel⟩
theorem sc_ends_at:FnScope ["web","place"] ["web","place"] (defScope s_ends_at):=⟨rfl,rfl,rfl,by decide +kernel,rfl,by decide +kernel,by decide +kernel⟩
theorem sc_place_of:FnScope ["web","end"] ["web","end"] (defScope s_place_of):=⟨rfl,rfl,rfl,by decide +kernel,rfl,by decide +kernel,by decide +kernel⟩
theorem sc_written:FnScope ["web","order","rows"] ["web","order"] (defScope s_written):=⟨rfl,rfl,rfl,by decide +kernel,rfl,by decide +kernel,by decide +kernel⟩
theorem sc_read:FnScope ["text","rows","floor","at","row","web","standing","order"] ["text"] (defScope s_read):=⟨rfl,rfl,rfl,by decide +kernel,rfl,by decide +kernel,by decide +kernel⟩
theorem sc_floor_with:FnScope ["floor","row","words","numbers","web","standing"] ["floor","row"] (defScope s_floor_with):=⟨rfl,rfl,rfl,by decide +kernel,rfl,by decide +kernel,by decide +kernel⟩
theorem sc_number_written:FnScope ["word"] ["word"] (defScope s_number_written):=⟨rfl,rfl,rfl,by decide +kernel,rfl,by decide +kernel,by decide +kernel⟩
theorem sc_with_places:FnScope ["numbers"] ["numbers"] (defScope s_with_places):=⟨rfl,rfl,rfl,by decide +kernel,rfl,by decide +kernel,by decide +kernel⟩
theorem sc_with_tie:FnScope ["web","numbers"] ["web","numbers"] (defScope s_with_tie):=⟨rfl,rfl,rfl,by decide +kernel,rfl,by decide +kernel,by decide +kernel⟩
theorem sc_with_web:FnScope ["many","ties"] ["many","ties"] (defScope s_with_web):=⟨rfl,rfl,rfl,by decide +kernel,rfl,by decide +kernel,by decide +kernel⟩
theorem sc_with_ends:FnScope ["web","standing","numbers","place","ends"] ["web","standing","numbers"] (defScope s_with_ends):=⟨rfl,rfl,rfl,by decide +kernel,rfl,by decide +kernel,by decide +kernel⟩
theorem sc_law_pen:FnScope ["_law_script"] ["_law_script"] (defScope s_law_pen):=⟨rfl,rfl,rfl,by decide +kernel,rfl,by decide +kernel,by decide +kernel⟩
theorem sc_law_draw:FnScope ["_law_pen_here","_law_many","_law_digit","_law_at","_law_cell","_law_number"] ["_law_pen_here","_law_many"] (defScope s_law_draw):=⟨rfl,rfl,rfl,by decide +kernel,rfl,by decide +kernel,by decide +kernel⟩
theorem sc_law_web:FnScope ["_law_pen_here","_law_places","_law_ties","_law_many","_law_way","_law_count","_law_found","_law_k","_law_a","_law_b"] ["_law_pen_here","_law_places","_law_ties"] (defScope s_law_web):=⟨rfl,rfl,rfl,by decide +kernel,rfl,by decide +kernel,by decide +kernel⟩
theorem sc_law_order:FnScope ["_law_pen_here","_law_web_here","_law_rows","_law_k","_law_row","!0","!1","!2","!3","!4","!5","!6","!7","!8","!9","!10","!11","!12","!13","!14","!15","!16","!17","!18","!19","!20","!21","!22","!23","!24"] ["_law_pen_here","_law_web_here"] (defScope s_law_order):=⟨rfl,rfl,rfl,by decide +kernel,rfl,by decide +kernel,by decide +kernel⟩
theorem sc_law_whole:FnScope ["_law_found"] ["_law_found"] (defScope s_law_whole):=⟨rfl,rfl,rfl,by decide +kernel,rfl,by decide +kernel,by decide +kernel⟩
theorem sc_law_same:FnScope ["_law_found","_law_due"] ["_law_found","_law_due"] (defScope s_law_same):=⟨rfl,rfl,rfl,by decide +kernel,rfl,by decide +kernel,by decide +kernel⟩
theorem sc_law_text:FnScope ["_law_web_here","_law_order_here","_law_lines","_law_a","_law_b","_law_place"] ["_law_web_here","_law_order_here"] (defScope s_law_text):=⟨rfl,rfl,rfl,by decide +kernel,rfl,by decide +kernel,by decide +kernel⟩
theorem sc_law:FnScope ["_law_script","_law_pen_here","_law_webs","_law_floors","_law_k","_law_text_here","_law_found"] ["_law_script"] (defScope s_law):=⟨rfl,rfl,rfl,by decide +kernel,rfl,by decide +kernel,by decide +kernel⟩
def Mb (mg:Str->Option Value):Prop:=∀ x ∈ ["abs","all","bool","enumerate","int","isinstance","len","list","max","min","range","sorted","str","tuple","zip"],mg x=none
local macro_rules | `(tactic| walk_at "js")=>`(tactic| first
 | with_reducible refine Zam (t:=tAsg _ _) ?_
 | with_reducible refine Zam (t:=tPar _ _ _) ?_
 | with_reducible refine Zam (t:=tDrop _) ?_
 | with_reducible refine iteF ?_
 | with_reducible refine iteT ?_
 | with_reducible refine Zau ?_
 | with_reducible refine Za7 ?_
 | with_reducible refine Zbk ?_
 | with_reducible refine Zgz ?_
 | with_reducible refine Za9 ?_
 | refine Znr rfl rfl ?_
 | refine Zkk rfl rfl ?_
 | with_reducible refine Zan ?_
 | with_reducible refine Zpz ?_
 | with_reducible refine Zao ?_
 | with_reducible refine Zog ?_
 | with_reducible refine Zdr ?_
 | with_reducible refine Zdq ?_
 | with_reducible refine Zaz ?_
 | with_reducible refine Zaw ?_
 | refine Zds rfl rfl ?_
 | refine Zkb rfl rfl ?_
 | with_reducible refine Zbb ?_
 | with_reducible refine Zev ?_
 | with_reducible refine Zn7 ?_
 | with_reducible refine Zgt ?_
 | with_reducible refine Zng ?_
 | with_reducible refine Zoe ?_
 | with_reducible refine Zls ?_
 | with_reducible refine Zgp ?_
 | with_reducible refine Zgv ?_
 | with_reducible refine Zae ?_
 | with_reducible refine Zab ?_
 | with_reducible refine Zar ?_
 | with_reducible refine Zfn ?_
 | with_reducible refine Zee ?_
 | with_reducible refine Zbx ?_
 | with_reducible refine Zb0 ?_
 | with_reducible refine Zbh ?_
 | with_reducible refine Ze6 ?_
 | with_reducible refine Zlq ?_
 | with_reducible refine Zd8 ?_
 | with_reducible refine Zh1 ?_
 | with_reducible refine Zks ?_
 | with_reducible refine Zo2 ?_
 | with_reducible refine Zhi ?_
 | with_reducible refine Zbu ?_
 | refine Zac rfl ?_
 | refine Za5 rfl ?_
 | refine Zb6 rfl ?_
 | refine Zbj (Or.inl rfl) ?_
 | refine Zbj (Or.inr rfl) ?_
 | refine Zc5 (Or.inl rfl) ?_
 | refine Zc5 (Or.inr rfl) ?_
 | refine Zl6 (Or.inl rfl) ?_
 | refine Zl6 (Or.inr rfl) ?_
 | refine Zkh ?_
 | refine ⟨⟨_,_,rfl,rfl⟩,?_⟩
 | refine ⟨_,_,_,_,rfl,rfl,rfl,rfl,?_⟩
 | refine ⟨_,rfl,?_⟩
 | refine jr_I (by first | (show (0:Int) < _; omega) | exact ⟨by omega,by omega⟩ | exact Or.inl ⟨by omega,by omega⟩ | exact Or.inr ⟨by omega,by omega⟩ | exact ⟨by decide,by decide,by decide⟩) ?_)
local macro_rules | `(tactic| walk_at "draw")=>`(tactic| first | refine Zcx rfl rfl (by assumption) (by omega) (by omega) fun _ _ _ _ _=>?_ | refine ⟨_,_,rfl,rfl,by assumption,_,rfl,by omega,by omega,fun _ _ _ _ _=>?_⟩)
def Pen (ps:List D):Prop:=∃ (cs:List Int) (at_ num:Int),ps=[.lst (cs.map .int),.int at_,.int num]/\0<=at_/\0<=num/\cs.length<=63
def fDraw:BSp:=fun ps ds Post=>Pen ps/\∃ m:Int,ds=[.int m]/\1<=m/\m<=100000000000000000000000000000000000000000000000000000000000/\∀ r ps',Pen ps' -> 0<=r->r < m->Post (.int r) ps'
abbrev LendQ (f:BSp) (i:Nat) (P:D->Evt->Prop):List D->Evt->Prop:=fun ds Δ1=>∃ y ps,Δ1[i]? = some y/\y.od=some (.lst ps)/\f ps ds fun d ps'=>P d (Δ1.set i (y.put (.lst ps')))
theorem Zds {K:PySem.W.Frag} {Δ:Evt} {P:D->Evt->Prop} {f:BSp} {ta:TA} {E:XK} {i:Nat} {x:Slot} {od:OD} (hx:Δ[i]? = some x) (ho:x.od=some od) (h:JA K ta Δ (LendQ f i P)):JE K (tCall (spB K f) [] E (tCons (tVar i) ta)) Δ P:=Zkb hx ho h
theorem Zcx {Δ1:Evt} {i:Nat} {y:Slot} {ps:List D} {m:Int} {P:D->Evt->Prop} (hx:Δ1[i]? = some y) (ho:y.od=some (.lst ps)) (hp:Pen ps) (h1:1<=m) (h2:m<=100000000000000000000000000000000000000000000000000000000000) (h:∀ r ps',Pen ps' -> 0<=r->r < m->P (.int r) (Δ1.set i (y.put (.lst ps')))) :
  LendQ fDraw i P [.int m] Δ1:=⟨y,ps,hx,ho,hp,m,rfl,h1,h2,h⟩
theorem Zp6 {K:PySem.W.Frag} {Δ:Evt} {E:XK} {i:Nat} {y:Slot} {ps:List D} {m:Int} {P:D->Evt->Prop} (hx:Δ[i]? = some y) (ho:y.od=some (.lst ps)) (hp:Pen ps) (h1:1<=m) (h2:m<=100000000000000000000000000000000000000000000000000000000000) (h:∀ r ps',Pen ps' -> 0<=r->r < m->P (.int r) (Δ.set i (y.put (.lst ps')))) :
  JE K (tCall (spB K fDraw) [] E (tCons (tVar i) (tCons (tC (.int m)) tNil))) Δ P:=Zds hx ho (Zab (Zao (Zae (Zcx hx ho hp h1 h2 h))))
section
variable {P:Program} {w:World} {K:PySem.W.Frag} {mg:Str->Option Value} {base:Heap} {f:Addr} {fd:FuncData}
theorem Zm9 (mb:Mb mg) (F:Fun K "_law_draw" "_law_draw" s_law_draw f fd):FnOk P w K mg base CX0 1 f fd ["_law_pen_here","_law_many"] (spB K fDraw):=by
 refine F.ok sc_law_draw (Zgw fun ps ds Post h=>by obtain ⟨_,m,rfl,_⟩:=h; rfl) (fun cdv A outer s H vs Q E hr h=>?_)
 have hu:=Zb2 hr
 refine ⟨_,(Zaf (Zbr (Zaq Zlh (Zax (ixK K hu) (pv 0) Zag (fun _ _=>rfl)) Zag (nomark _)) (Zaf (Za0 (i:=2) sc_law_draw.nd rfl (Or.inl rfl) (Zas Zb3 (Zax (ixK K hu) (pv 0) Zag (fun _ _=>rfl)) (pv 1))) (Zaf (Zf7 (Zas Zew (Zax (ixK K hu) (pv 0) Zag (fun _ _=>rfl)) (pv 1)) (Zjb (pv 0) Zag (setU hu))) (Zaj (Zav (pv 2))))) Zat) (Zaf (Za0 (i:=3) sc_law_draw.nd rfl (Or.inl rfl) (Zax (ixK K hu) (pv 0) Zag (fun _ _=>rfl))) (Zaf (Zf7 (Zas (addK K) (pv 3) Zag) (Zjb (pv 0) Zag (setU hu))) (Zaf (Za0 (i:=4) sc_law_draw.nd rfl (Or.inl rfl) Zag) (Zaf (Zbr (Zaq Zlh (Zak (lenK K) rfl (mb "len" (by decide)) Zbl (Zaa (Zax (ixK K hu) (pv 0) Zag (fun _ _=>rfl)) Zad)) Zag (nomark _)) (Zaj (Za0 (i:=4) sc_law_draw.nd rfl (Or.inl rfl) (Zax (ixK K hu) (Zax (ixK K hu) (pv 0) Zag (fun _ _=>rfl)) (Zas Zb3 (pv 3) (Zak (lenK K) rfl (mb "len" (by decide)) Zbl (Zaa (Zax (ixK K hu) (pv 0) Zag (fun _ _=>rfl)) Zad))) (fun _ _=>rfl)))) Zat) (Zaf (Zbr (PW.pt (pw_and (Zaq Zkg (pv 3) (Zak (lenK K) rfl (mb "len" (by decide)) Zbl (Zaa (Zax (ixK K hu) (pv 0) Zag (fun _ _=>rfl)) Zad)) (nomark _)) (pw_and1 (Zaq Zp1 (Zak Ze3 rfl (mb "abs" (by decide)) Ziy (Zaa (pv 4) Zad)) (Zas Zpf Zag Zag) (nomark _))))) (Zaf (Zf7 (Zas Zew (Zak Ze3 rfl (mb "abs" (by decide)) Ziy (Zaa (pv 4) Zad)) (pv 1)) (Zjb (pv 0) Zag (setU hu))) (Zaj (Zav (Zas Zb3 (Zak Ze3 rfl (mb "abs" (by decide)) Ziy (Zaa (pv 4) Zad)) (pv 1))))) Zat) (Zaf (Za0 (i:=5) sc_law_draw.nd rfl (Or.inl rfl) (Zas Zb3 (Zas Zde (Zas (addK K) (Zas (addK K) (Zas Zb3 (pv 4) Zag) (Zas Zde Zag (pv 3))) Zag) Zag) Zag)) (Zaf (Za0 (i:=5) sc_law_draw.nd rfl (Or.inl rfl) (Zas Zb3 (Zas (addK K) (Zas (addK K) (Zas Zde (pv 5) (pv 5)) (Zas Zde Zag (pv 5))) (pv 3)) Zag)) (Zaj (Zav (Zas Zb3 (Zas Zew (Zas Zb3 (Zas Zde (pv 5) Zag) Zag) Zag) (pv 1)))))))))))),Zmn (fun ps ds Post hf=>?_) h⟩
 obtain ⟨⟨cs,at_,num,rfl,h1,h2,h3⟩,m,rfl,h4,h5,q⟩:=hf
 refine ⟨by simp,?_⟩
 dsimp only [cxOf,startD,List.tail,List.map,List.length,List.replicate]
 refine Zbw (fun Δ=>¬ 0 < num /\ Δ = [.bor (.lst [.lst (cs.map .int),.int at_,.int num]),.val (.int m),.any,.any,.any,.any]) ?_ ?_
 ·repeat walk_at "js"
  refine ite2 (fun c=>?_) (fun c=>?_)
  ·have c:=of_decide_eq_true c
   repeat walk_at "js"
   exact q _ _ ⟨cs,at_,num / m,rfl,h1,Int.ediv_nonneg h2 (by omega),h3⟩ (Int.emod_nonneg _ (by omega)) (Int.emod_lt_of_pos _ (by omega))
  ·repeat walk_at "js"
   exact ⟨of_decide_eq_false (Bool.eq_false_iff.mpr c),rfl⟩
 rintro Δ1 ⟨hn,rfl⟩
 repeat walk_at "js"
 refine Zbw (fun Δ=>∃ c:Int,Δ = [.bor (.lst [.lst (cs.map .int),.int (at_ + 1),.int num]),.val (.int m),.any,.val (.int at_),.val (.int c),.any]) ?_ ?_
 ·repeat walk_at "js"
  refine ite2 (fun c=>?_) (fun c=>?_)
  ·have c:=of_decide_eq_true c
   rw [List.length_map] at c
   repeat walk_at "js"
   rw [List.length_map]
   repeat walk_at "js"
   obtain ⟨cell,_,hc⟩:=Zib (f:=D.int) (xs:=cs) (i:=at_ % (cs.length:Int)) (Int.emod_nonneg _ (by omega)) (Int.emod_lt_of_pos _ (by omega))
   refine Zb6 hc ?_
   exact ⟨cell,rfl⟩
  ·repeat walk_at "js"
   exact ⟨11,rfl⟩
 rintro Δ1 ⟨cell,rfl⟩
 refine Zbw (fun Δ=>Δ = [.bor (.lst [.lst (cs.map .int),.int (at_ + 1),.int num]),.val (.int m),.any,.val (.int at_),.val (.int cell),.any]) ?_ ?_
 ·repeat walk_at "js"
  refine ite2 (fun c=>?_) (fun c=>?_)
  ·repeat walk_at "js"
   refine ite2 (fun c=>?_) (fun c=>?_)
   ·repeat walk_at "js"
    have ha:0<=(if cell < 0 then -cell else cell):=by split <;> omega
    exact q _ _ ⟨cs,at_ + 1,_,rfl,by omega,Int.ediv_nonneg ha (by omega),h3⟩ (Int.emod_nonneg _ (by omega)) (Int.emod_lt_of_pos _ (by omega))
   ·repeat walk_at "js"
    rfl
  ·repeat walk_at "js"
   rfl
 rintro Δ1 rfl
 repeat walk_at "js"
 exact q _ _ ⟨cs,at_ + 1,num,rfl,by omega,h2,h3⟩ (Int.emod_nonneg _ (by omega)) (Int.emod_lt_of_pos _ (by omega))
end
def fPen:NSp:=fun ds Post=>∃ ns:List Int,ds=[.scr (ns.map .int)]/\ns.length<=63/\∀ ps,Pen ps->Post ps
section
variable {P:Program} {w:World} {K:PySem.W.Frag} {mg:Str->Option Value} {base:Heap} {f:Addr} {fd:FuncData}
theorem Zo6 (mb:Mb mg) (F:Fun K "_law_pen" "_law_pen" s_law_pen f fd):FnOk P w K mg base CX0 1 f fd ["_law_script"] (spN K fPen):=by
 refine F.ok sc_law_pen (Zja fun ds Post h=>by obtain ⟨ns,rfl,_⟩:=h; rfl) (fun cdv A outer s H vs Q E hr h=>?_)
 have hu:=Zb2 hr
 refine ⟨_,(Zaj (Zav (Zd3 (Zaa (Zbf ["_law_cell"] (show CompSc (defScope s_law_pen) ["_law_script"] _ [] [] from ⟨rfl,by decide +kernel,by decide +kernel,by decide +kernel,rfl,by decide +kernel⟩) rfl (seqK K (Zer (slK K) (pv 0) Zgs (Zg6 Zag))) (fun _ _ _ _ _=>(Zap (i:=0) (show List.Nodup (["_law_cell"]:List Str) from by decide) rfl (Or.inl rfl))) (fun _ _ _ _ _=>Zbo) (fun _ _ _ _ _=>(pv 0))) (Zaa Zag (Zaa Zag Zad)))))),Zoz (fun ds Post hf=>?_) h⟩
 obtain ⟨ns,rfl,h1,q⟩:=hf
 refine ⟨by simp,?_⟩
 dsimp only [cxOf,startD,List.tail,List.map,List.length,List.replicate]
 refine Zj5 (Zfv (Zab (Zb5 (by decide) (Zek ?_))))
 repeat walk_at "js"
 have e:cutD (ns.map D.int) none (some 63)=ns.map D.int:=by
  unfold cutD
  have e1:HT.sIx (ns.map D.int).length 0 none=0:=rfl
  have e2:HT.sIx (ns.map D.int).length (ns.map D.int).length (some 63)=ns.length:=by
   rw [List.length_map]; show min (Int.toNat 63) ns.length=_; omega
  rw [e1,e2,List.drop_zero,Nat.sub_zero,List.take_of_length_le (by simp)]
 rw [e]
 refine ⟨_,Or.inl rfl,by rw [List.length_map]; exact Nat.lt_of_le_of_lt h1 (by decide),fun _=>true,fun d=>d,fun i d hd=>?_,?_⟩
 ·repeat walk_at "js"
  exact ⟨rfl,Zac rfl ⟨rfl,_,rfl⟩⟩
 ·repeat walk_at "js"
  refine ⟨by show 3<=sizeLine; decide,_,rfl,q _ ⟨ns,0,0,?_,by decide,by decide,h1⟩⟩
  simp
end
def encTie (t:Int × Int):D:=.tup [.int t.1,.int t.2]
def encWeb (n:Int) (ts:List (Int × Int)):D:=.tup [.int n,.tup (ts.map encTie)]
structure WebOk (n:Int) (ts:List (Int × Int)):Prop where
 lo:1<=n
 hi:n<=25
 len:ts.length<=24
 tie:∀ t ∈ ts,0<=t.1/\t.1 < n/\0<=t.2/\t.2 < n
def fWeb:BSp:=fun ps ds Post=>Pen ps/\∃ a b:Int,ds=[.int a,.int b]/\1<=a/\a<=25/\0<=b/\b<=24/\∀ n ts ps',Pen ps' -> WebOk n ts->n<=a->(ts.length:Int)<=b->Post (encWeb n ts) ps'
theorem Zl2 {Δ1:Evt} {i:Nat} {y:Slot} {ps:List D} {a b:Int} {P:D->Evt->Prop} (hx:Δ1[i]? = some y) (ho:y.od=some (.lst ps)) (hp:Pen ps) (h1:1<=a) (h2:a<=25) (h3:0<=b) (h4:b<=24) (h:∀ n ts ps',Pen ps' -> WebOk n ts->n<=a->(ts.length:Int)<=b->P (encWeb n ts) (Δ1.set i (y.put (.lst ps')))) :
  LendQ fWeb i P [.int a,.int b] Δ1:=⟨y,ps,hx,ho,hp,a,b,rfl,h1,h2,h3,h4,h⟩
theorem Zjc:2<=sizeLine:=by decide
theorem Zgg {K:PySem.W.Frag} {Δ:Evt} {i:Nat} {v c:Int} {P:Bool->Evt->Prop} (hx:Δ[i]? = some (.val (.int v))) (h1:v=c->P true Δ) (h2:¬ v=c->P false Δ):JT K (tTest (tOp rEq (tVar i) (tC (.int c)))) Δ P:=
 Zar (Zan (Zac hx (Zao (Zh1 ⟨_,rfl,by
  by_cases h:v=c
  ·rw [decide_eq_true h]; exact h1 h
  ·rw [decide_eq_false h]; exact h2 h⟩))))
def wSt (py:List D) (a b n way k:Int) (fs:List D) (i u v:Int):Evt:=[.bor (.lst py),.val (.int a),.val (.int b),.val (.int n),.val (.int way),.val (.int k),.own (.lst fs),.val (.int i),.val (.int u),.val (.int v)]
def wQ (py:List D) (a b n way k:Int) (fs:List D) (i:Int):Evt->Prop:=fun Δ=>∃ u v:Int,0<=u/\u < n/\0<=v/\v < n /\ Δ = wSt py a b n way k fs i u v
def wR (py:List D) (a b n way k:Int) (fs:List D) (i:Int):Evt->Prop:=fun Δ=>∃ u v:Int,0<=u/\u < n/\0<=v /\ Δ = wSt py a b n way k fs i u v
def wL (a b n way k:Int) (i:Nat):Evt->Prop:=fun Δ=>∃ (ps:List D) (ts:List (Int × Int)) (x7 x8 x9:Slot),Pen ps/\ts.length=i/\(∀ t ∈ ts,0<=t.1/\t.1 < n/\0<=t.2/\t.2 < n) /\ Δ = [.bor (.lst ps),.val (.int a),.val (.int b),.val (.int n),.val (.int way),.val (.int k),.own (.lst (ts.map encTie)),x7,x8,x9]
section
variable {P:Program} {w:World} {K:PySem.W.Frag} {mg:Str->Option Value} {base:Heap} {f:Addr} {fd:FuncData}
theorem Zo3 (mb:Mb mg) (C__law_draw:Callee P w K mg base 1 "_law_draw" ["_law_pen_here","_law_many"] (spB K fDraw)) (F:Fun K "_law_web" "_law_web" s_law_web f fd):FnOk P w K mg base CX0 2 f fd ["_law_pen_here","_law_places","_law_ties"] (spB K fWeb):=by
 refine F.ok sc_law_web (Zgw fun ps ds Post h=>by obtain ⟨_,a,b,rfl,_⟩:=h; rfl) (fun cdv A outer s H vs Q E hr h=>?_)
 have hu:=Zb2 hr
 refine ⟨_,(Zaf (Za0 (i:=3) sc_law_web.nd rfl (Or.inl rfl) (Zas (addK K) Zag (Za6 C__law_draw (hr.mono (by decide)) (Zaa (pv 0) (Zaa (pv 1) Zad))))) (Zaf (Za0 (i:=4) sc_law_web.nd rfl (Or.inl rfl) (Za6 C__law_draw (hr.mono (by decide)) (Zaa (pv 0) (Zaa Zag Zad)))) (Zaf (Za0 (i:=5) sc_law_web.nd rfl (Or.inl rfl) (Za6 C__law_draw (hr.mono (by decide)) (Zaa (pv 0) (Zaa (Zas (addK K) (pv 2) Zag) Zad)))) (Zaf (Zbr (Zaq Zcb (pv 4) Zag (nomark _)) (Zaf (Za0 (i:=3) sc_law_web.nd rfl (Or.inl rfl) (pv 1)) (Zaj (Za0 (i:=5) sc_law_web.nd rfl (Or.inl rfl) (pv 2)))) Zat) (Zaf (Za0 (i:=6) sc_law_web.nd rfl (Or.inl rfl) (Zd3 Zad)) (Zaf (Zdw PassesOwn.never rfl (Zcm rfl (mb "range" (by decide)) (Zaa (pv 5) Zad)) (Zap (i:=7) sc_law_web.nd rfl (Or.inl rfl)) (Zaf (Zmg (i:=8) (j:=9) rfl sc_law_web.nd rfl rfl (by decide) rfl rfl (Zaa (Za6 C__law_draw (hr.mono (by decide)) (Zaa (pv 0) (Zaa (pv 3) Zad))) (Zaa (Za6 C__law_draw (hr.mono (by decide)) (Zaa (pv 0) (Zaa (pv 3) Zad))) Zad)) rfl) (Zaf (Zbr (Zaq Zcb (pv 4) Zag (nomark _)) (Zaj (Zmg (i:=8) (j:=9) rfl sc_law_web.nd rfl rfl (by decide) rfl rfl (Zaa (Zas Zb3 (pv 7) (pv 3)) (Zaa (Zas Zb3 (Zas (addK K) (pv 7) Zag) (pv 3)) Zad)) rfl)) Zat) (Zaf (Zbr (Zaq Zcb (pv 4) Zag (nomark _)) (Zaj (Za0 (i:=8) sc_law_web.nd rfl (Or.inl rfl) Zag)) Zat) (Zaf (Zbr (Zaq Zcb (pv 4) Zag (nomark _)) (Zaj (Za0 (i:=9) sc_law_web.nd rfl (Or.inl rfl) (Zas (addK K) (Zas Zb3 (pv 8) Zag) (Zas Zde (Zas Zgk (pv 9) Zag) Zag)))) Zat) (Zaf (Zbr (PW.pt (pw_and (Zaq Zcb (pv 4) Zag (nomark _)) (pw_and1 (Zaq Zcb (Zas Zb3 (pv 9) Zag) Zag (nomark _))))) (Zaj (Za0 (i:=9) sc_law_web.nd rfl (Or.inl rfl) (pv 8))) Zat) (Zaj (Zfh (bmK K PySem.F.plainAttrs_list PySem.F.slot_list_append PySem.F.type_list_append Zc1 (pv 6) (Zaa (Zbg (Zaa (pv 8) (Zaa (Zak (Zfy rfl) rfl (mb "min" (by decide)) Zis (Zaa (pv 9) (Zaa (Zas Zi1 (pv 3) Zag) Zad))) Zad))) Zad)))))))))) (Zaj (Zav (Zbg (Zaa (pv 3) (Zaa (Za1 (tupK K) rfl (mb "tuple" (by decide)) Zbp (Zaa (pv 6) Zad)) Zad))))))))))),Zmn (fun ps ds Post hf=>?_) h⟩
 obtain ⟨hp,a,b,rfl,h1,h2,h3,h4,q⟩:=hf
 refine ⟨by simp,?_⟩
 dsimp only [cxOf,startD,List.tail,List.map,List.length,List.replicate]
 refine Zam (Za9 (Zan (Zao (Zds rfl rfl (Zab (Zac rfl (Zae (Zcx (m:=a) rfl rfl hp h1 (Int.le_trans h2 (by decide)) fun r0 ps0 hp0 hr0 hs0=>Ze6 ?_))))))))
 refine Zam (Za9 (Zp6 rfl rfl hp0 (by decide) (by decide) fun way ps1 hp1 hw0 hw1=>?_))
 refine Zam (Za9 (Zds rfl rfl (Zab (Zfi (Zcw (Zbs rfl) Zbc Zgm) (Zae (Zcx (m:=b + 1) rfl rfl hp1 (Int.add_le_add h3 (Int.le_refl 1)) (Int.le_trans (Int.add_le_add h4 (Int.le_refl 1)) (by decide)) fun cnt ps2 hp2 hc0 hc1=>?_))))))
 refine Zbw (fun Δ=>∃ n k:Int,1<=n/\n<=a/\0<=k/\k<=b /\ Δ = [.bor (.lst ps2),.val (.int a),.val (.int b),.val (.int n),.val (.int way),.val (.int k),.any,.any,.any,.any]) ?_ ?_
 ·refine Zbk (Zgg rfl (fun c=>iteT ?_) (fun c=>iteF (Zau ⟨1 + r0,cnt,Int.le_add_of_nonneg_right hr0,by omega,hc0,Int.le_of_lt_add_one hc1,rfl⟩)))
  exact Zam (Za9 (Zac rfl (Za9 (Zac rfl ⟨a,b,h1,Int.le_refl _,h3,Int.le_refl _,rfl⟩))))
 rintro Δ1 ⟨n,k,hn0,hn1,hk0,hk1,rfl⟩
 have hn2:0 < n:=Int.lt_of_lt_of_le (by decide) hn0
 have hn3:n ≠ 0:=Int.ne_of_gt hn2
 refine Zam (Zfb (Zfv (Zae ⟨by decide,?_⟩)))
 refine Zbw (wL a b n way k k.toNat) ?_ ?_
 ·refine Zdx (Zcj (Zab (Zac rfl (Zae ⟨_,rfl,by omega,by omega,?_⟩))))
  refine ⟨wL a b n way k,⟨ps2,[],.any,.any,.any,hp2,rfl,fun _ h=>(nomatch h),rfl⟩,?_,fun Δ2 h=>by rw [Zbt] at h; exact h⟩
  rintro i d Δ2 hd ⟨ps,ts,x7,x8,x9,hp',hl,ht,rfl⟩
  obtain ⟨hi,rfl⟩:=Zc4 hd
  generalize (0 + (i:Int))=I
  refine Zbu (Zam (Zgz (Zab (Zds rfl rfl (Zab (Zac rfl (Zae (Zcx (m:=n) rfl rfl hp' hn0 (by omega) fun x px hpx hx0 hx1=>?_))))))))
  refine Zab (Zds rfl rfl (Zab (Zac rfl (Zae (Zcx (m:=n) rfl rfl hpx hn0 (by omega) fun y py hpy hy0 hy1=>Zae ⟨_,_,rfl,?_⟩)))))
  refine Zbw (wQ py a b n way k (ts.map encTie) I) ?_ ?_
  ·refine Zbk (Zgg rfl (fun c=>iteT ?_) (fun c=>iteF (Zau ⟨x,y,hx0,hx1,hy0,hy1,rfl⟩)))
   exact Zgz (Zhh (Zbe (Zcw (Zbs rfl) (Zbs rfl) (pr_I hn2)) (Zbe (Zcw (Zcw (Zbs rfl) Zbc Zgm) (Zbs rfl) (pr_I hn2)) Zdy)) ⟨_,_,rfl,_,_,Int.emod_nonneg _ hn3,Int.emod_lt_of_pos _ hn2,Int.emod_nonneg _ hn3,Int.emod_lt_of_pos _ hn2,rfl⟩)
  rintro Δ3 ⟨u,v,hu0,hu1,hv0,hv1,rfl⟩
  refine Zbw (wQ py a b n way k (ts.map encTie) I) ?_ ?_
  ·exact Zbk (Zgg rfl (fun c=>iteT (Za9 (Zao ⟨0,v,Int.le_refl _,hn2,hv0,hv1,rfl⟩))) (fun c=>iteF (Zau ⟨u,v,hu0,hu1,hv0,hv1,rfl⟩)))
  rintro Δ3 ⟨u,v,hu0,hu1,hv0,hv1,rfl⟩
  refine Zbw (wR py a b n way k (ts.map encTie) I) ?_ ?_
  ·refine Zbk (Zgg rfl (fun c=>iteT ?_) (fun c=>iteF (Zau ⟨u,v,hu0,hu1,hv0,rfl⟩)))
   exact Za9 (Zfi (Zcw (Zcw (Zbs rfl) Zbc (pr_I (show (0:Int) < 2 by decide))) (Zcw (Zcw (Zbs rfl) Zbc (pr_I ⟨by decide,by decide⟩)) Zbc (pr_I (Or.inr ⟨by decide,by decide⟩))) Zgm) ⟨u,_,hu0,hu1,by omega,rfl⟩)
  rintro Δ3 ⟨u,v,hu0,hu1,hv0,rfl⟩
  refine Zbw (wR py a b n way k (ts.map encTie) I) ?_ ?_
  ·refine Zbk (Zfn (Zgg rfl (fun c=>iteT ?_) (fun c=>iteF (iteF (Zau ⟨u,v,hu0,hu1,hv0,rfl⟩)))))
   refine Zar (Zan (Zfi (Zcw (Zbs rfl) Zbc (pr_I (show (0:Int) < 2 by decide))) (Zao (Zh1 ⟨_,rfl,ite2 (fun c=>?_) (fun c=>Zau ⟨u,v,hu0,hu1,hv0,rfl⟩)⟩))))
   exact Za9 (Zac rfl ⟨u,u,hu0,hu1,hu0,rfl⟩)
  rintro Δ3 ⟨u,v,hu0,hu1,hv0,rfl⟩
  refine Zi8 rfl rfl (Zbb (Zab (Zac rfl (Zab (Zaz (Zab (Zac rfl (Zab (Zfi (Zcw (Zbs rfl) Zbc Zp7) (Zae (Zhi (Zae ?_))))))))))))
  refine ⟨Zjc,_,_,rfl,rfl,?_,py,ts ++ [(u,if n - 1 < v then n - 1 else v)],.val (.int I),.val (.int u),.val (.int v),hpy,by rw [List.length_append,hl]; rfl,fun t h=>?_,?_⟩
  ·rw [List.length_map]; exact small1000 (by omega)
  ·rcases List.mem_append.mp h with h | h
   ·exact ht t h
   ·rw [List.mem_singleton.mp h]
    refine ⟨hu0,hu1,?_,?_⟩
    ·show 0<=(if n - 1 < v then n - 1 else v); split <;> omega
    ·show (if n - 1 < v then n - 1 else v) < n; split <;> omega
  ·rw [List.map_append]; rfl
 rintro Δ1 ⟨ps3,ts,x7,x8,x9,hp3,hl,ht,rfl⟩
 refine Za7 (Zbb (Zab (Zac rfl (Zab (Zaz (Zab (Zgl rfl (Zae (Zc5 (Or.inl rfl) (Zae ⟨Zjc,?_⟩))))))))))
 exact ⟨_,rfl,q n ts _ hp3 ⟨hn0,by omega,by omega,ht⟩ hn1 (by omega)⟩
end
def placeAt (ts:List (Int × Int)) (e:Nat):Int:=match ts[e / 2]? with
 | some t=>if e % 2=0 then t.1 else t.2
 | none=>-1
def encRow (r:List Int):D:=.tup (r.map .int)
def encOrd (o:List (List Int)):D:=.tup (o.map encRow)
def endsBelow (ts:List (Int × Int)) (m:Nat) (p:Int):List Int:=((List.range m).filter fun e=>decide (placeAt ts e=p)).map fun e:Nat=>(e:Int)
structure RowOk (ts:List (Int × Int)) (m:Nat) (p:Int) (r:List Int):Prop where
 perm:r.Perm (endsBelow ts m p)
 first:r.head? = (endsBelow ts m p).head?
structure OrdOk (n:Int) (ts:List (Int × Int)) (o:List (List Int)):Prop where
 len:(o.length:Int)=n
 row:∀ (p:Nat) r,o[p]? = some r->RowOk ts (2 * ts.length) (p:Int) r
theorem Zcu (ts:List (Int × Int)) (k:Nat) (p:Int):endsBelow ts (k + 1) p=endsBelow ts k p ++ (if placeAt ts k=p then [(k:Int)] else []):=by
 unfold endsBelow
 rw [List.range_succ,List.filter_append,List.map_append]
 congr 1
 by_cases h:placeAt ts k=p
 ·simp [List.filter_cons,h]
 ·simp [List.filter_cons,h]
theorem Zey (ts:List (Int × Int)) (m:Nat) (p:Int):(endsBelow ts m p).length<=m:=by
 unfold endsBelow
 rw [List.length_map]
 exact Nat.le_trans (List.length_filter_le _ _) (by rw [List.length_range]; exact Nat.le_refl _)
theorem RowOk.len {ts:List (Int × Int)} {m:Nat} {p:Int} {r:List Int} (h:RowOk ts m p r):r.length<=m:=by rw [h.perm.length_eq]; exact Zey ts m p
theorem RowOk.stay {ts:List (Int × Int)} {k:Nat} {p:Int} {r:List Int} (h:RowOk ts k p r) (hp:placeAt ts k ≠ p):RowOk ts (k + 1) p r:=by
 have e:=Zcu ts k p
 rw [if_neg hp,List.append_nil] at e
 exact ⟨by rw [e]; exact h.perm,by rw [e]; exact h.first⟩
theorem RowOk.put {ts:List (Int × Int)} {k j:Nat} {p:Int} {r:List Int} (h:RowOk ts k p r) (hp:placeAt ts k=p) (hj:j<=r.length) (h1:r ≠ []->1<=j):RowOk ts (k + 1) p (r.take j ++ (k:Int) :: r.drop j):=by
 have e:=Zcu ts k p
 rw [if_pos hp] at e
 refine ⟨?_,?_⟩
 ·rw [e]
  refine List.perm_middle.trans ?_
  rw [List.take_append_drop]
  exact (List.Perm.cons _ h.perm).trans (List.perm_append_singleton _ _).symm
 ·rw [e]
  cases r with
  | nil=>
   have z:endsBelow ts k p=[]:=List.Perm.eq_nil h.perm.symm
   rw [z]
   have:j=0:=by simpa using hj
   subst this
   rfl
  | cons x r'=>
   have h2:=h1 (by simp)
   obtain ⟨j',rfl⟩:∃ j',j=j' + 1:=⟨j - 1,by omega⟩
   have h3:=h.first
   show some x=_
   cases q:endsBelow ts k p with
   | nil=>rw [q] at h3; cases h3
   | cons y l=>rw [q] at h3; exact h3
theorem Zly {ts:List (Int × Int)} {k:Nat} (h:k < 2 * ts.length):∃ t,ts[k / 2]? = some t/\atI (ts.map encTie) ((0 + (k:Int)) / 2)=some (encTie t)/\atI [D.int t.1,D.int t.2] ((0 + (k:Int)) % 2)=some (.int (placeAt ts k)):=by
 have hk:k / 2 < ts.length:=by omega
 refine ⟨ts[k / 2],List.getElem?_eq_getElem hk,?_,?_⟩
 ·have e:(0 + (k:Int)) / 2=((k / 2:Nat):Int):=by omega
  rw [e]
  exact Zbn (by rw [List.getElem?_map,List.getElem?_eq_getElem hk]; rfl)
 ·have e2:placeAt ts k=if k % 2=0 then ts[k / 2].1 else ts[k / 2].2:=by
   unfold placeAt; rw [List.getElem?_eq_getElem hk]
  rw [e2]
  have e:(0 + (k:Int)) % 2=((k % 2:Nat):Int):=by omega
  rw [e]
  by_cases h0:k % 2=0
  ·rw [if_pos h0,h0]; exact Zbn rfl
  ·have h1:k % 2=1:=by omega
   rw [if_neg h0,h1]; exact Zbn rfl
theorem Zlm {n:Int} {ts:List (Int × Int)} (hW:WebOk n ts) {k:Nat} (h:k < 2 * ts.length):0<=placeAt ts k/\placeAt ts k < n:=by
 have hk:k / 2 < ts.length:=by omega
 have:=hW.tie _ (List.getElem_mem hk)
 unfold placeAt
 rw [List.getElem?_eq_getElem hk]
 dsimp only
 split <;> omega
def fOrder:BSp:=fun ps ds Post=>Pen ps/\∃ n ts,ds=[encWeb n ts]/\WebOk n ts/\∀ o ps',Pen ps' -> OrdOk n ts o->Post (encOrd o) ps'
theorem Zhn {Δ1:Evt} {i:Nat} {y:L2.Slot} {ps:List D} {n:Int} {ts:List (Int × Int)} {P:D->Evt->Prop} (hx:Δ1[i]? = some y) (ho:y.od=some (.lst ps)) (hp:Pen ps) (hW:WebOk n ts) (h:∀ o ps',Pen ps' -> OrdOk n ts o->P (encOrd o) (Δ1.set i (y.put (.lst ps')))) :
  LendQ fOrder i P [encWeb n ts] Δ1:=⟨y,ps,hx,ho,hp,n,ts,rfl,hW,h⟩
def oSt (ps:List D) (n:Int) (ts:List (Int × Int)) (cs:List (Addr × List Int)) (x3 x4:L2.Slot):Evt:=.bor (.lst ps) :: .val (encWeb n ts) :: .val (.lst (cs.map fun c=>D.adr c.1)) :: x3 :: x4 :: (cs.map (fun c=>L2.Slot.ownA c.1 (.lst (c.2.map D.int))) ++ List.replicate (25 - n.toNat) .any)
def oP (n:Int) (ts:List (Int × Int)) (k:Nat):Evt->Prop:=fun Δ=>∃ (ps:List D) (cs:List (Addr × List Int)) (x3 x4:L2.Slot),Pen ps/\cs.length=n.toNat/\(∀ (p:Nat) c,cs[p]? = some c->RowOk ts k (p:Int) c.2) /\ Δ = oSt ps n ts cs x3 x4
theorem Zi3 {n:Int} {ts:List (Int × Int)} {ps:List D} {as:List Addr} (hn2:n<=25) (hal:as.length=(List.map (fun _=>OD.lst []) ((rngD 0 n.toNat).filter fun _=>true)).length):∃ cs:List (Addr × List Int),cs.length=n.toNat/\(∀ (p:Nat) c,cs[p]? = some c->c.2=[]) ∧
  L2.putN 5 (as.zip (List.map (fun _=>OD.lst []) ((rngD 0 n.toNat).filter fun _=>true))) ([.bor (.lst ps),.val (encWeb n ts),.val (.lst (as.map D.adr)),.any,.any] ++ List.replicate 25 .any)=oSt ps n ts cs .any .any:=by
 have eR:(rngD 0 n.toNat).filter (fun _=>true)=rngD 0 n.toNat:=by simp
 rw [eR,List.length_map,Zbt] at hal
 have eO:(rngD 0 n.toNat).map (fun _=>OD.lst [])=List.replicate n.toNat (OD.lst []):=by
  rw [List.map_const',Zbt]
 rw [eR,eO]
 generalize hcs:as.map (fun a=>((a,[]):Addr × List Int))=cs
 have hcl:cs.length=n.toNat:=by rw [<- hcs,List.length_map,hal]
 have e1:as.map D.adr=cs.map fun c=>D.adr c.1:=by rw [<- hcs,List.map_map]; rfl
 have e2:as.zip (List.replicate n.toNat (OD.lst []))=cs.map fun c=>(c.1,OD.lst (c.2.map D.int)):=by
  rw [<- hcs,List.map_map,<- hal]
  clear e1 hcl hcs hal
  induction as with
  | nil=>rfl
  | cons a r ih=>rw [List.length_cons,List.replicate_succ,List.zip_cons_cons,ih]; rfl
 have e3:=Zjm (cs.map fun c=>(c.1,OD.lst (c.2.map D.int))) [.bor (.lst ps),.val (encWeb n ts),.val (.lst (cs.map fun c=>D.adr c.1)),.any,.any] [] 25 (by rw [List.length_map]; omega)
 rw [List.append_nil,List.append_nil,List.map_map,List.length_map,hcl] at e3
 refine ⟨cs,hcl,fun p c hc=>?_,by rw [e1,e2]; exact e3⟩
 rw [<- hcs,List.getElem?_map] at hc
 cases q:as[p]? with
 | none=>rw [q] at hc; cases hc
 | some a=>rw [q] at hc; cases hc; rfl
theorem Zoa {ps:List D} {n:Int} {ts:List (Int × Int)} {cs:List (Addr × List Int)} {x3 x4:L2.Slot} {p:Nat} {c:Addr × List Int} (h:cs[p]? = some c):(oSt ps n ts cs x3 x4)[p + 5]? = some (.ownA c.1 (.lst (c.2.map D.int))):=by
 show (cs.map (fun c=>L2.Slot.ownA c.1 (.lst (c.2.map D.int))) ++ List.replicate (25 - n.toNat) .any)[p]? = _
 rw [List.getElem?_append_left (by rw [List.length_map]; exact (List.getElem?_eq_some_iff.mp h).1),List.getElem?_map,h]; rfl
theorem Zm4 {ps ps':List D} {n:Int} {ts:List (Int × Int)} {cs:List (Addr × List Int)} {x3 x4:L2.Slot} {p:Nat} {c:Addr × List Int} {r:List Int} {v:L2.Slot} (h:cs[p]? = some c) (hv:v=.ownA c.1 (.lst (r.map D.int))):(oSt ps n ts cs x3 x4).set (p + 5) v=oSt ps n ts (cs.set p (c.1,r)) x3 x4:=by
 have hp:=(List.getElem?_eq_some_iff.mp h).1
 have ea:(cs.set p (c.1,r)).map (fun c=>D.adr c.1)=cs.map fun c=>D.adr c.1:=by
  rw [List.map_set]
  apply List.ext_getElem?
  intro i
  by_cases hii:i=p
  ·subst hii
   rw [List.getElem?_set_self (by rw [List.length_map]; exact hp),List.getElem?_map,h]; rfl
  ·rw [List.getElem?_set_ne (Ne.symm hii)]
 unfold oSt
 rw [ea,List.map_set,hv,<- List.set_append_left _ _ (by rw [List.length_map]; exact hp)]
 rfl
section
variable {P:Program} {w:World} {K:PySem.W.Frag} {mg:Str->Option Value} {base:Heap} {f:Addr} {fd:FuncData}
theorem Zkq (mb:Mb mg) (C__law_draw:Callee P w K mg base 1 "_law_draw" ["_law_pen_here","_law_many"] (spB K fDraw)) (F:Fun K "_law_order" "_law_order" s_law_order f fd):FnOk P w K mg base CX0 2 f fd ["_law_pen_here","_law_web_here"] (spB K fOrder):=by
 refine F.ok sc_law_order (Zgw fun ps ds Post h=>by obtain ⟨_,n,ts,rfl,_⟩:=h; rfl) (fun cdv A outer s H vs Q E hr h=>?_)
 have hu:=Zb2 hr
 refine ⟨_,(Zaf (Zlb 5 (show ∀ x ∈ (["_law_pen_here","_law_web_here","_law_rows","_law_k","_law_row","!0","!1","!2","!3","!4","!5","!6","!7","!8","!9","!10","!11","!12","!13","!14","!15","!16","!17","!18","!19","!20","!21","!22","!23","!24"]:List Str).drop 5,(defScope s_law_order).names.lookup x=none from by decide +kernel) (Zff (i:=2) ["_law_place"] (show CompSc (defScope s_law_order) ["_law_pen_here","_law_web_here","_law_rows","_law_k","_law_row","!0","!1","!2","!3","!4","!5","!6","!7","!8","!9","!10","!11","!12","!13","!14","!15","!16","!17","!18","!19","!20","!21","!22","!23","!24"] _ [] [] from ⟨rfl,by decide +kernel,by decide +kernel,by decide +kernel,rfl,by decide +kernel⟩) rfl sc_law_order.nd rfl (Or.inl rfl) (Zcm rfl (mb "range" (by decide)) (Zaa (Zax (ixK K hu) (pv 1) Zag (fun _ _=>rfl)) Zad)) (fun _ _ _ _ _=>(Zap (i:=0) (show List.Nodup (["_law_place"]:List Str) from by decide) rfl (Or.inl rfl))) (fun _ _ _ _ _=>Zbo) (fun _ _ _ _ _=>(Zd3 Zad)))) (Zaf (Zdw PassesOwn.never rfl (Zcm rfl (mb "range" (by decide)) (Zaa (Zas Zde Zag (Zak (lenK K) rfl (mb "len" (by decide)) Zbl (Zaa (Zax (ixK K hu) (pv 1) Zag (fun _ _=>rfl)) Zad))) Zad)) (Zap (i:=3) sc_law_order.nd rfl (Or.inl rfl)) (Zaf (Za0 (i:=4) sc_law_order.nd rfl (Or.inl rfl) (Zax (ixK K hu) (pv 2) (Zax (ixK K hu) (Zax (ixK K hu) (Zax (ixK K hu) (pv 1) Zag (fun _ _=>rfl)) (Zas Zgk (pv 3) Zag) (fun _ _=>rfl)) (Zas Zb3 (pv 3) Zag) (fun _ _=>rfl)) (fun _ _=>rfl))) (Zaj (Zfh (bmK K PySem.F.plainAttrs_list PySem.F.slot_list_insert PySem.F.type_list_insert Zju (pv 4) (Zaa (Zak (Zfy rfl) rfl (mb "min" (by decide)) Zis (Zaa (Zak (lenK K) rfl (mb "len" (by decide)) Zbl (Zaa (pv 4) Zad)) (Zaa (Zas (addK K) Zag (Za6 C__law_draw (hr.mono (by decide)) (Zaa (pv 0) (Zaa (Zak (Zjj rfl) rfl (mb "max" (by decide)) Zn8 (Zaa Zag (Zaa (Zak (lenK K) rfl (mb "len" (by decide)) Zbl (Zaa (pv 4) Zad)) Zad))) Zad)))) Zad))) (Zaa (pv 3) Zad))))))) (Zaj (Zav (Za1 (tupK K) rfl (mb "tuple" (by decide)) Zbp (Zaa (Zbf ["_law_row"] (show CompSc (defScope s_law_order) ["_law_pen_here","_law_web_here","_law_rows","_law_k","_law_row","!0","!1","!2","!3","!4","!5","!6","!7","!8","!9","!10","!11","!12","!13","!14","!15","!16","!17","!18","!19","!20","!21","!22","!23","!24"] _ [] [] from ⟨rfl,by decide +kernel,by decide +kernel,by decide +kernel,rfl,by decide +kernel⟩) rfl (seqK K (pv 2)) (fun _ _ _ _ _=>(Zap (i:=0) (show List.Nodup (["_law_row"]:List Str) from by decide) rfl (Or.inl rfl))) (fun _ _ _ _ _=>Zbo) (fun _ _ _ _ _=>(Za1 (tupK K) rfl (mb "tuple" (by decide)) Zbp (Zaa (pv 0) Zad)))) Zad)))))),Zmn (fun ps ds Post hf=>?_) h⟩
 obtain ⟨hp,n,ts,rfl,hW,q⟩:=hf
 refine ⟨by simp,?_⟩
 dsimp only [cxOf,startD,List.tail,List.map,List.length]
 have hn:=hW.lo
 have hn2:=hW.hi
 have hts:=hW.len
 -- the rows
 refine Zam (Zmy (Zlp (by decide) (Zcj ?_)))
 refine Zab (Zan (Zac rfl (Zao (Za5 (d:=.int n) rfl (Zae ⟨n,rfl,by omega,by omega,?_⟩)))))
 refine ⟨by rw [Zbt]; exact small1000 (by omega),fun _=>true,fun _=>.lst [],fun i d hd=>?_,by decide,?_,fun as hal hnd=>?_⟩
 ·exact Zbh ⟨rfl,Zfv (Zae ⟨by decide,rfl,_,rfl⟩)⟩
 ·rw [List.length_map]
  have e:((rngD 0 n.toNat).filter fun _=>true).length<=25:=Nat.le_trans (List.length_filter_le _ _) (by rw [Zbt]; omega)
  show 5 + _<=30
  omega
 obtain ⟨cs,hcl,hce,e⟩:=Zi3 (ps:=ps) (ts:=ts) hn2 hal
 refine Eq.mpr (congrArg (fun Δ=>JS K _ Δ _) e) ?_
 -- the loop
 refine Zbw (oP n ts (2 * ts.length)) ?_ ?_
 ·refine Zdx (Zcj (Zab (Zfi (Zcw Zbc (Zmw (Zl7 (ds:=[.int n,.tup (ts.map encTie)]) rfl rfl)) (pr_I (Or.inl ⟨by decide,by decide⟩))) (Zae ⟨_,rfl,?_,?_,?_⟩))))
  ·rw [List.length_map]; omega
  ·rw [List.length_map]; omega
  have eL:((2:Int) * ((ts.map encTie).length:Int)).toNat=2 * ts.length:=by rw [List.length_map]; omega
  refine ⟨oP n ts,⟨ps,cs,.any,.any,hp,hcl,fun p c hc=>by rw [hce p c hc]; exact ⟨List.Perm.refl _,rfl⟩,rfl⟩,?_,fun Δ h=>by rw [Zbt,eL] at h; exact h⟩
  ·rintro k d Δ2 hd ⟨ps,cs,x3,x4,hp,hcl,hrow,rfl⟩
   rw [eL] at hd
   obtain ⟨hk,rfl⟩:=Zc4 hd
   obtain ⟨t,ht1,ht2,ht3⟩:=Zly hk
   obtain ⟨pl0,pl1⟩:=Zlm hW hk
   obtain ⟨c,hc1,hc2⟩:=Zib (f:=fun c:Addr × List Int=>D.adr c.1) (xs:=cs) (i:=placeAt ts k) pl0 (by omega)
   have hR:=hrow _ c hc1
   have hRl:=hR.len
   have ep:((placeAt ts k).toNat:Int)=placeAt ts k:=Int.toNat_of_nonneg pl0
   have hsl:∀ (ps:List D) (x3 x4:L2.Slot),(oSt ps n ts cs x3 x4)[(placeAt ts k).toNat + 5]? = some (.ownA c.1 (.lst (c.2.map D.int))):=fun ps x3 x4=>Zoa hc1
   have hlen:(c.2.map D.int).length=c.2.length:=List.length_map _
   refine Zbu (Zam (Za9 (Zfi (Zmd (d:=.adr c.1) (Zbs rfl) (Zc6 (Zc6 (Zl7 (d:=.tup (ts.map encTie)) rfl rfl) (Zcw (Zbs rfl) Zbc (pr_I ⟨by decide,by decide⟩)) ht2) (Zcw (Zbs rfl) Zbc (pr_I (by show (0:Int) < 2; decide))) ht3) hc2) ?_)))
   refine Zmq (a:=c.1) rfl (hsl ps _ _) ?_
   refine Zaz (Zab (Zj0 rfl (hsl ps _ _) (Zab (Zan (Zao (Zds rfl rfl (Zab (Zaz (Zab (Zao (Zab (Zj0 rfl (hsl ps _ _) (Zae (Zhi (Zae ?_)))))))))))))))
   refine Zcx rfl rfl hp (by split <;> omega) (by split <;> omega) fun r ps' hp' hr0 hr1=>?_
   refine Ze6 (Zae (Zhi (Zac rfl ⟨_,_,_,rfl,hsl ps' _ _,by rw [hlen]; exact small1000 (by omega),by split <;> omega,by split <;> omega,?_⟩)))
   generalize hi:insI (c.2.map D.int).length (if 1 + r < ((c.2.map D.int).length:Int) then 1 + r else ((c.2.map D.int).length:Int))=j
   have hj:j<=c.2.length/\(c.2 ≠ []->1<=j):=by
    rw [<- hi,hlen]
    unfold insI
    refine ⟨?_,fun h=>?_⟩
    ·split <;> split <;> omega
    ·have:=List.length_pos_iff.mpr h
     split <;> split <;> omega
   refine ⟨ps',cs.set (placeAt ts k).toNat (c.1,c.2.take j ++ (k:Int) :: c.2.drop j),.val (.int (0 + (k:Int))),.val (.adr c.1),hp',by rw [List.length_set]; exact hcl,fun p c' hc'=>?_,Zm4 (ps:=ps') (ps':=ps') hc1 ?_⟩
   ·by_cases hpp:p=(placeAt ts k).toNat
    ·subst hpp
     rw [List.getElem?_set_self (by omega)] at hc'
     cases hc'
     exact hR.put (by omega) hj.1 hj.2
    ·rw [List.getElem?_set_ne (Ne.symm hpp)] at hc'
     exact (hrow p c' hc').stay (by omega)
   ·rw [List.map_append,List.map_take,List.map_cons,List.map_drop,Int.zero_add]
 -- the end
 rintro Δ1 ⟨ps3,cs3,x3,x4,hp3,hcl3,hrow3,rfl⟩
 refine JS.conv (Δ':=.bor (.lst ps3) :: .val (encWeb n ts) :: .val (.lst (cs3.map fun c=>D.lst (c.2.map D.int))) :: x3 :: x4 :: (List.replicate cs3.length .any ++ List.replicate (25 - n.toNat) .any)) (fun g G H σ k=>?_) ?_
 ·have:=Ok.thaw (cs:=cs3.map fun c=>(c.1,c.2.map D.int)) (R:=[.bor (.lst ps3),.val (encWeb n ts),.val (.lst (cs3.map fun c=>D.adr c.1)),x3,x4]) (T:=List.replicate (25 - n.toNat) .any) (i:=2) (g:=g) (G:=G) (H:=H) (σ:=σ) (K:=K) (by rw [List.map_map]; exact k) (by rw [List.map_map]; rfl)
  rw [List.map_map,List.length_map] at this
  exact this
 refine Za7 (Zaz (Zab (Zb5 (by decide) (Zek (Zac rfl ⟨_,Or.inl rfl,?_,fun _=>true,fun d=>match d with | .lst ds=>.tup ds | d=>d,fun i d hd=>?_,?_⟩)))))
 ·rw [List.length_map]; exact small1000 (by omega)
 ·rw [List.getElem?_map] at hd
  cases q:cs3[i]? with
  | none=>rw [q] at hd; cases hd
  | some c=>
   rw [q] at hd
   have hd:D.lst (c.2.map D.int)=d:=by simpa using hd
   subst hd
   exact Zbh ⟨rfl,Zaz (Zab (Zac rfl (Zae (Zc5 (Or.inl rfl) ⟨rfl,_,rfl⟩))))⟩
 ·refine Zae (Zc5 (Or.inl rfl) ⟨ps3,rfl,?_⟩)
  have e:((cs3.map fun c=>D.lst (c.2.map D.int)).filter fun _=>true).map (fun d=>match d with | .lst ds=>D.tup ds | d=>d)=(cs3.map (·.2)).map encRow:=by
   rw [List.filter_eq_self.mpr (by simp),List.map_map,List.map_map]
   rfl
  rw [e]
  exact q _ _ hp3 ⟨by rw [List.length_map]; omega,fun p r hr=>by
   rw [List.getElem?_map] at hr
   cases z:cs3[p]? with
   | none=>rw [z] at hr; cases hr
   | some c=>rw [z] at hr; cases hr; exact hrow3 p c z⟩
end
theorem Zex {ts:List (Int × Int)} {m:Nat} {p x:Int}:x ∈ endsBelow ts m p ↔ ∃ e:Nat,e < m/\placeAt ts e=p/\(e:Int)=x:=by
 unfold endsBelow
 rw [List.mem_map]
 constructor
 ·rintro ⟨e,he,rfl⟩
  rw [List.mem_filter,List.mem_range] at he
  exact ⟨e,he.1,of_decide_eq_true he.2,rfl⟩
 ·rintro ⟨e,h1,h2,rfl⟩
  exact ⟨e,by rw [List.mem_filter,List.mem_range]; exact ⟨h1,decide_eq_true h2⟩,rfl⟩
theorem RowOk.mem {ts:List (Int × Int)} {m:Nat} {p x:Int} {r:List Int} (h:RowOk ts m p r):x ∈ r ↔ ∃ e:Nat,e < m/\placeAt ts e=p/\(e:Int)=x:=h.perm.mem_iff.trans Zex
theorem Zdh (ts:List (Int × Int)) (m:Nat) (p:Int):(endsBelow ts m p).Pairwise (· < ·):=by
 unfold endsBelow
 refine List.Pairwise.map _ (fun a b h=>?_) (List.Pairwise.filter _ List.pairwise_lt_range)
 omega
theorem Zhe (ds:List D) {j:Nat} (h:j<=ds.length):cutD ds (some (j:Int)) none=ds.drop j:=by
 unfold cutD
 rw [HT.sIx_nat,HT.sIx_none,Nat.min_eq_left h,List.take_of_length_le (by rw [List.length_drop]; exact Nat.le_refl _)]
section
variable {P:Program} {w:World} {K:PySem.W.Frag} {mg:Str->Option Value} {base:Heap} {f:Addr} {fd:FuncData}
def fWhole:DSp:=fun ds Post=>∃ e:Int,ds=[.int e]/\Post (.bl true)
end
section
variable {P:Program} {w:World} {K:PySem.W.Frag} {mg:Str->Option Value} {base:Heap} {f:Addr} {fd:FuncData}
theorem Zcv:2<=sizeLine:=by decide
end
section
variable {P:Program} {w:World} {K:PySem.W.Frag} {mg:Str->Option Value} {base:Heap} {f:Addr} {fd:FuncData}
theorem Zl9 (n:Int) (ts:List (Int × Int)):atI [D.int n,D.tup (ts.map encTie)] 1=some (.tup (ts.map encTie)):=rfl
end
def sI (i:Int):Str:=toString i
def wd:D->Str
 | .int i=>sI i
 | .str x=>x
 | _=>Str.empty
def rowT (ds:List D):Str:=Str.join " " (ds.map wd)
def linP (n:Int):Str:="places " ++ sI n
def linT (t:Int × Int):Str:="tie " ++ sI t.1 ++ " " ++ sI t.2
def linA (p:Int) (r:List Int):Str:="at " ++ sI p ++ Str.join "" (r.map fun e=>(" ":Str) ++ sI e)
def linsA:Nat->List (List Int)->List Str
 | _,[]=>[]
 | p,r :: o=>(if r=[] then [] else [linA p r]) ++ linsA (p + 1) o
def lins (n:Int) (ts:List (Int × Int)) (o:List (List Int)):List Str:=linP n :: ts.map linT ++ linsA 0 o
def txt (n:Int) (ts:List (Int × Int)) (o:List (List Int)):Str:=Str.join "\n" (lins n ts o)
theorem join0:∀ (x:Str) (xs:List Str),Str.join "" (x :: xs)=x ++ Str.join "" xs
 | x,[]=>(Str.append_empty x).symm
 | x,y :: r=>by
  show x ++ ("":Str) ++ Str.join "" (y :: r)=_
  rw [show (x ++ ("":Str))=x from Str.append_empty x]
theorem Zjq:∀ (p:Str) (es:List Str),Str.join " " (p :: es)=p ++ Str.join "" (es.map fun e=>(" ":Str) ++ e)
 | p,[]=>(Str.append_empty p).symm
 | p,e :: es=>by
  show p ++ (" ":Str) ++ Str.join " " (e :: es)=_
  rw [Zjq e es,List.map_cons,join0,Str.append_assoc,Str.append_assoc]
theorem Zlz (n:Int):rowT [.str "places",.int n]=linP n:=by
 show ("places":Str) ++ (" ":Str) ++ sI n=_
 rfl
theorem Zl1 (t:Int × Int):rowT [.str "tie",.int t.1,.int t.2]=linT t:=by
 show ("tie":Str) ++ (" ":Str) ++ (sI t.1 ++ (" ":Str) ++ sI t.2)=_
 unfold linT
 rw [show ("tie":Str) ++ (" ":Str)=("tie ":Str) from rfl,Str.append_assoc,Str.append_assoc,Str.append_assoc]
theorem Zme (p:Int) (r:List Int):rowT (.str "at" :: .int p :: r.map D.int)=linA p r:=by
 have e:(.str "at" :: .int p :: r.map D.int:List D).map wd=("at":Str) :: sI p :: r.map sI:=by
  rw [List.map_cons,List.map_cons,List.map_map]; rfl
 unfold rowT linA
 rw [e]
 show ("at":Str) ++ (" ":Str) ++ Str.join " " (sI p :: r.map sI)=_
 rw [Zjq,List.map_map,show ("at":Str) ++ (" ":Str)=("at ":Str) from rfl,Str.append_assoc]
 rfl
theorem Zch {i:Int} (h0:0<=i) (h1:i<=63):(sI i).length<=2:=by
 obtain ⟨k,rfl⟩:∃ k:Nat,i=(k:Int):=⟨i.toNat,by omega⟩
 have:∀ k:Fin 64,(sI ((k:Nat):Int)).length<=2:=by decide +kernel
 exact this ⟨k,by omega⟩
theorem Zb8 {i:Int} (h0:0<=i) (h1:i<=63):i.natAbs.log2 < 1920:=by
 by_cases hz:i.natAbs=0
 ·rw [hz]; decide
 ·have h:=(Nat.log2_lt hz (k:=6)).mpr (by omega)
  omega
theorem Zjh (k B:Nat):∀ (zs:List Str),(∀ z ∈ zs,z.length<=B)->(zs.map fun z=>z.length + k).sum<=zs.length * (B + k)
 | [],_=>by simp
 | z :: zs,h=>by
  have:=Zjh k B zs fun y hy=>h y (List.mem_cons_of_mem _ hy)
  have:=h z List.mem_cons_self
  rw [List.map_cons,List.sum_cons,List.length_cons,Nat.succ_mul]
  omega
theorem Ze1 {zs:List Str} {k B N:Nat} (h:∀ z ∈ zs,z.length<=B) (hn:zs.length<=N) (hb:N * (B + k)<=1000000):zs.foldl (fun n z=>n + z.length + k) 0<=sizeLine:=by
 rw [Zfg]
 have h1:=Zjh k B zs h
 have h2:=Nat.mul_le_mul_right (B + k) hn
 have h3:1000000<=sizeLine:=by decide
 omega
theorem Zgf {r:List Int} (h:∀ e ∈ r,0<=e/\e<=63):(Str.join "" (r.map fun e=>(" ":Str) ++ sI e)).length<=r.length * 3:=by
 have h1:=Zcr "" (r.map fun e=>(" ":Str) ++ sI e)
 have h2:=Zjh 0 3 (r.map fun e=>(" ":Str) ++ sI e) fun z hz=>by
  obtain ⟨e,he,rfl⟩:=List.mem_map.mp hz
  rw [Str.length_append]
  have:=Zch (h e he).1 (h e he).2
  have e1:(" ":Str).length=1:=rfl
  omega
 rw [List.length_map] at h2
 have e0:("":Str).length=0:=rfl
 rw [e0] at h1
 omega
structure FlOk (n:Int) (ts:List (Int × Int)) (o:List (List Int)):Prop where
 n0:0<=n
 n1:n<=25
 tl:ts.length<=24
 te:∀ t ∈ ts,(0<=t.1/\t.1<=25)/\(0<=t.2/\t.2<=25)
 ol:(o.length:Int)=n
 oe:∀ r ∈ o,r.length<=48/\∀ e ∈ r,0<=e/\e<=63
theorem Znj {n:Int} {ts:List (Int × Int)} {o:List (List Int)} (hW:WebOk n ts) (hO:OrdOk n ts o):FlOk n ts o:=by
 have h1:=hW.lo
 have h2:=hW.hi
 have h3:=hW.len
 refine ⟨by omega,h2,h3,fun t ht=>?_,hO.len,fun r hr=>?_⟩
 ·have:=hW.tie t ht; omega
 ·obtain ⟨p,hp,e⟩:=List.mem_iff_getElem.mp hr
  have R:=hO.row p r (by rw [List.getElem?_eq_getElem hp,e])
  refine ⟨by have:=R.len; omega,fun x hx=>?_⟩
  obtain ⟨k,hk,_,rfl⟩:=R.mem.mp hx
  omega
theorem Zdt:∀ (o:List (List Int)) (p:Nat),(linsA p o).length<=o.length
 | [],p=>by simp [linsA]
 | r :: o,p=>by
  have:=Zdt o (p + 1)
  unfold linsA
  rw [List.length_append,List.length_cons]
  split <;> simp <;> omega
theorem Zkd {p:Int} {r:List Int} (h0:0<=p) (h1:p<=63) (hr:r.length<=48/\∀ e ∈ r,0<=e/\e<=63):(linA p r).length<=200:=by
 unfold linA
 have a:=Zgf hr.2
 have b:=Zch h0 h1
 rw [Str.length_append,Str.length_append]
 have e1:("at ":Str).length=3:=rfl
 omega
theorem Zky {t:Int × Int} (h:(0<=t.1/\t.1<=25)/\(0<=t.2/\t.2<=25)):(linT t).length<=200:=by
 have a:=Zch h.1.1 (by omega)
 have b:=Zch h.2.1 (by omega)
 unfold linT
 rw [Str.length_append,Str.length_append,Str.length_append]
 have e1:("tie ":Str).length=4:=rfl
 have e2:(" ":Str).length=1:=rfl
 omega
theorem Zk4 {n:Int} (h0:0<=n) (h1:n<=25):(linP n).length<=200:=by
 have a:=Zch h0 (by omega)
 unfold linP
 rw [Str.length_append]
 have e1:("places ":Str).length=7:=rfl
 omega
theorem Zd2:∀ (o:List (List Int)) (p:Nat),p + o.length<=63->(∀ r ∈ o,r.length<=48/\∀ e ∈ r,0<=e/\e<=63)->∀ z ∈ linsA p o,z.length<=200
 | [],p,_,_,z,hz=>by simp [linsA] at hz
 | r :: o,p,hp,h,z,hz=>by
  unfold linsA at hz
  rw [List.length_cons] at hp
  rcases List.mem_append.mp hz with y | y
  ·split at y
   ·cases y
   ·rw [List.mem_singleton] at y; subst y
    exact Zkd (by omega) (by omega) (h r List.mem_cons_self)
  ·exact Zd2 o (p + 1) (by omega) (fun r hr=>h r (List.mem_cons_of_mem _ hr)) z y
theorem Zcq {n:Int} {ts:List (Int × Int)} {o:List (List Int)} (h:FlOk n ts o):(lins n ts o).length<=50/\∀ z ∈ lins n ts o,z.length<=200:=by
 have h1:=h.ol
 have h2:=h.n1
 have h3:=h.tl
 have h4:=Zdt o 0
 unfold lins
 refine ⟨by rw [List.length_append,List.length_cons,List.length_map]; omega,fun z hz=>?_⟩
 rcases List.mem_append.mp hz with y | y
 ·rcases List.mem_cons.mp y with y | y
  ·subst y; exact Zk4 h.n0 h.n1
  ·obtain ⟨t,ht,rfl⟩:=List.mem_map.mp y
   exact Zky (h.te t ht)
 ·exact Zd2 o 0 (by omega) h.oe z y
theorem Zca:∀ (a b:List (List Int)) (p:Nat),linsA p (a ++ b)=linsA p a ++ linsA (p + a.length) b
 | [],b,p=>by simp [linsA]
 | r :: a,b,p=>by
  rw [List.cons_append]
  show (if r=[] then [] else [linA p r]) ++ linsA (p + 1) (a ++ b)=((if r=[] then [] else [linA p r]) ++ linsA (p + 1) a) ++ _
  rw [Zca a b (p + 1),List.append_assoc,List.length_cons,show p + 1 + a.length=p + (a.length + 1) by omega]
theorem Zeh {o:List (List Int)} {i:Nat} {r:List Int} (h:o[i]? = some r):linsA 0 (o.take (i + 1))=linsA 0 (o.take i) ++ (if r=[] then [] else [linA i r]):=by
 have hi:=(List.getElem?_eq_some_iff.mp h).1
 rw [List.take_add_one,h,Zca]
 show _ ++ ((if r=[] then [] else [linA _ r]) ++ [])=_
 rw [List.append_nil,List.length_take,Nat.zero_add,Nat.min_eq_left (by omega)]
section
variable {P:Program} {w:World} {K:PySem.W.Frag} {mg:Str->Option Value} {base:Heap} {f:Addr} {fd:FuncData}
theorem Zl3 (l:List D):(l.filter fun _=>true).map (fun _=>D.bl true)=(List.replicate l.length true).map D.bl:=by
 rw [List.filter_eq_self.mpr (by simp),List.map_replicate,List.eq_replicate_iff]
 exact ⟨by rw [List.length_map],fun b hb=>by obtain ⟨_,_,rfl⟩:=List.mem_map.mp hb; rfl⟩
end
section
variable {P:Program} {w:World} {K:PySem.W.Frag} {mg:Str->Option Value} {base:Heap} {f:Addr} {fd:FuncData}
theorem allR (n:Nat):(List.replicate n true).all id=true:=by rw [List.all_eq_true]; intro x hx; rw [(List.mem_replicate.mp hx).2]; rfl
end
def numS (n:Nat):PySem.Str:=PySem.Str.ofString (toString (n:Int))
def figS:PySem.Str:=PySem.Str.ofString "0123456789"
def figB (c:Nat):Bool:=!(Builtin.Str.occurrences figS (sgn c) 0 figS.length 1).isEmpty
def numB (n:Nat):Bool:=decide (1<=(numS n).length) && decide ((numS n).length<=4) && (numS n).cps.all (· < 128) && (numS n).cps.toList.all figB && (match (numS n).cps.toList.head? with | some c=>!(decide (sgn c=PySem.Str.ofString "0")) || decide (numS n=PySem.Str.ofString "0") | none=>false)
theorem num49:∀ n,n < 50->numB n=true:=by decide +kernel
def fNumW:DSp:=fun ds Post=>∃ n:Nat,ds=[.str (numS n)]/\n < 50/\Post (.int (n:Int))
section
variable {P:Program} {w:World} {K:PySem.W.Frag} {mg:Str->Option Value} {base:Heap} {f:Addr} {fd:FuncData}
theorem Zmp (mb:Mb mg) {tk tk2:Tok} (g_FIGURES:mg "FIGURES" = some (.str "0123456789" tk)) (g_MOST_FIGURES:mg "MOST_FIGURES" = some (.int 60 tk2)) (F:Fun K "number_written" "number_written" s_number_written f fd):FnOk P w K mg base CX0 1 f fd ["word"] (spD K fNumW):=by
 refine F.ok sc_number_written (Za8 fun ds Post h=>by obtain ⟨_,rfl,_⟩:=h; rfl) (fun cdv A outer s H vs Q E hr h=>?_)
 have hu:=Zb2 hr
 have hv:=Zh5 hr
 refine ⟨_,(Zaf (Zbr (PW.pt (pw_or (Zb4 (Zez Zj3 Zj3 Zag (Zak Zgb rfl (mb "len" (by decide)) Zbl (Zaa (pv 0) Zad)) (Ze2 rfl g_MOST_FIGURES (show RelV (.int 60) _ from ⟨_,rfl⟩)))) (pw_or1 (Zb4 (truK K (Zak (allK K rfl) rfl (mb "all" (by decide)) Zi4 (Zaa (Zbf ["sign"] (show CompSc (defScope s_number_written) ["word"] _ [] [] from ⟨rfl,by decide +kernel,by decide +kernel,by decide +kernel,rfl,by decide +kernel⟩) rfl (Zoy (pv 0)) (fun _ _ _ _ _=>(Zap (i:=0) (show List.Nodup (["sign"]:List Str) from by decide) rfl (Or.inl rfl))) (fun _ _ _ _ _=>Zbo) (fun _ _ _ _ _=>(Zgu Zj9 (pv 0) (Ze2 rfl g_FIGURES (show RelV (.str "0123456789") _ from ⟨_,rfl⟩)) rfl))) Zad)) (fun _=>rfl)))))) (Zaj (Zav Zcf)) Zat) (Zaj (Zav (Zdl (PW.pt (pw_and (Zaq Zcb (Zax (ixK K hu) (pv 0) Zag (fun _ _=>rfl)) Zbi (nomark _)) (pw_and1 (Zaq Zfm (pv 0) Zbi (nomark _))))) Zcf (Za1 Zij rfl (mb "int" (by decide)) Zj1 (Zaa (pv 0) Zad)))))),Zcn (fun ds Post hf=>?_) h⟩
 obtain ⟨n,rfl,hn,q⟩:=hf
 refine ⟨by simp,?_⟩
 dsimp only [startD,List.tail,List.map,List.length,List.replicate]
 have hb:=num49 n hn
 unfold numB at hb
 rw [Bool.and_eq_true,Bool.and_eq_true,Bool.and_eq_true,Bool.and_eq_true] at hb
 obtain ⟨⟨⟨⟨h1,h2⟩,h3⟩,h4⟩,h5⟩:=hb
 have h1:=of_decide_eq_true h1
 have h2:=of_decide_eq_true h2
 have hsz:(numS n).length<=sizeLine:=Nat.le_trans h2 (by decide)
 have hll:(numS n).cps.toList.length=(numS n).length:=by simp [Str.length]
 refine Zam (Zbk (Zee (Zbx (Zar (Ze7 (Zao (Zaz (Zab (Zac rfl (Zae (Zmh hsz (Zd8 ⟨_,rfl,?_⟩))))))))))))
 rw [decide_eq_true (by omega)]
 refine iteT (Zao (Zd8 ⟨_,rfl,?_⟩))
 rw [decide_eq_true (by omega)]
 refine iteF (Zbx (Zb0 (Zaz (Zab (Zb5 (by decide) (Zox (Zac rfl ⟨_,rfl,h3,?_,fun _=>true,fun _=>.bl true,fun i d hd=>?_,?_⟩)))))))
 ·rw [List.length_map,hll]; exact Nat.lt_of_le_of_lt h2 (by decide)
 ·rw [List.getElem?_map] at hd
  cases z:(numS n).cps.toList[i]? with
  | none=>rw [z] at hd; exact nomatch hd
  | some c=>
   rw [z] at hd
   cases hd
   refine Zbh ⟨rfl,Zan (Zac rfl (Zbd (Zpl ⟨?_,_,rfl⟩)))⟩
   have:=List.all_eq_true.mp h4 c (List.mem_of_getElem? z)
   unfold figB at this
   exact congrArg D.bl this
 rw [Zl3]
 refine Zae (Zil ?_)
 rw [allR]
 refine ⟨_,rfl,iteF (Zau ?_)⟩
 cases hh:(numS n).cps.toList with
 | nil=>rw [hh] at hll; simp at hll; omega
 | cons c cs=>
  rw [hh] at h5
  refine Za7 (Zdm (Zfn (Zar (Zan (Zan (Zac rfl (Zao (Zni (c:=c) hsz (by rw [hh]; exact Zbn (j:=0) rfl) (Zbd (Zeb ⟨_,rfl,?_⟩))))))))))
  have fin:∀ {Δ:Evt} {P:D->Evt->Prop},P (.int (n:Int)) Δ -> JC K rIntN [.str (numS n)] Δ P:=fun p=>Zmu (Int.natCast_nonneg n) (by omega) p
  by_cases e:sgn c=PySem.Str.ofString "0"
  ·rw [decide_eq_true e]
   refine iteT (Zar (Zan (Zac rfl (Zbd (Zna ⟨_,rfl,?_⟩)))))
   have e2:numS n=PySem.Str.ofString "0":=by
    simp only [List.head?_cons] at h5
    rw [decide_eq_true e] at h5
    exact of_decide_eq_true (by simpa using h5)
   rw [decide_eq_true e2]
   exact iteF (Zaz (Zab (Zac rfl (Zae (fin q)))))
  ·rw [decide_eq_false e]
   exact iteF (iteF (Zaz (Zab (Zac rfl (Zae (fin q))))))
end
def fIsRow:DSp:=fun ds Post=>∃ es,ds=[.tup es]/\Post (.bl true)
def fTieOf:DSp:=fun ds Post=>∃ n a b:Int,ds=[.int n,.tup [.int a,.int b]]/\0<=a/\a < n/\0<=b/\b < n/\Post (.tup [.int a,.int b])
def fWebOf:DSp:=fun ds Post=>∃ (n:Int) (ts:List (Int × Int)),ds=[.int n,.tup (ts.map encTie)]/\1<=n/\n<=25/\ts.length<=24/\(∀ t ∈ ts,0<=t.1/\t.1 < n/\0<=t.2/\t.2 < n)/\Post (encWeb n ts)
def fWithWeb:DSp:=fun ds Post=>∃ (n:Int) (ts:List (Int × Int)),ds=[.int n,.tup (ts.map encTie)]/\1<=n/\n<=25/\ts.length<=24/\(∀ t ∈ ts,0<=t.1/\t.1 < n/\0<=t.2/\t.2 < n)/\Post (.tup [encWeb n ts,.tup []])
def fWithPl:DSp:=fun ds Post=>∃ n:Int,ds=[.lst [.int n]]/\1<=n/\n<=25/\Post (.tup [encWeb n [],.tup []])
def fWithTie:DSp:=fun ds Post=>∃ (n:Int) (ts:List (Int × Int)) (t:Int × Int),ds=[encWeb n ts,.lst [.int t.1,.int t.2]]/\WebOk n (ts ++ [t])/\Post (.tup [encWeb n (ts ++ [t]),.tup []])
theorem Zk8 {ts:List (Int × Int)} {i:Nat} {d:D} (h:(ts.map encTie)[i]? = some d):∃ t,ts[i]? = some t/\d=encTie t:=by
 rw [List.getElem?_map] at h
 cases z:ts[i]? with
 | none=>rw [z] at h; exact nomatch h
 | some t=>rw [z] at h; cases h; exact ⟨t,rfl,rfl⟩
section
variable {P:Program} {w:World} {K:PySem.W.Frag} {mg:Str->Option Value} {base:Heap} {f:Addr} {fd:FuncData}
theorem Zkl (mb:Mb mg) (F:Fun K "is_row" "is_row" s_is_row f fd):FnOk P w K mg base CX0 1 f fd ["thing"] (spD K fIsRow):=by
 refine F.ok sc_is_row (Za8 fun ds Post h=>by obtain ⟨_,rfl,_⟩:=h; rfl) (fun cdv A outer s H vs Q E hr h=>?_)
 have hu:=Zb2 hr
 refine ⟨_,(Zaj (Zav (Zak (isiUK K) rfl (mb "isinstance" (by decide)) Za2 (Zaa (pv 0) (Zaa (Zbg (Zaa (Zce rfl (mb "list" (by decide)) Zm6 (show RelV (.ty "list") _ from rfl)) (Zaa (Zce rfl (mb "tuple" (by decide)) Zbp (show RelV (.ty "tuple") _ from rfl)) Zad))) Zad))))),Zcn (fun ds Post hf=>?_) h⟩
 obtain ⟨es,rfl,q⟩:=hf
 refine ⟨by simp,?_⟩
 dsimp only [startD,List.tail,List.map,List.length]
 refine Za7 (Zaz (Zab (Zac rfl (Zab (Zbb (Zab (Zdq (Zab (Zdq (Zae ⟨Zcv,?_⟩))))))))))
 exact Zae (Znf (ns:=["list","tuple"]) (T:="tuple") (b:=true) rfl (fun _=>by rfl) q)
theorem Zmm (mb:Mb mg) (F:Fun K "is_whole" "is_whole" s_is_whole f fd):FnOk P w K mg base CX0 1 f fd ["thing"] (spD K fWhole):=by
 refine F.ok sc_is_whole (Za8 fun ds Post h=>by obtain ⟨_,rfl,_⟩:=h; rfl) (fun cdv A outer s H vs Q E hr h=>?_)
 have hu:=Zb2 hr
 refine ⟨_,(Zaj (Zav (Zj8 (Zak (isiUK K) rfl (mb "isinstance" (by decide)) Za2 (Zaa (pv 0) (Zaa (Zce rfl (mb "int" (by decide)) Zj1 (show RelV (.ty "int") _ from rfl)) Zad))) (Zim (Zl5 (Zak (isiUK K) rfl (mb "isinstance" (by decide)) Za2 (Zaa (pv 0) (Zaa (Zce rfl (mb "bool" (by decide)) Zjx (show RelV (.ty "bool") _ from rfl)) Zad)))))))),Zcn (fun ds Post hf=>?_) h⟩
 obtain ⟨e,rfl,q⟩:=hf
 refine ⟨by simp,?_⟩
 dsimp only [startD,List.tail,List.map,List.length]
 refine Za7 (Zev (Zaz (Zab (Zac rfl (Zab (Zdq (Zae (Zci (T:="int") (b:=true) rfl (fun _=>by rfl) ⟨_,rfl,?_⟩))))))))
 rw [if_pos rfl]
 refine Zgt (Zaz (Zab (Zac rfl (Zab (Zdq (Zae (Zci (T:="int") (b:=false) rfl (fun _=>by rfl) ⟨_,rfl,?_⟩)))))))
 exact q
theorem Zk3 (mb:Mb mg) (C_is_row:Callee P w K mg base 1 "is_row" ["thing"] (spD K fIsRow)) (C_is_whole:Callee P w K mg base 1 "is_whole" ["thing"] (spD K fWhole)) (F:Fun K "tie_of" "tie_of" s_tie_of f fd):FnOk P w K mg base CX0 2 f fd ["many","tie"] (spD K fTieOf):=by
 refine F.ok sc_tie_of (Za8 fun ds Post h=>by obtain ⟨_,_,_,rfl,_⟩:=h; rfl) (fun cdv A outer s H vs Q E hr h=>?_)
 have hu:=Zb2 hr
 refine ⟨_,(Zaf (Zbr (PW.pt (pw_or (Zb4 (truK K (Za6 C_is_row (hr.mono (by decide)) (Zaa (pv 1) Zad)) (fun _=>rfl))) (pw_or1 (Zaq Zfm (Zak (lenK K) rfl (mb "len" (by decide)) Zbl (Zaa (pv 1) Zad)) Zag (nomark _))))) Zbz Zat) (Zaf (Zdw PassesOwn.never rfl (seqK K (pv 1)) (Zap (i:=2) sc_tie_of.nd rfl (Or.inl rfl)) (Zaj (Zbr (PW.pt (pw_or (Zb4 (truK K (Za6 C_is_whole (hr.mono (by decide)) (Zaa (pv 2) Zad)) (fun _=>rfl))) (pw_or1 (Zb4 (Zez Zj3 Zkg Zag (pv 2) (pv 0)))))) Zbz Zat))) (Zaj (Zav (Za1 (tupK K) rfl (mb "tuple" (by decide)) Zbp (Zaa (pv 1) Zad)))))),Zcn (fun ds Post hf=>?_) h⟩
 obtain ⟨n,a,b,rfl,ha,ha2,hb,hb2,q⟩:=hf
 refine ⟨by simp,?_⟩
 dsimp only [startD,List.tail,List.map,List.length,List.replicate]
 refine Zam (Zbk (Zee (Zbx (Zb0 (Zaw (Zab (Zac rfl (Zae ⟨_,rfl,_,rfl,iteF ?_⟩))))))))
 refine Zar (Zan (Zaz (Zab (Zac rfl (Zae (Zbj (Or.inr rfl) (Zao (Zks ⟨_,rfl,iteF (Zau ?_)⟩))))))))
 refine Zam (Zdx (Zdc (Zac rfl ⟨_,rfl,fun _ Δ=>∃ x,Δ = [.val (.int n),.val (.tup [.int a,.int b]),x],⟨_,rfl⟩,fun i d Δ hd hI=>?_,fun Δ hI=>?_⟩)))
 ·obtain ⟨x,rfl⟩:=hI
  have hd2:∃ z:Int,d=.int z/\0<=z/\z < n:=by
   rcases i with _ | _ | i
   ·exact ⟨a,by simpa using hd.symm,ha,ha2⟩
   ·exact ⟨b,by simpa using hd.symm,hb,hb2⟩
   ·simp at hd
  obtain ⟨z,rfl,hz,hz2⟩:=hd2
  refine Znl (by show 2 < 3; omega) ?_
  refine Zbk (Zee (Zbx (Zb0 (Zaw (Zab (Zac rfl (Zae ⟨z,rfl,_,rfl,iteF ?_⟩)))))))
  refine Zbx (Zar (Ze7 (Zao (Zac rfl (Zd8 ⟨_,rfl,?_⟩)))))
  rw [decide_eq_true hz]
  refine iteT (Zac rfl (Zd8 ⟨_,rfl,?_⟩))
  rw [decide_eq_true hz2]
  exact iteF (Zau ⟨_,rfl⟩)
 obtain ⟨x,rfl⟩:=hI
 exact Za7 (Zaz (Zab (Zac rfl (Zae (Zc5 (Or.inr rfl) q)))))
theorem Zlo (mb:Mb mg) (C_is_row:Callee P w K mg base 1 "is_row" ["thing"] (spD K fIsRow)) (C_is_whole:Callee P w K mg base 1 "is_whole" ["thing"] (spD K fWhole)) (C_tie_of:Callee P w K mg base 2 "tie_of" ["many","tie"] (spD K fTieOf)) {tk tk2:Tok} (g_MOST_PLACES:mg "MOST_PLACES" = some (.int 25 tk)) (g_MOST_TIES:mg "MOST_TIES" = some (.int 24 tk2)) (F:Fun K "web_of" "web_of" s_web_of f fd):FnOk P w K mg base CX0 3 f fd ["many","ties"] (spD K fWebOf):=by
 refine F.ok sc_web_of (Za8 fun ds Post h=>by obtain ⟨_,_,rfl,_⟩:=h; rfl) (fun cdv A outer s H vs Q E hr h=>?_)
 have hu:=Zb2 hr
 have hv:=Zh5 hr
 refine ⟨_,(Zaf (Zbr (PW.pt (pw_or (Zb4 (truK K (Za6 C_is_whole (hr.mono (by decide)) (Zaa (pv 0) Zad)) (fun _=>rfl))) (pw_or1 (Zb4 (Zez Zj3 Zj3 Zag (pv 0) (Ze2 rfl g_MOST_PLACES (show RelV (.int 25) _ from ⟨_,rfl⟩))))))) Zbz Zat) (Zaf (Zbr (PW.pt (pw_or (Zb4 (truK K (Za6 C_is_row (hr.mono (by decide)) (Zaa (pv 1) Zad)) (fun _=>rfl))) (pw_or1 (Zaq Zlh (Zak (lenK K) rfl (mb "len" (by decide)) Zbl (Zaa (pv 1) Zad)) (Ze2 rfl g_MOST_TIES (show RelV (.int 24) _ from ⟨_,rfl⟩)) (nomark _))))) Zbz Zat) (Zaj (Zav (Zbg (Zaa (pv 0) (Zaa (Za1 (tupK K) rfl (mb "tuple" (by decide)) Zbp (Zaa (Zbf ["tie"] (show CompSc (defScope s_web_of) ["many","ties"] _ ["many"] [0] from ⟨rfl,by decide +kernel,by decide +kernel,by decide +kernel,rfl,by decide +kernel⟩) rfl (seqK K (pv 1)) (fun _ _ _ _ _=>(Zap (i:=0) (show List.Nodup (["tie","many"]:List Str) from by decide) rfl (Or.inl rfl))) (fun _ _ _ _ _=>Zbo) (fun _ _ _ _ _=>(Za6 C_tie_of (hr.mono (by decide)) (Zaa (pv 1) (Zaa (pv 0) Zad))))) Zad)) Zad))))))),Zcn (fun ds Post hf=>?_) h⟩
 obtain ⟨n,ts,rfl,h1,h2,h3,h4,q⟩:=hf
 refine ⟨by simp,?_⟩
 dsimp only [startD,List.tail,List.map,List.length,List.replicate]
 refine Zam (Zbk (Zee (Zbx (Zb0 (Zaw (Zab (Zac rfl (Zae ⟨n,rfl,_,rfl,iteF ?_⟩))))))))
 refine Zbx (Zar (Ze7 (Zao (Zac rfl (Zd8 ⟨_,rfl,?_⟩)))))
 rw [decide_eq_true h1]
 refine iteT (Zao (Zd8 ⟨_,rfl,?_⟩))
 rw [decide_eq_true h2]
 refine iteF (Zau ?_)
 refine Zam (Zbk (Zee (Zbx (Zb0 (Zaw (Zab (Zac rfl (Zae ⟨_,rfl,_,rfl,iteF ?_⟩))))))))
 refine Zar (Zan (Zaz (Zab (Zac rfl (Zae (Zbj (Or.inr rfl) (Zao (Zd8 ⟨_,rfl,?_⟩))))))))
 rw [List.length_map,decide_eq_false (by omega)]
 refine iteF (Zau ?_)
 refine Za7 (Zbb (Zab (Zac rfl (Zab (Zaz (Zab (Zb5 (by decide) (Zdc (Zac rfl ⟨_,rfl,?_,fun _=>true,fun d=>d,fun i d hd=>?_,?_⟩)))))))))
 ·rw [List.length_map]; exact small1000 (by omega)
 ·obtain ⟨t,ht,rfl⟩:=Zk8 hd
  obtain ⟨t1,t2,t3,t4⟩:=h4 t (List.mem_of_getElem? ht)
  exact Zbh ⟨rfl,Zaw (Zab (Zac rfl (Zab (Zac rfl (Zae ⟨n,t.1,t.2,rfl,t1,t2,t3,t4,rfl,_,rfl⟩)))))⟩
 rw [List.filter_eq_self.mpr (by simp),List.map_id']
 exact Zae (Zc5 (Or.inl rfl) (Zae ⟨Zcv,q⟩))
theorem Zh4 (mb:Mb mg) (C_web_of:Callee P w K mg base 3 "web_of" ["many","ties"] (spD K fWebOf)) (F:Fun K "with_web" "with_web" s_with_web f fd):FnOk P w K mg base CX0 4 f fd ["many","ties"] (spD K fWithWeb):=by
 refine F.ok sc_with_web (Za8 fun ds Post h=>by obtain ⟨_,_,rfl,_⟩:=h; rfl) (fun cdv A outer s H vs Q E hr h=>?_)
 have hu:=Zb2 hr
 refine ⟨_,(Zaj (Zns fun pn=>(Zaj (Zav (Zbg (Zaa (Za6 C_web_of (hr.mono (by decide)) (Zaa (pv 0) (Zaa (pv 1) Zad))) (Zaa (Zbg Zad) Zad))))))),Zcn (fun ds Post hf=>?_) h⟩
 obtain ⟨n,ts,rfl,h1,h2,h3,h4,q⟩:=hf
 refine ⟨by simp,?_⟩
 dsimp only [startD,List.tail,List.map,List.length,List.replicate]
 exact Za7 (Zbb (Zab (Zaw (Zab (Zac rfl (Zab (Zac rfl (Zae ⟨n,ts,rfl,h1,h2,h3,h4,Zab (Zbb (Zae ⟨by decide,Zae ⟨Zcv,q⟩⟩))⟩))))))))
theorem Zjy (mb:Mb mg) (C_with_web:Callee P w K mg base 4 "with_web" ["many","ties"] (spD K fWithWeb)) (F:Fun K "with_places" "with_places" s_with_places f fd):FnOk P w K mg base CX0 5 f fd ["numbers"] (spD K fWithPl):=by
 refine F.ok sc_with_places (Za8 fun ds Post h=>by obtain ⟨_,rfl,_⟩:=h; rfl) (fun cdv A outer s H vs Q E hr h=>?_)
 have hu:=Zb2 hr
 refine ⟨_,(Zaj (Zav (Zdl (Zaq Zcb (Zak (lenK K) rfl (mb "len" (by decide)) Zbl (Zaa (pv 0) Zad)) Zag (nomark _)) (Za6 C_with_web (hr.mono (by decide)) (Zaa (Zax (ixK K hu) (pv 0) Zag (fun _ _=>rfl)) (Zaa (Zbg Zad) Zad))) Zcf))),Zcn (fun ds Post hf=>?_) h⟩
 obtain ⟨n,rfl,h1,h2,q⟩:=hf
 refine ⟨by simp,?_⟩
 dsimp only [startD,List.tail,List.map,List.length,List.replicate]
 refine Za7 (Zdm (Zar (Zan (Zaz (Zab (Zac rfl (Zae (Zbj (Or.inl rfl) (Zao (Zh1 ⟨_,rfl,iteT ?_⟩))))))))))
 exact Zaw (Zab (Zan (Zac rfl (Zao (Zb6 (d:=.int n) rfl (Zab (Zbb (Zae ⟨by decide,Zae ⟨n,[],rfl,h1,h2,by decide,fun t h=>(nomatch h),q⟩⟩))))))))
theorem Zh6 (mb:Mb mg) (C_with_web:Callee P w K mg base 4 "with_web" ["many","ties"] (spD K fWithWeb)) (F:Fun K "with_tie" "with_tie" s_with_tie f fd):FnOk P w K mg base CX0 5 f fd ["web","numbers"] (spD K fWithTie):=by
 refine F.ok sc_with_tie (Za8 fun ds Post h=>by obtain ⟨_,_,_,rfl,_⟩:=h; rfl) (fun cdv A outer s H vs Q E hr h=>?_)
 have hu:=Zb2 hr
 refine ⟨_,(Zaj (Zav (Za6 C_with_web (hr.mono (by decide)) (Zaa (Zax (ixK K hu) (pv 0) Zag (fun _ _=>rfl)) (Zaa (Zas (addK K) (Zax (ixK K hu) (pv 0) Zag (fun _ _=>rfl)) (Zbg (Zaa (Za1 (tupK K) rfl (mb "tuple" (by decide)) Zbp (Zaa (pv 1) Zad)) Zad))) Zad))))),Zcn (fun ds Post hf=>?_) h⟩
 obtain ⟨n,ts,t,rfl,hW,q⟩:=hf
 refine ⟨by simp,?_⟩
 dsimp only [startD,List.tail,List.map,List.length,List.replicate]
 have hl:=hW.len
 rw [List.length_append,List.length_singleton] at hl
 refine Za7 (Zaw (Zab (Zan (Zac rfl (Zao (Za5 (d:=.int n) rfl (Zab (Zan (Zan (Zac rfl (Zao (Za5 (d:=.tup (ts.map encTie)) rfl (Zbb (Zab (Zaz (Zab (Zac rfl (Zae (Zc5 (Or.inl rfl) (Zae ⟨by show 1<=sizeLine; decide,Zec ?_ (Zae ⟨n,ts ++ [t],?_,hW.lo,hW.hi,hW.len,hW.tie,q⟩)⟩))))))))))))))))))))
 ·rw [List.length_map]; exact Nat.le_of_lt (small1000 (by simp; omega))
 ·rw [List.map_append]; rfl
end
def fEnds:NSp:=fun ds Post=>∃ n ts,∃ p:Int,ds=[encWeb n ts,.int p]/\ts.length<=24/\Post ((endsBelow ts (2 * ts.length) p).map .int)
def fWithEnds:DSp:=fun ds Post=>∃ (n:Int) (ts:List (Int × Int)) (o:List (List Int)) (p:Nat) (r:List Int),ds=[encWeb n ts,encOrd o,.lst (.int (p:Int) :: r.map .int)]/\ts.length<=24/\p < 25/\o.length<=p/\r ≠ []/\RowOk ts (2 * ts.length) (p:Int) r/\Post (.tup [encWeb n ts,encOrd (o ++ List.replicate (p - o.length) [] ++ [r])])
theorem Zf5 {ts:List (Int × Int)} {m:Nat} {p:Int} {r ms:List Int} (h:RowOk ts m p r) (h1:ms.Perm r) (h2:ms.Pairwise (· <= ·)):ms=endsBelow ts m p:=
 List.Perm.eq_of_pairwise (le:=fun a b=>a<=b) (fun a b _ _ h1 h2=>by omega) h2 ((Zdh ts m p).imp fun h=>Int.le_of_lt h) (h1.trans h.perm)
theorem Zjs {ts:List (Int × Int)} {m:Nat} {p x:Int} {r:List Int} (h:RowOk ts m p (x :: r)):∀ a ∈ x :: r,x<=a:=by
 have h1:=h.first
 have h2:=Zdh ts m p
 intro a ha
 have h3:=h.perm.mem_iff.mp ha
 cases e:endsBelow ts m p with
 | nil=>rw [e] at h3; exact nomatch h3
 | cons y l=>
  rw [e] at h1 h2 h3
  simp only [List.head?_cons,Option.some.injEq] at h1
  subst h1
  rcases List.mem_cons.mp h3 with z | z
  ·omega
  ·exact Int.le_of_lt ((List.pairwise_cons.mp h2).1 a z)
section
variable {P:Program} {w:World} {K:PySem.W.Frag} {mg:Str->Option Value} {base:Heap} {f:Addr} {fd:FuncData}
theorem Zgh (mb:Mb mg) (C_ends_at:Callee P w K mg base 2 "ends_at" ["web","place"] (spN K fEnds)) (F:Fun K "with_ends" "with_ends" s_with_ends f fd):FnOk P w K mg base CX0 3 f fd ["web","standing","numbers"] (spD K fWithEnds):=by
 refine F.ok sc_with_ends (Za8 fun ds Post h=>by obtain ⟨_,_,_,_,_,rfl,_⟩:=h; rfl) (fun cdv A outer s H vs Q E hr h=>?_)
 have hu:=Zb2 hr
 have hv:=Zh5 hr
 refine ⟨_,(Zaf (Zbr (PW.pt (pw_or (Zaq Zkg (Zak (lenK K) rfl (mb "len" (by decide)) Zbl (Zaa (pv 2) Zad)) Zag (nomark _)) (pw_or1 (Zaq Zkg (Zax (ixK K hu) (pv 2) Zag (fun _ _=>rfl)) (Zak (lenK K) rfl (mb "len" (by decide)) Zbl (Zaa (pv 1) Zad)) (nomark _))))) (Zaj (Zav Zcf)) Zat) (Zaf (Za0 (i:=3) sc_with_ends.nd rfl (Or.inl rfl) (Zax (ixK K hu) (pv 2) Zag (fun _ _=>rfl))) (Zaf (Za0 (i:=4) sc_with_ends.nd rfl (Or.inl rfl) (Za1 (tupK K) rfl (mb "tuple" (by decide)) Zbp (Zaa (Zer (slK K) (pv 2) (Zg6 Zag) Zgs) Zad))) (Zaf (Zbr (PW.pt (pw_or (Zaq (neIK K hv) (Zak (sortTK K) rfl (mb "sorted" (by decide)) Zfr (Zaa (pv 4) Zad)) (Za6 C_ends_at (hr.mono (by decide)) (Zaa (pv 0) (Zaa (pv 3) Zad))) (nomark _)) (pw_or1 (Zaq Zfm (Zax (ixK K hu) (pv 4) Zag (fun _ _=>rfl)) (Zak (minK K rfl) rfl (mb "min" (by decide)) Zis (Zaa (pv 4) Zad)) (nomark _))))) (Zaj (Zav Zcf)) Zat) (Zaj (Zav (Zbg (Zaa (pv 0) (Zaa (Zas (addK K) (Zas (addK K) (pv 1) (Zas (Zje K) (Zbg (Zaa (Zbg Zad) Zad)) (Zas Zi1 (pv 3) (Zak (lenK K) rfl (mb "len" (by decide)) Zbl (Zaa (pv 1) Zad))))) (Zbg (Zaa (pv 4) Zad))) Zad))))))))),Zcn (fun ds Post hf=>?_) h⟩
 obtain ⟨n,ts,o,p,r,rfl,hl,hp,ho,hr0,hR,q⟩:=hf
 refine ⟨by simp,?_⟩
 dsimp only [startD,List.tail,List.map,List.length,List.replicate]
 have hrl:=hR.len
 cases r with
 | nil=>exact absurd rfl hr0
 | cons x r=>
 rw [List.length_cons] at hrl
 refine Zam (Zbk (Zee (Zar (Zan (Zaz (Zab (Zac rfl (Zae (Zbj (Or.inl rfl) (Zao (Zd8 ⟨_,rfl,?_⟩)))))))))))
 rw [decide_eq_false (by simp; omega)]
 refine iteF (Zar (Zan (Zan (Zac rfl (Zao (Zb6 (d:=.int (p:Int)) (Zbn (j:=0) rfl) (Zaz (Zab (Zac rfl (Zae (Zbj (Or.inr rfl) (Zd8 ⟨_,rfl,?_⟩))))))))))))
 rw [List.length_map,decide_eq_false (by omega)]
 refine iteF (Zau ?_)
 refine Zam (Za9 (Zan (Zac rfl (Zao (Zb6 (d:=.int (p:Int)) (Zbn (j:=0) rfl) ?_)))))
 have c1:cutD (D.int (p:Int) :: (x :: r).map D.int) (some 1) none=(x :: r).map D.int:=(Zhe _ (j:=1) (by simp)).trans rfl
 refine Zam (Za9 (Zaz (Zab (Zng (Zac rfl (Zgv (Zao ⟨_,rfl,Zgp ⟨.lst ((x :: r).map D.int),by show some (D.lst _)=_; rw [c1],Zae (Zc5 (Or.inl rfl) ?_)⟩⟩)))))))
 refine Zam (Zbk (Zee (Zar (Zan (Zcd (Zhp (Zab (Zac rfl (Zae ⟨_,rfl,by rw [List.length_cons]; omega,fun ms m1 m2=>⟨_,rfl,?_⟩⟩)))))))))
 rw [Zf5 hR m1 m2]
 refine Zcd (Zgj (Zab (Zac rfl (Zab (Zac rfl (Zae ⟨n,ts,_,rfl,hl,_,rfl,Zo5 ⟨_,rfl,iteF ?_⟩⟩))))))
 refine Zar (Zan (Zan (Zac rfl (Zao (Za5 (d:=.int x) (Zbn (j:=0) rfl) (Zaz (Zab (Zac rfl (Zae (Zm7 (ns:=x :: r) (m:=x) (Or.inr rfl) (List.mem_cons_self ..) (Zjs hR) (Zks ⟨_,rfl,?_⟩)))))))))))
 rw [decide_eq_true rfl]
 refine iteF (Zau ?_)
 refine Za7 (Zbb (Zab (Zac rfl (Zab (Zan (Zan (Zac rfl (Zan (Zbb (Zab (Zbb (Zae ⟨by decide,Zae ⟨by show 1<=sizeLine; decide,?_⟩⟩))))))))))))
 refine Zan (Zac rfl (Zaz (Zab (Zac rfl (Zae (Zbj (Or.inr rfl) (Zlq (Zip ?_ ?_ (Zec ?_ (Zbb (Zab (Zac rfl (Zae ⟨by show 1<=sizeLine; decide,Zec ?_ (Zae ⟨Zcv,?_⟩)⟩)))))))))))))
 all_goals rw [List.length_map]
 ·omega
 ·omega
 ·rw [List.length_replicate]; exact Nat.le_of_lt (small1000 (by omega))
 ·rw [List.length_append,List.length_map,List.length_replicate]; exact Nat.le_of_lt (small1000 (by rw [List.length_singleton]; omega))
 ·have e:((p:Int) - (o.length:Int)).toNat=p - o.length:=by omega
  rw [e]
  unfold encOrd at q
  rw [List.map_append,List.map_append,List.map_replicate] at q
  exact q
end
theorem Zhk {c:Nat}:∀ {a b R S:List Nat},c ∉ a->c ∉ b->(R=[]\/∃ r,R=c :: r)->(S=[]\/∃ s,S=c :: s)->a ++ R=b ++ S->a=b/\R=S
 | [],[],R,S,_,_,_,_,e=>⟨rfl,e⟩
 | [],y :: b,R,S,_,hb,hR,_,e=>by
  rcases hR with rfl | ⟨r,rfl⟩
  ·simp at e
  ·rw [List.nil_append,List.cons_append] at e
   injection e with e1 e2
   exact absurd (by rw [e1]; exact List.mem_cons_self) hb
 | x :: a,[],R,S,ha,_,_,hS,e=>by
  rcases hS with rfl | ⟨s,rfl⟩
  ·simp at e
  ·rw [List.nil_append,List.cons_append] at e
   injection e with e1 e2
   exact absurd (by rw [<- e1]; exact List.mem_cons_self) ha
 | x :: a,y :: b,R,S,ha,hb,hR,hS,e=>by
  rw [List.cons_append,List.cons_append] at e
  injection e with e1 e2
  obtain ⟨h1,h2⟩:=Zhk (fun z=>ha (List.mem_cons_of_mem _ z)) (fun z=>hb (List.mem_cons_of_mem _ z)) hR hS e2
  exact ⟨by rw [e1,h1],h2⟩
theorem Zjr {x y:PySem.Str} (h:x.cps.toList=y.cps.toList):x=y:=by
 cases x; cases y
 congr 1
 exact Array.toList_inj.mp h
def tailC (c:Nat):List PySem.Str->List Nat
 | []=>[]
 | z :: zs=>c :: (Str.join ⟨#[c]⟩ (z :: zs)).cps.toList
theorem Zc2 (c:Nat) (z:PySem.Str) (zs:List PySem.Str):(Str.join ⟨#[c]⟩ (z :: zs)).cps.toList=z.cps.toList ++ tailC c zs:=by
 cases zs with
 | nil=>show z.cps.toList=_ ++ []; rw [List.append_nil]
 | cons y r=>
  show (z ++ ⟨#[c]⟩ ++ Str.join ⟨#[c]⟩ (y :: r)).cps.toList=_
  have ap:∀ a b:PySem.Str,(a ++ b).cps.toList=a.cps.toList ++ b.cps.toList:=fun a b=>by
   show (a.cps ++ b.cps).toList=_
   exact Array.toList_append
  rw [ap,ap,List.append_assoc]
  rfl
theorem Zf0 (c:Nat) (zs:List PySem.Str):tailC c zs=[]\/∃ r,tailC c zs=c :: r:=by
 cases zs with
 | nil=>exact .inl rfl
 | cons z r=>exact .inr ⟨_,rfl⟩
theorem Zfw {c:Nat}:∀ {zs ws:List PySem.Str},zs ≠ []->ws ≠ []->(∀ z ∈ zs,c ∉ z.cps.toList)->(∀ z ∈ ws,c ∉ z.cps.toList)->Str.join ⟨#[c]⟩ zs=Str.join ⟨#[c]⟩ ws->zs=ws
 | [],_,h,_,_,_,_=>absurd rfl h
 | _ :: _,[],_,h,_,_,_=>absurd rfl h
 | z :: zs,w :: ws,_,_,hz,hw,e=>by
  have e':=congrArg (fun s:PySem.Str=>s.cps.toList) e
  have e':(Str.join ⟨#[c]⟩ (z :: zs)).cps.toList=(Str.join ⟨#[c]⟩ (w :: ws)).cps.toList:=e'
  rw [Zc2,Zc2] at e'
  obtain ⟨h1,h2⟩:=Zhk (hz z List.mem_cons_self) (hw w List.mem_cons_self) (Zf0 c zs) (Zf0 c ws) e'
  have hzw:=Zjr h1
  subst hzw
  cases zs with
  | nil=>
   cases ws with
   | nil=>rfl
   | cons w2 ws=>cases h2
  | cons z2 zs=>
   cases ws with
   | nil=>cases h2
   | cons w2 ws=>
    injection h2 with _ h3
    rw [Zfw (by simp) (by simp) (fun y hy=>hz y (List.mem_cons_of_mem _ hy)) (fun y hy=>hw y (List.mem_cons_of_mem _ hy)) (Zjr h3)]
theorem Zef {c:Nat} {zs:List PySem.Str} (h0:zs ≠ []) (h:∀ z ∈ zs,c ∉ z.cps.toList):Txt.split (Str.join ⟨#[c]⟩ zs) ⟨#[c]⟩ = zs:=by
 refine Zfw (c:=c) ?_ h0 (StrLaws.split_free _ c) h (StrLaws.join_split _ _)
 have:=PyProof.Rows.split_pos (Str.join ⟨#[c]⟩ zs) ⟨#[c]⟩
 intro z
 rw [z] at this
 exact absurd this (by decide)
def spNb (n:Nat):Bool:=(numS n).cps.toList.all (· != 32) && (numS n).cps.toList.all (· != 10)
theorem sp49:∀ n,n < 50->spNb n=true:=by decide +kernel
def unN (z:PySem.Str):Nat:=((List.range 50).find? fun n=>decide (numS n=z)).getD 0
theorem unN49:∀ n,n < 50->unN (numS n)=n:=by decide +kernel
def toN:D->D
 | .str z=>.int ((unN z:Nat):Int)
 | d=>d
theorem Znt (ns:List Nat) (h:∀ n ∈ ns,n < 50):(((ns.map numS).map D.str).filter fun _=>true).map toN=(ns.map fun e:Nat=>(e:Int)).map D.int:=by
 rw [List.filter_eq_self.mpr (by simp),List.map_map,List.map_map,List.map_map]
 apply List.map_congr_left
 intro n hn
 show D.int ((unN (numS n):Nat):Int)=D.int ((n:Nat):Int)
 rw [unN49 n (h n hn)]
theorem Zi0 {w:PySem.Str} {ns:List Nat} (hw:32 ∉ w.cps.toList) (hn:∀ n ∈ ns,n < 50):Txt.split (Str.join (PySem.Str.ofString " ") (w :: ns.map numS)) (PySem.Str.ofString " ")=w :: ns.map numS:=by
 have e:PySem.Str.ofString " " = ⟨#[32]⟩:=by decide +kernel
 rw [e]
 refine Zef (List.cons_ne_nil _ _) fun z hz=>?_
 rcases List.mem_cons.mp hz with rfl | hz
 ·exact hw
 ·obtain ⟨n,h,rfl⟩:=List.mem_map.mp hz
  have:=sp49 n (hn n h)
  unfold spNb at this
  rw [Bool.and_eq_true] at this
  intro h32
  have:=List.all_eq_true.mp this.1 32 h32
  exact absurd this (by decide)
def rowN (w:PySem.Str) (ns:List Nat):PySem.Str:=Str.join (PySem.Str.ofString " ") (w :: ns.map numS)
def fFloorW:DSp:=fun ds Post=>∃ (d:D) (w:PySem.Str) (ns:List Nat),ds=[d,.str (rowN w ns)]/\32 ∉ w.cps.toList/\(∀ n ∈ ns,n < 50)/\ns.length<=50/\(rowN w ns).length<=200 ∧
 ((d=.non/\w=PySem.Str.ofString "places" /\ ∃ n:Nat,ns=[n]/\1<=n/\n<=25/\Post (.tup [encWeb n [],.tup []])) ∨
  (∃ (n:Int) (ts:List (Int × Int)) (a b:Nat),d=.tup [encWeb n ts,.tup []]/\w=PySem.Str.ofString "tie" /\ ns=[a,b]/\WebOk n (ts ++ [((a:Int),(b:Int))])/\Post (.tup [encWeb n (ts ++ [((a:Int),(b:Int))]),.tup []])) ∨
  (∃ (n:Int) (ts:List (Int × Int)) (o:List (List Int)) (p:Nat) (r:List Nat),d=.tup [encWeb n ts,encOrd o]/\w=PySem.Str.ofString "at" /\ ns=p :: r/\ts.length<=24/\p < 25/\o.length<=p/\r ≠ []/\RowOk ts (2 * ts.length) (p:Int) (r.map fun e:Nat=>(e:Int))/\Post (.tup [encWeb n ts,encOrd (o ++ List.replicate (p - o.length) [] ++ [r.map fun e:Nat=>(e:Int)])])))
section
variable {P:Program} {w:World} {K:PySem.W.Frag} {mg:Str->Option Value} {base:Heap} {f:Addr} {fd:FuncData}
theorem Zka (mb:Mb mg) (C_number_written:Callee P w K mg base 1 "number_written" ["word"] (spD K fNumW)) (C_with_places:Callee P w K mg base 5 "with_places" ["numbers"] (spD K fWithPl)) (C_with_tie:Callee P w K mg base 5 "with_tie" ["web","numbers"] (spD K fWithTie)) (C_with_ends:Callee P w K mg base 3 "with_ends" ["web","standing","numbers"] (spD K fWithEnds)) (F:Fun K "floor_with" "floor_with" s_floor_with f fd):FnOk P w K mg base CX0 6 f fd ["floor","row"] (spD K fFloorW):=by
 refine F.ok sc_floor_with (Za8 fun ds Post h=>by obtain ⟨_,_,_,rfl,_⟩:=h; rfl) (fun cdv A outer s H vs Q E hr h=>?_)
 have hu:=Zb2 hr
 have hv:=Zh5 hr
 refine ⟨_,(Zaf (Za0 (i:=2) sc_floor_with.nd rfl (Or.inl rfl) (bmK K PySem.F.plainAttrs_str PySem.F.slot_str_split PySem.F.type_str_split (splitK K) (pv 1) (Zaa Zbi Zad))) (Zaf (Zff (i:=3) ["word"] (show CompSc (defScope s_floor_with) ["floor","row","words","numbers","web","standing"] _ [] [] from ⟨rfl,by decide +kernel,by decide +kernel,by decide +kernel,rfl,by decide +kernel⟩) rfl sc_floor_with.nd rfl (Or.inl rfl) (seqK K (Zer (slK K) (pv 2) (Zg6 Zag) Zgs)) (fun _ _ _ _ _=>(Zap (i:=0) (show List.Nodup (["word"]:List Str) from by decide) rfl (Or.inl rfl))) (fun _ _ _ _ _=>Zbo) (fun _ _ _ _ _=>(Za6 C_number_written (hr.mono (by decide)) (Zaa (pv 0) Zad)))) (Zaf (Zbr (Zaq (inK K hu) Zcf (pv 3) rfl) (Zaj (Zav Zcf)) Zat) (Zaf (Zbr (Zaq Zlx (pv 0) Zcf (nomark _)) (Zaj (Zav (Zdl (Zaq Zcb (Zax (ixK K hu) (pv 2) Zag (fun _ _=>rfl)) Zbi (nomark _)) (Za6 C_with_places (hr.mono (by decide)) (Zaa (pv 3) Zad)) Zcf))) Zat) (Zaf (Zf7 (pv 0) (gtupK (n:=2) K rfl (Za3 (Zap (i:=4) sc_floor_with.nd rfl (Or.inl rfl)) (Za3 (Zap (i:=5) sc_floor_with.nd rfl (Or.inl rfl)) Zck)))) (Zaf (Zbr (PW.pt (pw_and (Zaq Zcb (Zax (ixK K hu) (pv 2) Zag (fun _ _=>rfl)) Zbi (nomark _)) (pw_and1 (Zb4 (truK K (pv 5) (fun _=>rfl)))))) (Zaj (Zav (Za6 C_with_tie (hr.mono (by decide)) (Zaa (pv 4) (Zaa (pv 3) Zad))))) Zat) (Zaj (Zav (Zdl (Zaq Zcb (Zax (ixK K hu) (pv 2) Zag (fun _ _=>rfl)) Zbi (nomark _)) (Za6 C_with_ends (hr.mono (by decide)) (Zaa (pv 4) (Zaa (pv 5) (Zaa (pv 3) Zad)))) Zcf))))))))),Zcn (fun ds Post hf=>?_) h⟩
 obtain ⟨d,wd,ns,rfl,hw,hn,hk,hz,q⟩:=hf
 refine ⟨by simp,?_⟩
 dsimp only [startD,List.tail,List.map,List.length,List.replicate]
 have hz2:(rowN wd ns).length + 2<=sizeLine:=Nat.le_trans (Nat.add_le_add_right hz 2) (by decide)
 refine Zam (Za9 (Zcd (Zg9 (Zac rfl ⟨_,rfl,Zbd ⟨_,rfl,by decide,hz2,_,rfl,?_⟩⟩))))
 unfold rowN
 rw [Zi0 hw hn]
 have c1:cutD ((wd :: ns.map numS).map D.str) (some 1) none=(ns.map numS).map D.str:=(Zhe _ (j:=1) (by simp)).trans rfl
 refine Zam (Za9 (Zb5 (by decide) (Zek (Zng (Zac rfl (Zgv (Zao ⟨_,rfl,Zgp ⟨.lst ((ns.map numS).map D.str),by show some (D.lst _)=_; rw [c1],_,Or.inl rfl,?_,fun _=>true,toN,fun i d hd=>?_,?_⟩⟩)))))))
 ·rw [List.length_map,List.length_map]; exact small1000 (by omega)
 ·rw [List.map_map,List.getElem?_map] at hd
  cases z:ns[i]? with
  | none=>rw [z] at hd; exact nomatch hd
  | some m=>
   rw [z] at hd
   cases hd
   have hm:=hn m (List.mem_of_getElem? z)
   refine Zbh ⟨rfl,Zaw (Zab (Zac rfl (Zae ⟨m,rfl,hm,?_,_,rfl⟩)))⟩
   show D.int ((m:Nat):Int)=D.int ((unN (numS m):Nat):Int)
   rw [unN49 m hm]
 rw [Znt ns hn]
 refine Zam (Zbk (Zar (Zan (Zdr (Zac rfl (Zn0 ⟨_,rfl,iteF (Zau ?_)⟩))))))
 rcases q with ⟨rfl,rfl,n,rfl,h1,h2,q⟩ | q
 ·refine Zam (Zbk (Zar (Zan (Zac rfl (Zdr (Zok ⟨_,rfl,iteT ?_⟩))))))
  refine Za7 (Zdm (Zar (Zan (Zan (Zac rfl (Zao (Zb6 (d:=.str (PySem.Str.ofString "places")) (Zbn (j:=0) rfl) (Zbd (Zeb ⟨_,rfl,?_⟩)))))))))
  rw [decide_eq_true rfl]
  exact iteT (Zaw (Zab (Zac rfl (Zae ⟨(n:Int),rfl,by omega,by omega,q⟩))))
 rcases q with ⟨n,ts,a,b,rfl,rfl,rfl,hW,q⟩ | ⟨n,ts,o,p,r,rfl,rfl,rfl,hl,hp,ho,hr0,hR,q⟩
 ·refine Zam (Zbk (Zar (Zan (Zac rfl (Zdr (Zgy ⟨_,rfl,iteF (Zau ?_)⟩))))))
  refine Zam (Ziw (Zac rfl (Zf6 rfl (Zbq (Zbu (Zbq (Zbu (Zd4 ?_))))))))
  refine Zam (Zbk (Zfn (Zar (Zan (Zan (Zac rfl (Zao (Zb6 (d:=.str (PySem.Str.ofString "tie")) (Zbn (j:=0) rfl) (Zbd (Zeb ⟨_,rfl,?_⟩))))))))))
  rw [decide_eq_true rfl]
  refine iteT (Zbx (Zb0 (Zac rfl ⟨false,rfl,iteT ?_⟩)))
  exact Za7 (Zaw (Zab (Zac rfl (Zab (Zac rfl (Zae ⟨n,ts,((a:Int),(b:Int)),rfl,hW,q⟩))))))
 ·refine Zam (Zbk (Zar (Zan (Zac rfl (Zdr (Zgy ⟨_,rfl,iteF (Zau ?_)⟩))))))
  refine Zam (Ziw (Zac rfl (Zf6 rfl (Zbq (Zbu (Zbq (Zbu (Zd4 ?_))))))))
  refine Zam (Zbk (Zfn (Zar (Zan (Zan (Zac rfl (Zao (Zb6 (d:=.str (PySem.Str.ofString "at")) (Zbn (j:=0) rfl) (Zbd (Zeb ⟨_,rfl,?_⟩))))))))))
  rw [decide_eq_false (by decide +kernel)]
  refine iteF (iteF (Zau ?_))
  refine Za7 (Zdm (Zar (Zan (Zan (Zac rfl (Zao (Zb6 (d:=.str (PySem.Str.ofString "at")) (Zbn (j:=0) rfl) (Zbd (Zeb ⟨_,rfl,?_⟩)))))))))
  rw [decide_eq_true rfl]
  exact iteT (Zaw (Zab (Zac rfl (Zab (Zac rfl (Zab (Zac rfl (Zae ⟨n,ts,o,p,_,rfl,hl,hp,ho,by simpa using hr0,hR,q⟩))))))))
end
def fPlace:DSp:=fun ds Post=>∃ n ts,∃ e:Nat,ds=[encWeb n ts,.int e]/\e < 2 * ts.length/\Post (.int (placeAt ts e))
theorem Zg2 (ts:List (Int × Int)) (m:Nat) (p:Int) (q:D->Bool) (hq:∀ k:Nat,q (.int (0 + (k:Int)))=decide (placeAt ts k=p)):(rngD 0 m).filter q=(endsBelow ts m p).map .int:=by
 unfold rngD endsBelow
 rw [List.filter_map,List.map_map]
 have e:(q ∘ fun i:Nat=>D.int (0 + (i:Int)))=fun e=>decide (placeAt ts e=p):=by
  funext k; exact hq k
 rw [e]
 apply List.map_congr_left
 intro k _
 show D.int (0 + (k:Int))=D.int (k:Int)
 rw [Int.zero_add]
section
variable {P:Program} {w:World} {K:PySem.W.Frag} {mg:Str->Option Value} {base:Heap} {f:Addr} {fd:FuncData}
theorem Zlr (mb:Mb mg) (F:Fun K "place_of" "place_of" s_place_of f fd):FnOk P w K mg base CX0 1 f fd ["web","end"] (spD K fPlace):=by
 refine F.ok sc_place_of (Za8 fun ds Post h=>by obtain ⟨_,_,_,rfl,_⟩:=h; rfl) (fun cdv A outer s H vs Q E hr h=>?_)
 have hu:=Zb2 hr
 refine ⟨_,(Zaj (Zav (Zax (ixK K hu) (Zax (ixK K hu) (Zax (ixK K hu) (pv 0) Zag (fun _ _=>rfl)) (Zas Zgk (pv 1) Zag) (fun _ _=>rfl)) (Zas Zb3 (pv 1) Zag) (fun _ _=>rfl)))),Zcn (fun ds Post hf=>?_) h⟩
 obtain ⟨n,ts,e,rfl,he,q⟩:=hf
 refine ⟨by simp,?_⟩
 dsimp only [startD,List.tail,List.map,List.length]
 obtain ⟨t,h1,h2,h3⟩:=Zly he
 rw [Int.zero_add] at h2 h3
 refine Za7 (Zan (Zan (Zan (Zac rfl (Zao (Za5 (d:=.tup (ts.map encTie)) rfl ?_))))))
 refine Zan (Zac rfl (Zao (jr_I ⟨by omega,by omega⟩ (Za5 h2 ?_))))
 exact Zan (Zac rfl (Zao (jr_I (by show (0:Int) < 2; omega) (Za5 h3 q))))
theorem Zh7 (mb:Mb mg) (C_place_of:Callee P w K mg base 1 "place_of" ["web","end"] (spD K fPlace)) (F:Fun K "ends_at" "ends_at" s_ends_at f fd):FnOk P w K mg base CX0 2 f fd ["web","place"] (spN K fEnds):=by
 refine F.ok sc_ends_at (Zja fun ds Post h=>by obtain ⟨_,_,_,rfl,_⟩:=h; rfl) (fun cdv A outer s H vs Q E hr h=>?_)
 have hu:=Zb2 hr
 refine ⟨_,(Zaj (Zav (Zbf ["end"] (show CompSc (defScope s_ends_at) ["web","place"] _ ["web","place"] [0,1] from ⟨rfl,by decide +kernel,by decide +kernel,by decide +kernel,rfl,by decide +kernel⟩) rfl (Zcm rfl (mb "range" (by decide)) (Zaa (Zas Zde Zag (Zak (lenK K) rfl (mb "len" (by decide)) Zbl (Zaa (Zax (ixK K hu) (pv 0) Zag (fun _ _=>rfl)) Zad))) Zad)) (fun _ _ _ _ _=>(Zap (i:=0) (show List.Nodup (["end","web","place"]:List Str) from by decide) rfl (Or.inl rfl))) (fun _ _ _ _ _=>(Zjp (Zaq Zcb (Za6 C_place_of (hr.mono (by decide)) (Zaa (pv 1) (Zaa (pv 0) Zad))) (pv 2) (nomark _)))) (fun _ _ _ _ _=>(pv 0))))),Zoz (fun ds Post hf=>?_) h⟩
 obtain ⟨n,ts,p,rfl,hl,q⟩:=hf
 refine ⟨by simp,?_⟩
 dsimp only [startD,List.tail,List.map,List.length]
 refine Zj5 (Zki (by decide) (Zcj ?_))
 refine Zab (Zan (Zao (Zaz ?_)))
 refine Zab (Zan (Zac rfl (Zao (Za5 (d:=.tup (ts.map encTie)) rfl ?_))))
 refine Zae (Zbj (Or.inr rfl) ?_)
 rw [List.length_map]
 refine jr_I (Or.inl ⟨by omega,by omega⟩) (Zae ⟨_,rfl,by omega,by omega,?_⟩)
 have eL:((2:Int) * (ts.length:Int)).toNat=2 * ts.length:=by omega
 rw [eL]
 refine ⟨by rw [Zbt]; exact small1000 (by omega),fun d=>match d with | .int e=>decide (placeAt ts e.toNat=p) | _=>false,fun d=>d,fun i d hd=>?_,?_⟩
 ·obtain ⟨hi,rfl⟩:=Zc4 hd
  refine Zar (Zan (Zaw (Zab (Zac rfl (Zab (Zac rfl (Zae ⟨n,ts,i,by rw [Int.zero_add],hi,?_⟩)))))))
  refine Zac rfl (Zh1 ⟨_,rfl,?_,?_⟩)
  ·show _=decide (placeAt ts (0 + (i:Int)).toNat=p)
   rw [Int.zero_add,Int.toNat_natCast]
  ·by_cases hp:placeAt ts i=p
   ·rw [decide_eq_true hp,if_pos rfl]; exact Zac rfl ⟨rfl,_,rfl⟩
   ·rw [decide_eq_false hp,if_neg Bool.false_ne_true]; exact ⟨_,rfl⟩
 ·rw [List.map_id',Zg2 ts _ p _ fun k=>by show decide (placeAt ts (0 + (k:Int)).toNat=p)=_; rw [Int.zero_add,Int.toNat_natCast]]
  exact ⟨_,rfl,q⟩
end
theorem Zma (n:Nat):rowN (PySem.Str.ofString "places") [n]=linP (n:Int):=Zlz (n:Int)
theorem Zmc (a b:Nat):rowN (PySem.Str.ofString "tie") [a,b]=linT ((a:Int),(b:Int)):=Zl1 ((a:Int),(b:Int))
theorem Zmf (p:Nat) (r:List Nat):rowN (PySem.Str.ofString "at") (p :: r)=linA (p:Int) (r.map fun e:Nat=>(e:Int)):=by
 rw [<- Zme]
 unfold rowN rowT
 rw [List.map_cons,List.map_cons,List.map_cons,List.map_map,List.map_map]
 rfl
theorem Zg5 (k:Nat) (o:List (List Int)):linsA k ([] :: o)=linsA (k + 1) o:=by
 show (if ([]:List Int)=[] then [] else [linA k []]) ++ linsA (k + 1) o=_
 rw [if_pos rfl]; rfl
theorem Zgn (k:Nat) {r:List Int} (e:r ≠ []) (o:List (List Int)):linsA k (r :: o)=linA k r :: linsA (k + 1) o:=by
 show (if r=[] then [] else [linA k r]) ++ linsA (k + 1) o=_
 rw [if_neg e]; rfl
theorem Zen:∀ (o:List (List Int)) (k:Nat) {z:Str} {zs:List Str},linsA k o=z :: zs->∃ (p:Nat) (r:List Int),o[p]? = some r/\r ≠ []/\z=linA ((k + p:Nat):Int) r/\o.take p=List.replicate p []/\zs=linsA (k + p + 1) (o.drop (p + 1))
 | [],k,z,zs,h=>by exact nomatch h
 | r :: o,k,z,zs,h=>by
  by_cases e:r=[]
  ·have h2:linsA (k + 1) o=z :: zs:=by rw [<- h]; subst e; exact (Zg5 k o).symm
   obtain ⟨p,s,a1,a2,a3,a4,a5⟩:=Zen o (k + 1) h2
   refine ⟨p + 1,s,by simpa using a1,a2,by rw [a3]; congr 2; omega,by rw [List.take_succ_cons,a4,e,List.replicate_succ],?_⟩
   rw [a5,List.drop_succ_cons]; congr 1; omega
  ·have h2:linA (k:Int) r :: linsA (k + 1) o=z :: zs:=by rw [<- h]; exact (Zgn k e o).symm
   injection h2 with b1 b2
   exact ⟨0,r,rfl,e,b1.symm,rfl,b2.symm⟩
theorem Zei:∀ (o:List (List Int)) (k:Nat),linsA k o=[]->o=List.replicate o.length []
 | [],_,_=>rfl
 | r :: o,k,h=>by
  by_cases e:r=[]
  ·have h2:linsA (k + 1) o=[]:=by rw [<- h]; subst e; exact (Zg5 k o).symm
   rw [List.length_cons,List.replicate_succ,<- Zei o (k + 1) h2,e]
  ·have h2:linA (k:Int) r :: linsA (k + 1) o=[]:=by rw [<- h]; exact (Zgn k e o).symm
   exact nomatch h2
theorem Zhf {c x:Nat}:∀ {zs:List PySem.Str},x ∈ (Str.join ⟨#[c]⟩ zs).cps.toList->x=c\/∃ z ∈ zs,x ∈ z.cps.toList
 | [],h=>by exact absurd h (by show x ∉ ([]:List Nat); simp)
 | z :: zs,h=>by
  rw [Zc2] at h
  rcases List.mem_append.mp h with h | h
  ·exact .inr ⟨z,List.mem_cons_self ..,h⟩
  ·cases zs with
   | nil=>exact nomatch h
   | cons y r=>
    rcases List.mem_cons.mp h with h | h
    ·exact .inl h
    ·rcases Zhf h with h | ⟨a,b,d⟩
     ·exact .inl h
     ·exact .inr ⟨a,List.mem_cons_of_mem _ b,d⟩
theorem no10 {w:PySem.Str} {ns:List Nat} (hw:10 ∉ w.cps.toList) (hn:∀ n ∈ ns,n < 50):10 ∉ (rowN w ns).cps.toList:=by
 have e:PySem.Str.ofString " " = ⟨#[32]⟩:=by decide +kernel
 unfold rowN
 rw [e]
 intro h0
 rcases Zhf h0 with h | ⟨z,hz,h⟩
 ·exact absurd h (by decide)
 ·rcases List.mem_cons.mp hz with rfl | hz
  ·exact hw h
  ·obtain ⟨n,h1,rfl⟩:=List.mem_map.mp hz
   have:=sp49 n (hn n h1)
   unfold spNb at this
   rw [Bool.and_eq_true] at this
   exact absurd (List.all_eq_true.mp this.2 10 h) (by decide)
theorem Zho {ts:List (Int × Int)} {m:Nat} {p e:Int} (h:e ∈ endsBelow ts m p):∃ k:Nat,e=(k:Int)/\k < m:=by
 unfold endsBelow at h
 obtain ⟨k,hk,rfl⟩:=List.mem_map.mp h
 exact ⟨k,rfl,List.mem_range.mp (List.mem_filter.mp hk).1⟩
theorem Zjz {r:List Int} {m:Nat} (h:∀ e ∈ r,∃ k:Nat,e=(k:Int)/\k < m):(r.map Int.toNat).map (fun e:Nat=>(e:Int))=r/\∀ n ∈ r.map Int.toNat,n < m:=by
 refine ⟨?_,fun n hn=>?_⟩
 ·rw [List.map_map]
  conv=>rhs; rw [<- List.map_id r]
  apply List.map_congr_left
  intro e he
  obtain ⟨k,rfl,_⟩:=h e he
  rfl
 ·obtain ⟨e,he,rfl⟩:=List.mem_map.mp hn
  obtain ⟨k,rfl,hk⟩:=h e he
  exact hk
theorem Zfp:∀ (o:List (List Int)) (k:Nat) {z:Str},z ∈ linsA k o->∃ (p:Nat) (r:List Int),o[p]? = some r/\z=linA ((k + p:Nat):Int) r
 | [],k,z,h=>by exact nomatch h
 | r :: o,k,z,h=>by
  rcases List.mem_append.mp (show z ∈ (if r=[] then [] else [linA (k:Int) r]) ++ linsA (k + 1) o from h) with h | h
  ·by_cases e:r=[]
   ·rw [if_pos e] at h; exact nomatch h
   ·rw [if_neg e] at h; exact ⟨0,r,rfl,List.mem_singleton.mp h⟩
  ·obtain ⟨p,s,a,b⟩:=Zfp o (k + 1) h
   exact ⟨p + 1,s,by simpa using a,by rw [b]; congr 2; omega⟩
theorem Zin {n:Int} {ts:List (Int × Int)} {o:List (List Int)} (hW:WebOk n ts) (hO:OrdOk n ts o):Txt.split (txt n ts o) (PySem.Str.ofString "\n")=lins n ts o:=by
 have e:PySem.Str.ofString "\n" = ⟨#[10]⟩:=by decide +kernel
 have l1:=hW.lo
 have l2:=hW.hi
 have l3:=hW.len
 have l4:=hO.len
 unfold txt
 rw [e]
 refine Zef (List.cons_ne_nil _ _) fun z hz=>?_
 rcases List.mem_append.mp hz with hz | hz
 ·rcases List.mem_cons.mp hz with rfl | hz
  ·have e2:n=((n.toNat:Nat):Int):=by omega
   rw [e2,<- Zma]
   exact no10 (by decide +kernel) (by simp; omega)
  ·obtain ⟨t,ht,rfl⟩:=List.mem_map.mp hz
   obtain ⟨a,b⟩:=t
   obtain ⟨t1,t2,t3,t4⟩:=hW.tie _ ht
   dsimp only at t1 t2 t3 t4
   have e2:a=((a.toNat:Nat):Int):=by omega
   have e3:b=((b.toNat:Nat):Int):=by omega
   rw [e2,e3,<- Zmc]
   exact no10 (by decide +kernel) (by simp; omega)
 ·obtain ⟨p,r,h1,rfl⟩:=Zfp o 0 hz
  have hR:=hO.row p r h1
  have hp:p < o.length:=(List.getElem?_eq_some_iff.mp h1).1
  obtain ⟨h2,h3⟩:=Zjz (r:=r) (m:=2 * ts.length) fun e he=>Zho (hR.perm.mem_iff.mp he)
  rw [<- h2,Nat.zero_add,<- Zmf]
  refine no10 (by decide +kernel) fun x hx=>?_
  rcases List.mem_cons.mp hx with rfl | hx
  ·omega
  ·have:=h3 x hx; omega
def FlSt (n:Int) (ts:List (Int × Int)) (o:List (List Int)) (i:Nat) (d:D):Prop:=
 (i=0/\d=.non)\/(∃ k,i=k + 1/\k<=ts.length/\d=.tup [encWeb n (ts.take k),.tup []])\/∃ q,i=1 + ts.length + (linsA 0 (o.take q)).length/\q<=o.length/\d=.tup [encWeb n ts,encOrd (o.take q)]
theorem Zic {n:Int} {ts:List (Int × Int)} {o:List (List Int)} {i:Nat} {d:D} {z:Str} (hW:WebOk n ts) (hO:OrdOk n ts o) (h:FlSt n ts o i d) (hz:(lins n ts o)[i]? = some z) :
  ∃ ds,FlSt n ts o (i + 1) (.tup ds)/\∀ Post:D->Prop,Post (.tup ds)->fFloorW [d,.str z] Post:=by
 have l1:=hW.lo
 have l2:=hW.hi
 have l3:=hW.len
 have l4:=hO.len
 have sm:=(Zcq (Znj hW hO)).2 z (List.mem_of_getElem? hz)
 have third:∀ q,i=1 + ts.length + (linsA 0 (o.take q)).length->q<=o.length->d=.tup [encWeb n ts,encOrd (o.take q)]->∃ ds,FlSt n ts o (i + 1) (.tup ds)/\∀ Post:D->Prop,Post (.tup ds)->fFloorW [d,.str z] Post:=fun q e1 e2 e3=>by
  have a1:linsA 0 o=linsA 0 (o.take q) ++ linsA q (o.drop q):=by
   have:=Zca (o.take q) (o.drop q) 0
   rw [List.take_append_drop,List.length_take,Nat.min_eq_left e2,Nat.zero_add] at this
   exact this
  have a2:(linsA q (o.drop q))[0]? = some z:=by
   have:(lins n ts o)[i]? = (linsA q (o.drop q))[0]?:=by
    unfold lins
    rw [a1,List.getElem?_append_right (by simp; omega),List.getElem?_append_right (by simp; omega)]
    congr 1
    simp; omega
   rw [<- this]; exact hz
  cases a3:linsA q (o.drop q) with
  | nil=>rw [a3] at a2; exact nomatch a2
  | cons z' zs=>
   rw [a3] at a2
   cases a2
   obtain ⟨p,r,b1,b2,b3,b4,b5⟩:=Zen _ _ a3
   rw [List.getElem?_drop] at b1
   have hp:q + p < o.length:=(List.getElem?_eq_some_iff.mp b1).1
   have hR:=hO.row _ r b1
   obtain ⟨h2,h3⟩:=Zjz (r:=r) (m:=2 * ts.length) fun e he=>Zho (hR.perm.mem_iff.mp he)
   have eo:o.take (q + p + 1)=o.take q ++ List.replicate (q + p - (o.take q).length) [] ++ [r]:=by
    rw [List.take_succ,b1,List.take_add,b4,List.length_take,Nat.min_eq_left e2,Nat.add_sub_cancel_left]
    rfl
   have hrl:=hR.len
   refine ⟨[encWeb n ts,encOrd (o.take (q + p + 1))],.inr (.inr ⟨q + p + 1,?_,by omega,rfl⟩),fun Post hq=>?_⟩
   ·rw [eo,Zca,Zca,List.length_append,List.length_append,Zgn _ b2]
    have z0:∀ (m k:Nat),linsA k (List.replicate m [])=[]:=fun m=>by
     induction m with
     | zero=>intro k; rfl
     | succ m ih=>intro k; rw [List.replicate_succ,Zg5,ih]
    rw [z0,e1]
    show _=1 + ts.length + ((linsA 0 (o.take q)).length + 0 + 1)
    omega
   ·have er:z=rowN (PySem.Str.ofString "at") ((q + p) :: r.map Int.toNat):=by rw [Zmf,h2]; exact b3
    rw [er] at sm ⊢
    refine ⟨d,_,_,rfl,by decide +kernel,fun x hx=>?_,?_,sm,.inr (.inr ⟨n,ts,o.take q,q + p,r.map Int.toNat,e3,rfl,rfl,l3,by omega,by rw [List.length_take]; omega,by simpa using b2,by rw [h2]; exact hR,?_⟩)⟩
    ·rcases List.mem_cons.mp hx with rfl | hx
     ·omega
     ·have:=h3 x hx; omega
    ·rw [List.length_cons,List.length_map]; omega
    ·rw [h2,<- eo]; exact hq
 rcases h with ⟨rfl,rfl⟩ | ⟨k,rfl,hk,rfl⟩ | ⟨q,e1,e2,e3⟩
 ·have e2:n=((n.toNat:Nat):Int):=by omega
  have ez:z=rowN (PySem.Str.ofString "places") [n.toNat]:=by rw [Zma,<- e2]; exact (Option.some.inj hz).symm
  rw [ez] at sm ⊢
  refine ⟨[encWeb n [],.tup []],.inr (.inl ⟨0,rfl,Nat.zero_le _,rfl⟩),fun Post hq=>⟨.non,_,_,rfl,by decide +kernel,by simp; omega,by simp,sm,.inl ⟨rfl,rfl,n.toNat,rfl,by omega,by omega,by rw [<- e2]; exact hq⟩⟩⟩
 ·by_cases hk2:k < ts.length
  ·have e0:(lins n ts o)[k + 1]? = some (linT ts[k]):=by
    unfold lins
    rw [List.cons_append,List.getElem?_cons_succ,List.getElem?_append_left (by simpa using hk2),List.getElem?_map,List.getElem?_eq_getElem hk2]
    rfl
   rw [e0] at hz
   have hz:=Option.some.inj hz
   obtain ⟨t1,t2,t3,t4⟩:=hW.tie _ (List.getElem_mem hk2)
   generalize et:ts[k]=t at hz t1 t2 t3 t4
   obtain ⟨a,b⟩:=t
   dsimp only at t1 t2 t3 t4
   have ea:a=((a.toNat:Nat):Int):=by omega
   have eb:b=((b.toNat:Nat):Int):=by omega
   have ez:z=rowN (PySem.Str.ofString "tie") [a.toNat,b.toNat]:=by rw [Zmc,<- ea,<- eb]; exact hz.symm
   have etk:ts.take (k + 1)=ts.take k ++ [((a.toNat:Int),(b.toNat:Int))]:=by
    rw [List.take_succ,List.getElem?_eq_getElem hk2,et,<- ea,<- eb]; rfl
   rw [ez] at sm ⊢
   refine ⟨[encWeb n (ts.take (k + 1)),.tup []],.inr (.inl ⟨k + 1,rfl,hk2,rfl⟩),fun Post hq=>⟨_,_,_,rfl,by decide +kernel,by simp; omega,by simp,sm,.inr (.inl ⟨n,ts.take k,a.toNat,b.toNat,rfl,rfl,rfl,?_,by rw [<- etk]; exact hq⟩)⟩⟩
   rw [<- etk]
   exact ⟨l1,l2,by rw [List.length_take]; omega,fun t ht=>hW.tie t (List.mem_of_mem_take ht)⟩
  ·exact third 0 (by simp [linsA]; omega) (Nat.zero_le _) (by rw [List.take_of_length_le (by omega)]; rfl)
 ·exact third q e1 e2 e3
theorem Zk5 {n:Int} {ts:List (Int × Int)} {o:List (List Int)} {d:D} (h:FlSt n ts o (lins n ts o).length d):∃ q,q<=o.length/\d=.tup [encWeb n ts,encOrd (o.take q)]/\o=o.take q ++ List.replicate (o.length - q) []:=by
 have key:∀ q,q<=o.length->(linsA 0 (o.take q)).length=(linsA 0 o).length->o=o.take q ++ List.replicate (o.length - q) []:=fun q e2 e=>by
  have a1:linsA 0 o=linsA 0 (o.take q) ++ linsA q (o.drop q):=by
   have:=Zca (o.take q) (o.drop q) 0
   rw [List.take_append_drop,List.length_take,Nat.min_eq_left e2,Nat.zero_add] at this
   exact this
  have a2:linsA q (o.drop q)=[]:=by
   apply List.length_eq_zero_iff.mp
   have:=congrArg List.length a1
   rw [List.length_append] at this
   omega
  have a3:=Zei _ _ a2
  rw [List.length_drop] at a3
  rw [<- a3,List.take_append_drop]
 have hl:(lins n ts o).length=1 + ts.length + (linsA 0 o).length:=by unfold lins; simp; omega
 rcases h with ⟨e,_⟩ | ⟨k,e,hk,rfl⟩ | ⟨q,e1,e2,e3⟩
 ·omega
 ·have hk2:k=ts.length:=by omega
  refine ⟨0,Nat.zero_le _,by rw [hk2,List.take_length]; rfl,key 0 (Nat.zero_le _) (by show 0=_; omega)⟩
 ·exact ⟨q,e2,e3,key q e2 (by omega)⟩
theorem Zcr (c B:Nat):∀ (zs:List PySem.Str),(∀ z ∈ zs,z.length<=B)->(Str.join ⟨#[c]⟩ zs).cps.toList.length<=zs.length * (B + 1)
 | [],_=>Nat.zero_le _
 | z :: zs,h=>by
  have hz:z.cps.toList.length<=B:=by simpa [Str.length] using h z (List.mem_cons_self ..)
  rw [Zc2,List.length_append,List.length_cons,Nat.add_mul,Nat.one_mul]
  cases zs with
  | nil=>show _ + 0<=_; omega
  | cons y r=>
   have:=Zcr c B (y :: r) fun a ha=>h a (List.mem_cons_of_mem _ ha)
   show _ + (_ + 1)<=_
   omega
theorem Znm {n:Int} {ts:List (Int × Int)} {o:List (List Int)} (hW:WebOk n ts) (hO:OrdOk n ts o):(txt n ts o).length<=10050:=by
 have e:PySem.Str.ofString "\n" = ⟨#[10]⟩:=by decide +kernel
 obtain ⟨h1,h2⟩:=Zcq (Znj hW hO)
 have:=Zcr 10 200 _ h2
 rw [<- e] at this
 have h3:(lins n ts o).length * (200 + 1)<=50 * 201:=Nat.mul_le_mul_right _ h1
 have h4:(txt n ts o).length=(Str.join (PySem.Str.ofString "\n") (lins n ts o)).cps.toList.length:=by unfold txt; simp [Str.length]
 omega
theorem Zgo (a:List Int):Dp 2 (.lst (a.map D.int)):=fun d hd=>by
 obtain ⟨x,_,rfl⟩:=List.mem_map.mp hd
 exact True.intro
def fRead:DSp:=fun ds Post=>∃ (n:Int) (ts:List (Int × Int)) (o:List (List Int)),ds=[.str (txt n ts o)]/\WebOk n ts/\OrdOk n ts o/\Post (.tup [encWeb n ts,encOrd o])
section
variable {P:Program} {w:World} {K:PySem.W.Frag} {mg:Str->Option Value} {base:Heap} {f:Addr} {fd:FuncData}
theorem Zm3 (mb:Mb mg) (C_floor_with:Callee P w K mg base 6 "floor_with" ["floor","row"] (spD K fFloorW)) (C_ends_at:Callee P w K mg base 2 "ends_at" ["web","place"] (spN K fEnds)) (F:Fun K "read" "read" s_read f fd):FnOk P w K mg base CX0 7 f fd ["text"] (spD K fRead):=by
 refine F.ok sc_read (Za8 fun ds Post h=>by obtain ⟨_,_,_,rfl,_⟩:=h; rfl) (fun cdv A outer s H vs Q E hr h=>?_)
 have hu:=Zb2 hr
 have hv:=Zh5 hr
 refine ⟨_,(Zaf (Zbr (Zb4 (truK K (Zak (isiUK K) rfl (mb "isinstance" (by decide)) Za2 (Zaa (pv 0) (Zaa (Zce rfl (mb "str" (by decide)) Zd7 (show RelV (.ty "str") _ from rfl)) Zad))) (fun _=>rfl))) Zbz Zat) (Zaf (Za0 (i:=1) sc_read.nd rfl (Or.inl rfl) (bmK K PySem.F.plainAttrs_str PySem.F.slot_str_split PySem.F.type_str_split (splitK K) (pv 0) (Zaa Zbi Zad))) (Zaf (Za0 (i:=2) sc_read.nd rfl (Or.inl rfl) Zcf) (Zaf (Zdw PassesOwn.never rfl (Zke K rfl (mb "enumerate" (by decide)) (Zaa (pv 1) Zad)) (gtupK (n:=2) K rfl (Za3 (Zap (i:=3) sc_read.nd rfl (Or.inl rfl)) (Za3 (Zap (i:=4) sc_read.nd rfl (Or.inl rfl)) Zck))) (Zaf (Za0 (i:=2) sc_read.nd rfl (Or.inl rfl) (Za6 C_floor_with (hr.mono (by decide)) (Zaa (pv 2) (Zaa (pv 4) Zad)))) (Zaj (Zbr (Zaq Zlx (pv 2) Zcf (nomark _)) Zbz Zat)))) (Zaf (Zf7 (pv 2) (gtupK (n:=2) K rfl (Za3 (Zap (i:=5) sc_read.nd rfl (Or.inr rfl)) (Za3 (Zap (i:=6) sc_read.nd rfl (Or.inl rfl)) Zck)))) (Zaf (Za0 (i:=7) sc_read.nd rfl (Or.inl rfl) (Zas (addK K) (pv 6) (Zas (Zje K) (Zbg (Zaa (Zbg Zad) Zad)) (Zas Zi1 (Zax (ixK K hu) (pv 5) Zag (fun _ _=>rfl)) (Zak (lenK K) rfl (mb "len" (by decide)) Zbl (Zaa (pv 6) Zad)))))) (Zaf (Zbr (Zb4 (truK K (Zak (allK K rfl) rfl (mb "all" (by decide)) Zi4 (Zaa (Zbf ["place","ends"] (show CompSc (defScope s_read) ["text","rows","floor","at","row","web","standing","order"] _ ["web"] [5] from ⟨rfl,by decide +kernel,by decide +kernel,by decide +kernel,rfl,by decide +kernel⟩) rfl (Zdg K rfl (mb "enumerate" (by decide)) (Zaa (pv 7) Zad)) (fun _ _ _ _ _=>(gtupK (n:=2) K rfl (Za3 (Zap (i:=0) (show List.Nodup (["place","ends","web"]:List Str) from by decide) rfl (Or.inl rfl)) (Za3 (Zap (i:=1) (show List.Nodup (["place","ends","web"]:List Str) from by decide) rfl (Or.inl rfl)) Zck)))) (fun _ _ _ _ _=>Zbo) (fun _ _ _ _ _=>(Zgu (eqDK K hv) (Zak (sortTK K) rfl (mb "sorted" (by decide)) Zfr (Zaa (pv 1) Zad)) (Za6 C_ends_at (hr.mono (by decide)) (Zaa (pv 2) (Zaa (pv 0) Zad))) (nomark _)))) Zad)) (fun _=>rfl))) Zbz Zat) (Zaj (Zav (Zbg (Zaa (pv 5) (Zaa (pv 7) Zad)))))))))))),Zcn (fun ds Post hf=>?_) h⟩
 obtain ⟨n,ts,o,rfl,hW,hO,q⟩:=hf
 refine ⟨by simp,?_⟩
 dsimp only [startD,List.tail,List.map,List.length,List.replicate]
 have l1:=hW.lo
 have l2:=hW.hi
 have l3:=hW.len
 have l4:=hO.len
 have hz2:(txt n ts o).length + 2<=sizeLine:=Nat.le_trans (Nat.add_le_add_right (Znm hW hO) 2) (by decide)
 refine Zam (Zbk (Zbx (Zb0 (Zaz (Zab (Zac rfl (Zab (Zdq (Zae (Zci (T:="str") (b:=true) rfl (fun _=>by rfl) ⟨_,rfl,iteF (Zau ?_)⟩))))))))))
 refine Zam (Za9 (Zcd (Zg9 (Zac rfl ⟨_,rfl,Zbd ⟨_,rfl,by decide,hz2,_,rfl,?_⟩⟩))))
 rw [Zin hW hO]
 refine Zam (Za9 (Zdr ?_))
 refine Zam (Zdx (Zk1 (Zab (Zac rfl (Zae ⟨_,rfl,fun i Δ=>∃ d x3 x4,FlSt n ts o i d /\ Δ = [.val (.str (txt n ts o)),.val (.lst ((lins n ts o).map D.str)),.val d,x3,x4,.any,.any,.any],⟨_,_,_,.inl ⟨rfl,rfl⟩,rfl⟩,fun i d Δ hd hI=>?_,fun Δ hI=>?_⟩)))))
 ·obtain ⟨fl,x3,x4,hF,rfl⟩:=hI
  obtain ⟨d0,hd0,rfl⟩:=Zir hd
  rw [List.getElem?_map] at hd0
  cases hz:(lins n ts o)[i]? with
  | none=>rw [hz] at hd0; exact nomatch hd0
  | some z=>
   rw [hz] at hd0
   cases hd0
   obtain ⟨ds,h1,h2⟩:=Zic hW hO hF hz
   refine Zf6 rfl (Zbq (Zbu (Zbq (Zbu (Zd4 ?_)))))
   refine Zam (Za9 (Zaw (Zab (Zac rfl (Zab (Zac rfl (Zae (h2 _ ?_))))))))
   exact Zbk (Zar (Zan (Zac rfl (Zdr (Zgy ⟨_,rfl,iteF (Zau ⟨_,_,_,h1,rfl⟩)⟩)))))
 obtain ⟨fl,x3,x4,hF,rfl⟩:=hI
 rw [Zjo,List.length_map] at hF
 obtain ⟨k,hk,rfl,ho⟩:=Zk5 hF
 refine Zam (Ziw (Zac rfl (Zf6 rfl (Zbq (Zbu (Zbq (Zbu (Zd4 ?_))))))))
 refine Zam (Za9 (Zan (Zac rfl (Zan (Zbb (Zab (Zbb (Zae ⟨by decide,Zae ⟨by show 1<=sizeLine; decide,?_⟩⟩))))))))
 refine Zan (Zan (Zac rfl (Zao (Za5 (d:=.int n) rfl (Zaz (Zab (Zac rfl (Zae (Zbj (Or.inr rfl) (Zlq (Zip ?_ ?_ (Zec ?_ ?_))))))))))))
 all_goals try rw [List.length_map,List.length_take]
 ·omega
 ·omega
 ·rw [List.length_replicate]; exact Nat.le_of_lt (small1000 (by omega))
 have eo:List.map encRow (o.take k) ++ List.replicate (n - ((min k o.length:Nat):Int)).toNat (D.tup [])=o.map encRow:=by
  have e1:(n - ((min k o.length:Nat):Int)).toNat=o.length - k:=by omega
  rw [e1]
  conv=>rhs; rw [ho]
  rw [List.map_append,List.map_replicate]
  rfl
 rw [eo]
 refine Zam (Zbk (Zbx (Zb0 (Zaz (Zab (Zdo (by decide) (Zig (Zab (Zac rfl (Zae ⟨_,Or.inr rfl,?_,fun _=>true,fun _=>.bl true,fun i d hd=>?_,?_⟩))))))))))
 ·rw [Zdz,List.length_map]; exact small1000 (by omega)
 ·obtain ⟨d0,hd0,rfl⟩:=Zfc hd
  rw [List.getElem?_map] at hd0
  cases hz:o[i]? with
  | none=>rw [hz] at hd0; exact nomatch hd0
  | some r=>
   rw [hz] at hd0
   cases hd0
   have hR:=hO.row i r hz
   have hrl:=hR.len
   refine ⟨_,_,rfl,Zbh ⟨rfl,Zan (Zcd (Zhp (Zab (Zac rfl (Zae ⟨r,rfl,by omega,fun ms m1 m2=>⟨_,rfl,?_⟩⟩)))))⟩⟩
   rw [Zf5 hR m1 m2]
   refine Zcd (Zgj (Zab (Zac rfl (Zab (Zac rfl (Zae ⟨n,ts,_,rfl,l3,_,rfl,Zn3 (n:=2) (by decide) (Zgo _) (Zgo _) rfl rfl ⟨?_,_,_,rfl⟩⟩))))))
   rw [Zdn 2 _ (Zgo _)]
 rw [Zl3]
 refine Zae (Zil ?_)
 rw [allR]
 refine ⟨_,rfl,iteF (Zau ?_)⟩
 exact Za7 (Zbb (Zab (Zac rfl (Zab (Zac rfl (Zae ⟨Zcv,q⟩))))))
end
def fTxt:DSp:=fun ds Post=>∃ n ts o,ds=[encWeb n ts,encOrd o]/\FlOk n ts o/\Post (.str (txt n ts o))
def atD:D->D
 | .tup [.int p,.tup l]=>.tup (.str "at" :: .int p :: l)
 | d=>d
def tieD:D->D
 | .tup l=>.tup (.str "tie" :: l)
 | d=>d
def hasD:D->Bool
 | .tup [_,.tup l]=>!l.isEmpty
 | _=>false
def joinD:D->D
 | .tup l=>.str (rowT l)
 | d=>d
theorem Zg1:∀ (o:List (List Int)) (p:Nat),((((o.map encRow).zipIdx p).map fun x=>D.tup [.int (x.2:Int),x.1]).filter hasD).map (joinD ∘ atD)=(linsA p o).map D.str
 | [],p=>rfl
 | r :: o,p=>by
  rw [List.map_cons,List.zipIdx_cons,List.map_cons]
  cases r with
  | nil=>
   rw [List.filter_cons_of_neg (by exact Bool.false_ne_true),Zg1 o (p + 1)]
   rfl
  | cons x t=>
   rw [List.filter_cons_of_pos (by rfl),List.map_cons,Zg1 o (p + 1)]
   have e:(joinD ∘ atD) (.tup [.int ((p:Nat):Int),encRow (x :: t)])=.str (linA p (x :: t)):=by
    show D.str (rowT (.str "at" :: .int p :: (x :: t).map D.int))=_
    rw [Zme]
   show (joinD ∘ atD) (.tup [.int ((p:Nat):Int),encRow (x :: t)]) :: _=_
   rw [e]
   rfl
section
variable {P:Program} {w:World} {K:PySem.W.Frag} {mg:Str->Option Value} {base:Heap} {f:Addr} {fd:FuncData}
def WrOk (l:List D):Prop:=l.length<=50/\∀ d ∈ l,(∃ i,d=.int i/\0<=i/\i<=63)\/∃ x:Str,d=.str x/\x.length<=6
theorem Zpa {l:List D} (h:WrOk l):∀ z ∈ l.map wd,z.length<=6:=fun z hz=>by
 obtain ⟨d,hd,rfl⟩:=List.mem_map.mp hz
 rcases h.2 d hd with ⟨i,rfl,h0,h1⟩ | ⟨x,rfl,hx⟩
 ·have:=Zch h0 h1
  show (sI i).length<=6
  omega
 ·exact hx
theorem Zht (mb:Mb mg) (F:Fun K "written" "written" s_written f fd):FnOk P w K mg base CX0 1 f fd ["web","order"] (spD K fTxt):=by
 refine F.ok sc_written (Za8 fun ds Post h=>by obtain ⟨_,_,_,rfl,_⟩:=h; rfl) (fun cdv A outer s H vs Q E hr h=>?_)
 have hu:=Zb2 hr
 refine ⟨_,(Zaf (Za0 (i:=2) sc_written.nd rfl (Or.inl rfl) (Zd3 (Zaa (Zbg (Zaa Zbi (Zaa (Zax (ixK K hu) (pv 0) Zag (fun _ _=>rfl)) Zad))) Zad))) (Zaf (Zlv (i:=2) sc_written.nd rfl (Or.inl rfl) (Zbf ["a","b"] (show CompSc (defScope s_written) ["web","order","rows"] _ [] [] from ⟨rfl,by decide +kernel,by decide +kernel,by decide +kernel,rfl,by decide +kernel⟩) rfl (seqK K (Zax (ixK K hu) (pv 0) Zag (fun _ _=>rfl))) (fun _ _ _ _ _=>(gtupK (n:=2) K rfl (Za3 (Zap (i:=0) (show List.Nodup (["a","b"]:List Str) from by decide) rfl (Or.inl rfl)) (Za3 (Zap (i:=1) (show List.Nodup (["a","b"]:List Str) from by decide) rfl (Or.inl rfl)) Zck)))) (fun _ _ _ _ _=>Zbo) (fun _ _ _ _ _=>(Zbg (Zaa Zbi (Zaa (pv 0) (Zaa (pv 1) Zad)))))) Zjg) (Zaf (Zlv (i:=2) sc_written.nd rfl (Or.inl rfl) (Zbf ["place","row"] (show CompSc (defScope s_written) ["web","order","rows"] _ [] [] from ⟨rfl,by decide +kernel,by decide +kernel,by decide +kernel,rfl,by decide +kernel⟩) rfl (Zdg K rfl (mb "enumerate" (by decide)) (Zaa (pv 1) Zad)) (fun _ _ _ _ _=>(gtupK (n:=2) K rfl (Za3 (Zap (i:=0) (show List.Nodup (["place","row"]:List Str) from by decide) rfl (Or.inl rfl)) (Za3 (Zap (i:=1) (show List.Nodup (["place","row"]:List Str) from by decide) rfl (Or.inl rfl)) Zck)))) (fun _ _ _ _ _=>(Zjp (truK K (pv 1) (fun _=>rfl)))) (fun _ _ _ _ _=>(Zas (addK K) (Zbg (Zaa Zbi (Zaa (pv 0) Zad))) (pv 1)))) Zjg) (Zaj (Zav (bmK K PySem.F.plainAttrs_str PySem.F.slot_str_join PySem.F.type_str_join (joinK K) Zbi (Zaa (Zbf ["row"] (show CompSc (defScope s_written) ["web","order","rows"] _ [] [] from ⟨rfl,by decide +kernel,by decide +kernel,by decide +kernel,rfl,by decide +kernel⟩) rfl (seqK K (pv 2)) (fun _ _ _ _ _=>(Zap (i:=0) (show List.Nodup (["row"]:List Str) from by decide) rfl (Or.inl rfl))) (fun _ _ _ _ _=>Zbo) (fun _ _ _ _ _=>(bmK K PySem.F.plainAttrs_str PySem.F.slot_str_join PySem.F.type_str_join (joinK K) Zbi (Zaa (Zbf ["word"] (show CompSc (relab (defScope s_written) _) ["row"] _ [] [] from ⟨rfl,by decide +kernel,by decide +kernel,by decide +kernel,rfl,by decide +kernel⟩) rfl (seqK K (pv 0)) (fun _ _ _ _ _=>(Zap (i:=0) (show List.Nodup (["word"]:List Str) from by decide) rfl (Or.inl rfl))) (fun _ _ _ _ _=>Zbo) (fun _ _ _ _ _=>(Za1 strUK rfl (mb "str" (by decide)) Zd7 (Zaa (pv 0) Zad)))) Zad)))) Zad))))))),Zcn (fun ds Post hf=>?_) h⟩
 obtain ⟨n,ts,o,rfl,hF,q⟩:=hf
 refine ⟨by simp,?_⟩
 dsimp only [startD,List.tail,List.map,List.length,List.replicate]
 have h1:=hF.ol
 have h2:=hF.n1
 have h3:=hF.tl
 have h4:=hF.n0
 refine Zam (Zfb (Zfv (Zab (Zbb (Zab (Zbd (Zab (Zan (Zac rfl (Zao (Za5 (d:=.int n) rfl (Zae ⟨Zcv,Zae ⟨(show 1<=sizeLine from by decide),?_⟩⟩))))))))))))
 refine Zam (Zik rfl rfl (Zdo (by decide) (Zdc (Zan (Zac rfl (Zao (Za5 (Zl9 n ts) ⟨_,rfl,?_,fun _=>true,tieD,fun i d hd=>?_,⟨_,_,_,rfl,rfl,rfl,?_,?_⟩⟩)))))))
 ·rw [List.length_map]; exact small1000 (by omega)
 ·rw [List.getElem?_map] at hd
  cases z:ts[i]? with
  | none=>rw [z] at hd; cases hd
  | some t=>
   rw [z] at hd; cases hd
   exact ⟨_,_,rfl,Zbh ⟨rfl,Zbb (Zab (Zbd (Zab (Zac rfl (Zab (Zac rfl (Zae ⟨(show 3<=sizeLine from by decide),rfl,_,_,rfl⟩)))))))⟩⟩
 ·rw [List.filter_eq_self.mpr (by simp),List.length_map,List.length_map]
  show 1 + _<=_
  exact Nat.le_of_lt (small1000 (by omega))
 rw [List.filter_eq_self.mpr (by simp),List.map_map]
 refine Zam (Zik rfl rfl (Zdo (by decide) (Zig (Zab (Zac rfl (Zae ⟨_,Or.inr rfl,?_,hasD,atD,fun i d hd=>?_,⟨_,_,_,rfl,rfl,rfl,?_,?_⟩⟩))))))
 ·rw [Zdz,List.length_map]; exact small1000 (by omega)
 ·obtain ⟨d',hd',rfl⟩:=Zfc hd
  rw [List.getElem?_map] at hd'
  cases z:o[i]? with
  | none=>rw [z] at hd'; cases hd'
  | some r=>
   rw [z] at hd'; cases hd'
   have hr48:=(hF.oe r (List.mem_of_getElem? z)).1
   refine ⟨_,_,rfl,Zb0 (Zac rfl ⟨_,rfl,rfl,?_⟩)⟩
   refine ite2 (fun _=>?_) (fun _=>⟨_,_,rfl⟩)
   refine Zan (Zbb (Zab (Zbd (Zab (Zac rfl (Zae ⟨Zcv,Zac rfl (Zec ?_ ⟨rfl,_,_,rfl⟩)⟩))))))
   rw [List.length_map]
   exact Nat.le_of_lt (small1000 (by show 2 + _<=_; omega))
 ·rw [List.length_append,List.length_map,List.length_map]
  have:=List.length_filter_le hasD (enD (o.map encRow))
  rw [Zdz,List.length_map] at this
  show 1 + _ + _<=_
  exact Nat.le_of_lt (small1000 (by omega))
 have key:∀ d ∈ [D.tup [.str "places",.int n]] ++ ts.map (tieD ∘ encTie) ++ ((enD (o.map encRow)).filter hasD).map atD,∃ l,d=.tup l/\WrOk l:=by
  intro d hd
  rcases List.mem_append.mp hd with hd | hd
  ·rcases List.mem_append.mp hd with hd | hd
   ·rw [List.mem_singleton] at hd; subst hd
    refine ⟨_,rfl,by show 2<=50; omega,fun d hd=>?_⟩
    rcases List.mem_cons.mp hd with z | z
    ·exact Or.inr ⟨_,z,by decide⟩
    ·rw [List.mem_singleton] at z; exact Or.inl ⟨n,z,by omega,by omega⟩
   ·obtain ⟨t,ht,rfl⟩:=List.mem_map.mp hd
    have:=hF.te t ht
    refine ⟨_,rfl,by show 3<=50; omega,fun d hd=>?_⟩
    rcases List.mem_cons.mp hd with z | z
    ·exact Or.inr ⟨_,z,by decide⟩
    ·rcases List.mem_cons.mp z with z | z
     ·exact Or.inl ⟨t.1,z,by omega,by omega⟩
     ·rw [List.mem_singleton] at z; exact Or.inl ⟨t.2,z,by omega,by omega⟩
  ·obtain ⟨e,he,rfl⟩:=List.mem_map.mp hd
   obtain ⟨i,hi⟩:=List.mem_iff_getElem?.mp (List.mem_filter.mp he).1
   obtain ⟨d',hd',rfl⟩:=Zfc hi
   rw [List.getElem?_map] at hd'
   cases z:o[i]? with
   | none=>rw [z] at hd'; cases hd'
   | some r=>
    rw [z] at hd'; cases hd'
    have hi2:=(List.getElem?_eq_some_iff.mp z).1
    obtain ⟨a,b⟩:=hF.oe r (List.mem_of_getElem? z)
    refine ⟨_,rfl,by show (r.map D.int).length + 1 + 1<=50; rw [List.length_map]; omega,fun d hd=>?_⟩
    rcases List.mem_cons.mp hd with z | z
    ·exact Or.inr ⟨_,z,by decide⟩
    ·rcases List.mem_cons.mp z with z | z
     ·exact Or.inl ⟨_,z,by omega,by omega⟩
     ·obtain ⟨x,hx,rfl⟩:=List.mem_map.mp z
      exact Or.inl ⟨x,rfl,by have:=b x hx; omega,by have:=b x hx; omega⟩
 have hlen:([D.tup [.str "places",.int n]] ++ ts.map (tieD ∘ encTie) ++ ((enD (o.map encRow)).filter hasD).map atD).length<=50:=by
  have:=List.length_filter_le hasD (enD (o.map encRow))
  rw [Zdz,List.length_map] at this
  rw [List.length_append,List.length_append,List.length_map,List.length_map]
  show 1 + _ + _<=_
  omega
 have eq:([D.tup [.str "places",.int n]] ++ ts.map (tieD ∘ encTie) ++ ((enD (o.map encRow)).filter hasD).map atD).map joinD=(lins n ts o).map D.str:=by
  rw [List.map_append,List.map_append,List.map_map,List.map_map]
  unfold lins enD
  rw [Zg1 o 0,List.map_append]
  refine congrArg (· ++ (linsA 0 o).map D.str) ?_
  show D.str (rowT [.str "places",.int n]) :: ts.map (joinD ∘ tieD ∘ encTie)=D.str (linP n) :: (ts.map linT).map D.str
  rw [Zlz,List.map_map]
  refine congrArg (D.str (linP n) :: ·) ?_
  refine List.map_congr_left fun t _=>?_
  show D.str (rowT [.str "tie",.int t.1,.int t.2])=_
  rw [Zl1]; rfl
 generalize hL:[D.tup [.str "places",.int n]] ++ ts.map (tieD ∘ encTie) ++ ((enD (o.map encRow)).filter hasD).map atD=L at key hlen eq
 refine Za7 (Ze4 (Zbd ⟨_,rfl,Zb5 (by decide) (Zek (Zgl rfl ⟨_,Or.inl rfl,?_⟩))⟩))
 refine ⟨small1000 (by omega),fun _=>true,joinD,fun i d hd=>?_,?_⟩
 ·obtain ⟨l,rfl,hl⟩:=key d (List.mem_of_getElem? hd)
  refine Zbh ⟨rfl,Ze4 (Zbd ⟨_,rfl,Zb5 (by decide) (Zdc (Zac rfl ⟨_,rfl,small1000 (by have:=hl.1; omega),fun _=>true,fun d=>.str (wd d),fun j e he=>?_,?_⟩))⟩)⟩
  ·rcases hl.2 e (List.mem_of_getElem? he) with ⟨x,rfl,x0,x1⟩ | ⟨x,rfl,_⟩
   ·exact Zbh ⟨rfl,Zaz (Zab (Zac rfl (Zae (Zdb (Zb8 x0 x1) ⟨rfl,_,rfl⟩))))⟩
   ·exact Zbh ⟨rfl,Zaz (Zab (Zac rfl (Zae (Zmo ⟨rfl,_,rfl⟩))))⟩
  ·refine ⟨l.map wd,?_,Ze1 (B:=6) (N:=50) (Zpa hl) (by rw [List.length_map]; exact hl.1) (by decide),rfl,_,rfl⟩
   rw [List.filter_eq_self.mpr (by simp),List.map_map]; rfl
 ·obtain ⟨l1,l2⟩:=Zcq hF
  refine ⟨lins n ts o,?_,Ze1 (B:=200) (N:=50) l2 l1 (by decide),q⟩
  rw [List.filter_eq_self.mpr (by simp),eq]
theorem Zkv (mb:Mb mg) (F:Fun K "_law_text" "_law_text" s_law_text f fd):FnOk P w K mg base CX0 1 f fd ["_law_web_here","_law_order_here"] (spD K fTxt):=by
 refine F.ok sc_law_text (Za8 fun ds Post h=>by obtain ⟨_,_,_,rfl,_⟩:=h; rfl) (fun cdv A outer s H vs Q E hr h=>?_)
 have hu:=Zb2 hr
 refine ⟨_,(Zaf (Za0 (i:=2) sc_law_text.nd rfl (Or.inl rfl) (Zd3 (Zaa (Zas (show OpR _ _ rAddS from Zbm) Zbi (Za1 strUK rfl (mb "str" (by decide)) Zd7 (Zaa (Zax (ixK K hu) (pv 0) Zag (fun _ _=>rfl)) Zad))) Zad))) (Zaf (Zdw PassesOwn.never rfl (seqK K (Zax (ixK K hu) (pv 0) Zag (fun _ _=>rfl))) (gtupK (n:=2) K rfl (Za3 (Zap (i:=3) sc_law_text.nd rfl (Or.inl rfl)) (Za3 (Zap (i:=4) sc_law_text.nd rfl (Or.inl rfl)) Zck))) (Zaj (Zfh (bmK K PySem.F.plainAttrs_list PySem.F.slot_list_append PySem.F.type_list_append Zc1 (pv 2) (Zaa (Zas (show OpR _ _ rAddS from Zbm) (Zas (show OpR _ _ rAddS from Zbm) (Zas (show OpR _ _ rAddS from Zbm) Zbi (Za1 strUK rfl (mb "str" (by decide)) Zd7 (Zaa (pv 3) Zad))) Zbi) (Za1 strUK rfl (mb "str" (by decide)) Zd7 (Zaa (pv 4) Zad))) Zad))))) (Zaf (Zdw PassesOwn.never rfl (Zcm rfl (mb "range" (by decide)) (Zaa (Zax (ixK K hu) (pv 0) Zag (fun _ _=>rfl)) Zad)) (Zap (i:=5) sc_law_text.nd rfl (Or.inl rfl)) (Zaj (Zbr (Zaq Zlh (Zak (lenK K) rfl (mb "len" (by decide)) Zbl (Zaa (Zax (ixK K hu) (pv 1) (pv 5) (fun _ _=>rfl)) Zad)) Zag (nomark _)) (Zaj (Zfh (bmK K PySem.F.plainAttrs_list PySem.F.slot_list_append PySem.F.type_list_append Zc1 (pv 2) (Zaa (Zas (show OpR _ _ rAddS from Zbm) (Zas (show OpR _ _ rAddS from Zbm) Zbi (Za1 strUK rfl (mb "str" (by decide)) Zd7 (Zaa (pv 5) Zad))) (bmK K PySem.F.plainAttrs_str PySem.F.slot_str_join PySem.F.type_str_join (joinK K) Zbi (Zaa (Zbf ["_law_end"] (show CompSc (defScope s_law_text) ["_law_web_here","_law_order_here","_law_lines","_law_a","_law_b","_law_place"] _ [] [] from ⟨rfl,by decide +kernel,by decide +kernel,by decide +kernel,rfl,by decide +kernel⟩) rfl (seqK K (Zax (ixK K hu) (pv 1) (pv 5) (fun _ _=>rfl))) (fun _ _ _ _ _=>(Zap (i:=0) (show List.Nodup (["_law_end"]:List Str) from by decide) rfl (Or.inl rfl))) (fun _ _ _ _ _=>Zbo) (fun _ _ _ _ _=>(Zas (show OpR _ _ rAddS from Zbm) Zbi (Za1 strUK rfl (mb "str" (by decide)) Zd7 (Zaa (pv 0) Zad))))) Zad))) Zad)))) Zat))) (Zaj (Zav (bmK K PySem.F.plainAttrs_str PySem.F.slot_str_join PySem.F.type_str_join (joinK K) Zbi (Zaa (pv 2) Zad))))))),Zcn (fun ds Post hf=>?_) h⟩
 obtain ⟨n,ts,o,rfl,hF,q⟩:=hf
 refine ⟨by simp,?_⟩
 dsimp only [startD,List.tail,List.map,List.length,List.replicate]
 have h1:=hF.ol
 have h2:=hF.n1
 have h3:=hF.tl
 have h4:=hF.n0
 have sz:∀ {x y:Str},x.length<=300->y.length<=300->x.length + y.length<=sizeLine:=fun {x y} a b=>Nat.le_of_lt (small1000 (by omega))
 have sI2:∀ {i:Int},0<=i->i<=63->(sI i).length<=300:=fun a b=>by have:=Zch a b; omega
 refine Zam (Zfb (Zfv (Zab (Zan (Zbd (Zaz (Zab (Zan (Zac rfl (Zao (Za5 (d:=.int n) rfl (Zae (Zdb (Zb8 h4 (by omega)) (Zcz (sz (by decide) (sI2 h4 (by omega))) (Zae ⟨(show 1<=sizeLine from by decide),?_⟩)))))))))))))))
 refine Zbw (fun Δ=>∃ x1 x2 x3:L2.Slot,Δ = [.val (encWeb n ts),.val (encOrd o),.own (.lst ((linP n :: ts.map linT).map D.str)),x1,x2,x3]) ?_ ?_
 ·refine Zdx (Zdc (Zan (Zac rfl (Zao (Za5 (Zl9 n ts) ⟨_,rfl,fun i Δ=>∃ x1 x2 x3:L2.Slot,Δ = [.val (encWeb n ts),.val (encOrd o),.own (.lst ((linP n :: (ts.take i).map linT).map D.str)),x1,x2,x3],⟨_,_,_,rfl⟩,?_,?_⟩)))))
  ·rintro i d Δ2 hd ⟨x1,x2,x3,rfl⟩
   rw [List.getElem?_map] at hd
   cases z:ts[i]? with
   | none=>rw [z] at hd; cases hd
   | some t=>
    rw [z] at hd; cases hd
    have ht:=hF.te t (List.mem_of_getElem? z)
    have hi:=(List.getElem?_eq_some_iff.mp z).1
    have a1:(Str.ofString (toString t.1)).length<=2:=Zch ht.1.1 (by omega)
    have a2:(Str.ofString (toString t.2)).length<=2:=Zch ht.2.1 (by omega)
    have e4:("tie ":Str).length=4:=rfl
    have e1:(" ":Str).length=1:=rfl
    refine Zf6 rfl (Zbq (Zbu (Zbq (Zbu (Zd4 ?_)))))
    refine Zi8 rfl rfl (Zan (Zan (Zan (Zbd (Zaz (Zab (Zac rfl (Zae (Zdb (Zb8 ht.1.1 (by omega)) (Zcz (sz (by decide) (sI2 ht.1.1 (by omega))) ?_))))))))))
    refine Zbd (Zcz (sz (by rw [Str.length_append]; omega) (by decide)) ?_)
    refine Zaz (Zab (Zac rfl (Zae (Zdb (Zb8 ht.2.1 (by omega)) (Zcz (sz (by rw [Str.length_append,Str.length_append]; omega) (by omega)) ⟨_,_,rfl,rfl,?_,.val (.int t.1),.val (.int t.2),x3,?_⟩)))))
    ·rw [List.length_map,List.length_cons,List.length_map,List.length_take]; exact small1000 (by omega)
    ·rw [List.take_add_one,z,List.map_append,<- List.cons_append,List.map_append]
     rfl
  ·rintro Δ2 ⟨x1,x2,x3,rfl⟩
   rw [List.length_map,List.take_of_length_le (Nat.le_refl _)]
   exact ⟨_,_,_,rfl⟩
 rintro Δ1 ⟨x1,x2,x3,rfl⟩
 refine Zbw (fun Δ=>∃ x1 x2 x3:L2.Slot,Δ = [.val (encWeb n ts),.val (encOrd o),.own (.lst ((lins n ts o).map D.str)),x1,x2,x3]) ?_ ?_
 ·refine Zdx (Zcj (Zab (Zan (Zac rfl (Zao (Za5 (d:=.int n) rfl (Zae ⟨_,rfl,by omega,by omega,fun i Δ=>∃ x1 x2 x3:L2.Slot,Δ = [.val (encWeb n ts),.val (encOrd o),.own (.lst ((linP n :: ts.map linT ++ linsA 0 (o.take i)).map D.str)),x1,x2,x3],⟨x1,x2,x3,?_⟩,?_,?_⟩)))))))
  ·rw [List.take_zero]
   show _=[_,_,L2.Slot.own (.lst ((linP n :: ts.map linT ++ []).map D.str)),_,_,_]
   rw [List.append_nil]
  ·rintro i d Δ2 hd ⟨x1,x2,x3,rfl⟩
   obtain ⟨hi,rfl⟩:=Zc4 hd
   have hi':i < o.length:=by omega
   have z:o[i]? = some o[i]:=List.getElem?_eq_getElem hi'
   generalize o[i]=r at z
   obtain ⟨r1,r2⟩:=hF.oe r (List.mem_of_getElem? z)
   have aI:atI (o.map encRow) (0 + (i:Int))=some (encRow r):=by rw [Int.zero_add]; exact Zbn (by rw [List.getElem?_map,z]; rfl)
   refine Zbu (Zbk (Zar (Zan (Zaz (Zab (Zan (Zac rfl (Zac rfl (Za5 aI (Zae (Zbj (Or.inr rfl) (Zao (Zd8 ⟨_,rfl,?_⟩)))))))))))))
   rw [List.length_map]
   refine ite2 (fun y=>?_) (fun y=>?_)
   ·have y:(r.length:Int) > 0:=of_decide_eq_true y
    have jl:=Zgf r2
    have s1:(Str.ofString (toString (0 + (i:Int)))).length<=2:=Zch (show (0:Int)<=0 + (i:Int) by omega) (by omega)
    have e3:("at ":Str).length=3:=rfl
    refine Zi8 rfl rfl (Zan (Zan (Zbd (Zaz (Zab (Zac rfl (Zae (Zdb (Zb8 (by omega) (by omega)) (Zcz (sz (by decide) (sI2 (by omega) (by omega))) ?_)))))))))
    refine Ze4 (Zbd ⟨_,rfl,Zb5 (by decide) (Zdc (Zan (Zac rfl (Zac rfl (Za5 aI ⟨_,rfl,?_,fun _=>true,fun d=>match d with | .int e=>.str ((" ":Str) ++ sI e) | d=>d,fun j d hd=>?_,?_⟩)))))⟩)
    ·rw [List.length_map]; exact small1000 (by omega)
    ·rw [List.getElem?_map] at hd
     cases y2:r[j]? with
     | none=>rw [y2] at hd; cases hd
     | some e=>
      rw [y2] at hd; cases hd
      have:=r2 e (List.mem_of_getElem? y2)
      exact Zbh ⟨rfl,Zan (Zbd (Zaz (Zab (Zac rfl (Zae (Zdb (Zb8 this.1 this.2) (Zcz (sz (by decide) (sI2 this.1 this.2)) ⟨rfl,_,rfl⟩)))))))⟩
    ·refine ⟨r.map fun e=>(" ":Str) ++ sI e,?_,Ze1 (B:=3) (N:=50) (fun w hw=>?_) (by rw [List.length_map]; omega) (by decide),Zcz (sz (by rw [Str.length_append]; omega) (by omega)) ⟨_,_,rfl,rfl,?_,x1,x2,.val (.int (0 + (i:Int))),?_⟩⟩
     ·rw [List.filter_eq_self.mpr (by simp),List.map_map,List.map_map]; rfl
     ·obtain ⟨e,he,rfl⟩:=List.mem_map.mp hw
      rw [Str.length_append]
      have:=r2 e he
      have:=Zch this.1 this.2
      have e1:(" ":Str).length=1:=rfl
      omega
     ·rw [List.length_map,List.length_append,List.length_cons,List.length_map]
      have:=Zdt (o.take i) 0
      rw [List.length_take] at this
      exact small1000 (by omega)
     ·have e:((linP n :: ts.map linT ++ linsA 0 (o.take i)) ++ [linA i r]).map D.str=(linP n :: ts.map linT ++ linsA 0 (o.take i)).map D.str ++ [D.str (linA i r)]:=by rw [List.map_append]; rfl
      rw [Zeh z,if_neg (by intro e; subst e; simp at y),<- List.append_assoc,e]
      unfold linA
      rw [Int.zero_add]
      rfl
   ·have y:¬ ((r.length:Int) > 0):=of_decide_eq_false (Bool.eq_false_iff.mpr y)
    have hr0:r=[]:=List.eq_nil_of_length_eq_zero (by omega)
    refine Zau ⟨x1,x2,.val (.int (0 + (i:Int))),?_⟩
    rw [Zeh z,if_pos hr0,List.append_nil]
    rfl
  ·rintro Δ2 ⟨x1,x2,x3,rfl⟩
   rw [Zbt,List.take_of_length_le (by omega)]
   exact ⟨_,_,_,rfl⟩
 rintro Δ1 ⟨x1,x2,x3,rfl⟩
 obtain ⟨l1,l2⟩:=Zcq hF
 exact Za7 (Ze4 (Zbd ⟨_,rfl,Zgl rfl ⟨lins n ts o,rfl,Ze1 (B:=200) (N:=50) l2 l1 (by decide),q⟩⟩))
end
section
variable {P:Program} {w:World} {K:PySem.W.Frag} {mg:Str->Option Value} {base:Heap} {f:Addr} {fd:FuncData}
theorem Zkf (mb:Mb mg) (F:Fun K "_law_whole" "_law_whole" s_law_whole f fd):FnOk P w K mg base CX0 1 f fd ["_law_found"] (spD K fWhole):=by
 refine F.ok sc_law_whole (Za8 fun ds Post h=>by obtain ⟨_,rfl,_⟩:=h; rfl) (fun cdv A outer s H vs Q E hr h=>?_)
 have hu:=Zb2 hr
 refine ⟨_,(Zaj (Zav (Zj8 (Zak (isiUK K) rfl (mb "isinstance" (by decide)) Za2 (Zaa (pv 0) (Zaa (Zce rfl (mb "int" (by decide)) Zj1 (show RelV (.ty "int") _ from rfl)) Zad))) (Zim (Zl5 (Zak (isiUK K) rfl (mb "isinstance" (by decide)) Za2 (Zaa (pv 0) (Zaa (Zce rfl (mb "bool" (by decide)) Zjx (show RelV (.ty "bool") _ from rfl)) Zad)))))))),Zcn (fun ds Post hf=>?_) h⟩
 obtain ⟨e,rfl,q⟩:=hf
 refine ⟨by simp,?_⟩
 dsimp only [startD,List.tail,List.map,List.length]
 refine Za7 (Zev (Zaz (Zab (Zac rfl (Zab (Zdq (Zae (Zci (T:="int") (b:=true) rfl (fun _=>by rfl) ⟨_,rfl,?_⟩))))))))
 rw [if_pos rfl]
 refine Zgt (Zaz (Zab (Zac rfl (Zab (Zdq (Zae (Zci (T:="int") (b:=false) rfl (fun _=>by rfl) ⟨_,rfl,?_⟩)))))))
 exact q
end
def Lv:Nat->D->Prop
 | 0,_=>False
 | _ + 1,.int _=>True
 | m + 1,.tup ds=>ds.length<=1000/\∀ d ∈ ds,Lv m d
 | _,_=>False
def fSame (m:Nat):DSp:=fun ds Post=>∃ d,ds=[d,d]/\Lv m d/\Post (.bl true)
section
variable {P:Program} {w:World} {K:PySem.W.Frag} {mg:Str->Option Value} {base:Heap} {f:Addr} {fd:FuncData}
theorem Zk9 (ds:List D):(((ds.zip ds).map fun p=>D.tup [p.1,p.2]).filter fun _=>true).map (fun _=>D.bl true)=(List.replicate ds.length true).map D.bl:=by
 rw [List.filter_eq_self.mpr (by simp),List.map_const',List.map_replicate,List.length_map,List.length_zip,Nat.min_self]
theorem Zko (n:Nat):(List.replicate n true).all id=true:=by
 rw [List.all_eq_true]; intro x hx; rw [(List.mem_replicate.mp hx).2]; rfl
theorem Zii {ds:List D} {i:Nat} {d:D} (hd':((ds.zip ds).map fun p=>D.tup [p.1,p.2])[i]? = some d):∃ e,e ∈ ds/\d=.tup [e,e]:=by
 rw [List.getElem?_map] at hd'
 cases z:(ds.zip ds)[i]? with
 | none=>rw [z] at hd'; cases hd'
 | some pr=>
  rw [z] at hd'
  have hd':D.tup [pr.1,pr.2]=d:=by simpa using hd'
  rw [List.getElem?_zip_eq_some] at z
  have e:pr.1=pr.2:=Option.some.inj (z.1.symm.trans z.2)
  exact ⟨pr.1,List.mem_of_getElem? z.1,by rw [<- hd',<- e]⟩
theorem Zk6 {m:Nat} (mb:Mb mg) (C__law_whole:Callee P w K mg base 1 "_law_whole" ["_law_found"] (spD K fWhole)) (C__law_same:Callee P w K mg base (m + 1) "_law_same" ["_law_found","_law_due"] (spD K (fSame m))) (F:Fun K "_law_same" "_law_same" s_law_same f fd):FnOk P w K mg base CX0 (m + 2) f fd ["_law_found","_law_due"] (spD K (fSame (m + 1))):=by
 refine F.ok sc_law_same (Za8 fun ds Post h=>by obtain ⟨_,rfl,_⟩:=h; rfl) (fun cdv A outer s H vs Q E hr h=>?_)
 have hu:=Zb2 hr
 refine ⟨_,(Zaf (Zbr (truK K (Zak (isiUK K) rfl (mb "isinstance" (by decide)) Za2 (Zaa (pv 1) (Zaa (Zce rfl (mb "tuple" (by decide)) Zbp (show RelV (.ty "tuple") _ from rfl)) Zad))) (fun _=>rfl)) (Zaf (Zbr (PW.pt (pw_or (Zb4 (truK K (Zak (isiUK K) rfl (mb "isinstance" (by decide)) Za2 (Zaa (pv 0) (Zaa (Zce rfl (mb "tuple" (by decide)) Zbp (show RelV (.ty "tuple") _ from rfl)) Zad))) (fun _=>rfl))) (pw_or1 (Zaq Zfm (Zak (lenK K) rfl (mb "len" (by decide)) Zbl (Zaa (pv 0) Zad)) (Zak (lenK K) rfl (mb "len" (by decide)) Zbl (Zaa (pv 1) Zad)) (nomark _))))) (Zaj (Zav Zkm)) Zat) (Zaj (Zav (Zak (allK K rfl) rfl (mb "all" (by decide)) Zi4 (Zaa (Zbf ["_law_one","_law_other"] (show CompSc (defScope s_law_same) ["_law_found","_law_due"] _ [] [] from ⟨rfl,by decide +kernel,by decide +kernel,by decide +kernel,rfl,by decide +kernel⟩) rfl (Zo9 K rfl (mb "zip" (by decide)) (Zaa (pv 0) (Zaa (pv 1) Zad))) (fun _ _ _ _ _=>(gtupK (n:=2) K rfl (Za3 (Zap (i:=0) (show List.Nodup (["_law_one","_law_other"]:List Str) from by decide) rfl (Or.inl rfl)) (Za3 (Zap (i:=1) (show List.Nodup (["_law_one","_law_other"]:List Str) from by decide) rfl (Or.inl rfl)) Zck)))) (fun _ _ _ _ _=>Zbo) (fun _ _ _ _ _=>(Za6 C__law_same (hr.mono (by first|decide|omega)) (Zaa (pv 0) (Zaa (pv 1) Zad))))) Zad))))) Zat) (Zaj (Zav (Zj8 (Za6 C__law_whole (hr.mono (by first|decide|omega)) (Zaa (pv 0) Zad)) (Zim (Zgu Zcb (pv 0) (pv 1) (nomark _))))))),Zcn (fun ds Post hf=>?_) h⟩
 obtain ⟨d,rfl,hd,q⟩:=hf
 refine ⟨by simp,?_⟩
 dsimp only [startD,List.tail,List.map,List.length]
 cases d with
 | int i=>
  refine Zam (Zbk (Zb0 (Zaz (Zab (Zac rfl (Zab (Zdq (Zae (Zci (T:="int") (b:=false) rfl (fun _=>by rfl) ⟨_,rfl,iteF (Zau ?_)⟩)))))))))
  refine Za7 (Zev (Zaw (Zab (Zac rfl (Zae ⟨_,rfl,_,rfl,?_⟩)))))
  refine iteT (Zan (Zac rfl (Zac rfl (Zh1 ?_))))
  rw [decide_eq_true rfl]
  exact q
 | tup ds=>
  obtain ⟨hl,hd⟩:=hd
  refine Zam (Zbk (Zb0 (Zaz (Zab (Zac rfl (Zab (Zdq (Zae (Zci (T:="tuple") (b:=true) rfl (fun _=>by rfl) ⟨_,rfl,iteT ?_⟩)))))))))
  refine Zam (Zbk (Zee (Zbx (Zb0 (Zaz (Zab (Zac rfl (Zab (Zdq (Zae (Zci (T:="tuple") (b:=true) rfl (fun _=>by rfl) ⟨_,rfl,iteF ?_⟩)))))))))))
  refine Zar (Zan (Zaz (Zab (Zac rfl (Zae (Zbj (Or.inr rfl) (Zaz (Zab (Zac rfl (Zae (Zbj (Or.inr rfl) (Zks ⟨_,rfl,?_⟩))))))))))))
  rw [decide_eq_true rfl]
  refine iteF (Zau ?_)
  refine Za7 (Zaz (Zab (Zdo (by decide) (Zm0 (Zab (Zac rfl (Zab (Zac rfl (Zae ⟨ds,ds,rfl,rfl,?_,fun _=>true,fun _=>.bl true,fun i d hd'=>?_,?_⟩)))))))))
  ·rw [List.length_map,List.length_zip]; exact small1000 (by omega)
  ·obtain ⟨e,he,rfl⟩:=Zii hd'
   exact ⟨_,_,rfl,Zbh ⟨rfl,Zaw (Zab (Zac rfl (Zab (Zac rfl (Zae ⟨e,rfl,hd _ he,rfl,_,_,rfl⟩)))))⟩⟩
  ·refine Zae ?_
   rw [Zk9]
   refine Zil ?_
   rw [Zko]
   exact q
 | lst ds=>exact hd.elim
 | _=>exact hd.elim
theorem Zit (mb:Mb mg) (C__law_whole:Callee P w K mg base 1 "_law_whole" ["_law_found"] (spD K fWhole)) (F:Fun K "_law_same" "_law_same" s_law_same f fd) (b:Binds K fd ["_law_found","_law_due"] []) (kp:PySem.W.keepIn K (.ref f)=true) (hm:mg "_law_same" = some (.ref f)):∀ m:Nat,FnOk P w K mg base CX0 (m + 1) f fd ["_law_found","_law_due"] (spD K (fSame m))
 | 0=>by
  have no:∀ vs H Q E,¬ spD K (fSame 0) vs H Q E:=fun vs H Q E ⟨_,_,_,_,_,⟨_,_,hd,_⟩,_⟩=>hd
  exact ⟨fun vs H Q E h=>absurd h (no vs H Q E),fun A outer s H args us vs Q E _ _ _ _ h=>absurd h (no vs H Q E)⟩
 | m + 1=>Zk6 mb C__law_whole ⟨⟨f,fd,Zit mb C__law_whole F b kp hm m,b,kp,hm⟩⟩ F
theorem Zkt (mb:Mb mg) (C__law_whole:Callee P w K mg base 1 "_law_whole" ["_law_found"] (spD K fWhole)) (F:Fun K "_law_same" "_law_same" s_law_same f fd) (b:Binds K fd ["_law_found","_law_due"] []) (kp:PySem.W.keepIn K (.ref f)=true) (hm:mg "_law_same" = some (.ref f)):∀ m:Nat,FnOk P w K mg base CX0 m f fd ["_law_found","_law_due"] (spD K (fSame (m - 1)))
 | 0=>by
  have no:∀ vs H Q E,¬ spD K (fSame 0) vs H Q E:=fun vs H Q E ⟨_,_,_,_,_,⟨_,_,hd,_⟩,_⟩=>hd
  exact ⟨fun vs H Q E h=>absurd h (no vs H Q E),fun A outer s H args us vs Q E _ _ _ _ h=>absurd h (no vs H Q E)⟩
 | m + 1=>Zit mb C__law_whole F b kp hm m
theorem Zpb {m:Nat} {r:List Int} (h:r.length<=1000):Lv (m + 2) (encRow r):=by
 refine ⟨by rw [List.length_map]; exact h,fun d hd=>?_⟩
 obtain ⟨x,_,rfl⟩:=List.mem_map.mp hd
 trivial
theorem Zpg {m:Nat} {n:Int} {ts:List (Int × Int)} {o:List (List Int)} (hW:WebOk n ts) (hO:OrdOk n ts o):Lv (m + 3) (encOrd o):=by
 have h1:=hO.len
 have h2:=hW.hi
 have h3:=hW.len
 refine ⟨by rw [List.length_map]; omega,fun d hd=>?_⟩
 obtain ⟨r,hr,rfl⟩:=List.mem_map.mp hd
 obtain ⟨p,hp,e⟩:=List.mem_iff_getElem.mp hr
 have:=(hO.row p r (by rw [List.getElem?_eq_getElem hp,e])).len
 exact Zpb (by omega)
theorem Zpj {m:Nat} {n:Int} {ts:List (Int × Int)} (hW:WebOk n ts):Lv (m + 4) (encWeb n ts):=by
 refine ⟨by show 2<=1000; omega,fun d hd=>?_⟩
 rcases List.mem_cons.mp hd with z | z
 ·subst z; trivial
 ·rw [List.mem_singleton] at z; subst z
  refine ⟨by rw [List.length_map]; have:=hW.len; omega,fun d hd=>?_⟩
  obtain ⟨t,_,rfl⟩:=List.mem_map.mp hd
  refine ⟨by show 2<=1000; omega,fun d hd=>?_⟩
  rcases List.mem_cons.mp hd with z | z
  ·subst z; trivial
  ·rw [List.mem_singleton] at z; subst z; trivial
def floorD (n:Int) (ts:List (Int × Int)) (o:List (List Int)):D:=.tup [encWeb n ts,encOrd o]
theorem Zhr {n:Int} {ts:List (Int × Int)} {o:List (List Int)} (hW:WebOk n ts) (hO:OrdOk n ts o):Lv 5 (floorD n ts o):=by
 refine ⟨by show 2<=1000; omega,fun d hd=>?_⟩
 rcases List.mem_cons.mp hd with z | z
 ·subst z; exact Zpj hW
 ·rw [List.mem_singleton] at z; subst z; exact Zpg hW hO
end
section
variable {P:Program} {w:World} {K:PySem.W.Frag} {mg:Str->Option Value} {base:Heap} {f:Addr} {fd:FuncData}
theorem ok_law (mb:Mb mg) (C__law_pen:Callee P w K mg base 1 "_law_pen" ["_law_script"] (spN K fPen)) (C__law_web:Callee P w K mg base 2 "_law_web" ["_law_pen_here","_law_places","_law_ties"] (spB K fWeb)) (C__law_order:Callee P w K mg base 2 "_law_order" ["_law_pen_here","_law_web_here"] (spB K fOrder))
  (C_written:Callee P w K mg base 1 "written" ["web","order"] (spD K fTxt)) (C__law_text:Callee P w K mg base 1 "_law_text" ["_law_web_here","_law_order_here"] (spD K fTxt)) (C_read:Callee P w K mg base 7 "read" ["text"] (spD K fRead)) (C__law_same:Callee P w K mg base 6 "_law_same" ["_law_found","_law_due"] (spD K (fSame 5)))
  (F:Fun K "law" "law" s_law f fd):FnOk P w K mg base CX0 8 f fd ["_law_script"] (spD K fLaw):=by
 refine F.ok sc_law (Za8 fun ds Post h=>by obtain ⟨_,rfl,_⟩:=h; rfl) (fun cdv A outer s H vs Q E hr h=>?_)
 have hu:=Zb2 hr
 have hv:=Zh5 hr
 refine ⟨_,(Zaf (Za0 (i:=1) sc_law.nd rfl (Or.inr rfl) (Za6 C__law_pen (hr.mono (by decide)) (Zaa (pv 0) Zad))) (Zaf (Za0 (i:=2) sc_law.nd rfl (Or.inl rfl) (Zd3 (Zaa (Za6 C__law_web (hr.mono (by decide)) (Zaa (pv 1) (Zaa Zag (Zaa Zag Zad)))) (Zaa (Za6 C__law_web (hr.mono (by decide)) (Zaa (pv 1) (Zaa Zag (Zaa Zag Zad)))) Zad)))) (Zaf (Zff (i:=3) ["_law_web_here"] (show CompSc (defScope s_law) ["_law_script","_law_pen_here","_law_webs","_law_floors","_law_k","_law_text_here","_law_found"] _ ["_law_pen_here"] [1] from ⟨rfl,by decide +kernel,by decide +kernel,by decide +kernel,rfl,by decide +kernel⟩) rfl sc_law.nd rfl (Or.inl rfl) (seqK K (pv 2)) (fun _ _ _ _ _=>(Zap (i:=0) (show List.Nodup (["_law_web_here","_law_pen_here"]:List Str) from by decide) rfl (Or.inl rfl))) (fun _ _ _ _ _=>Zbo) (fun _ _ _ _ _=>(Zbg (Zaa (pv 0) (Zaa (Za6 C__law_order (hr.mono (by decide)) (Zaa (pv 1) (Zaa (pv 0) Zad))) Zad))))) (Zaf (Zdw PassesOwn.never rfl (seqK K (Zd3 (Zaa Zag (Zaa Zag (Zaa Zag (Zaa Zag Zad)))))) (Zap (i:=4) sc_law.nd rfl (Or.inl rfl)) (Zaf (Za0 (i:=5) sc_law.nd rfl (Or.inl rfl) (Za6 C__law_text (hr.mono (by decide)) (Zaa (Zax (ixK K hu) (Zax (ixK K hu) (pv 3) (pv 4) (fun _ _=>rfl)) Zag (fun _ _=>rfl)) (Zaa (Zax (ixK K hu) (Zax (ixK K hu) (pv 3) (pv 4) (fun _ _=>rfl)) Zag (fun _ _=>rfl)) Zad)))) (Zaf (Zbr (PW.pt (pw_or (Zb4 (truK K (Za6 C__law_same (hr.mono (by decide)) (Zaa (Za6 C_read (hr.mono (by decide)) (Zaa (pv 5) Zad)) (Zaa (Zax (ixK K hu) (pv 3) (pv 4) (fun _ _=>rfl)) Zad))) (fun _=>rfl))) (pw_or1 (Zb4 (truK K (Za6 C__law_same (hr.mono (by decide)) (Zaa (Za6 C_read (hr.mono (by decide)) (Zaa (Za6 C_written (hr.mono (by decide)) (Zaa (Zax (ixK K hu) (Zax (ixK K hu) (pv 3) (pv 4) (fun _ _=>rfl)) Zag (fun _ _=>rfl)) (Zaa (Zax (ixK K hu) (Zax (ixK K hu) (pv 3) (pv 4) (fun _ _=>rfl)) Zag (fun _ _=>rfl)) Zad))) Zad)) (Zaa (Zax (ixK K hu) (pv 3) (pv 4) (fun _ _=>rfl)) Zad))) (fun _=>rfl)))))) (Zaj (Zav Zkm)) Zat) (Zaf (Za0 (i:=6) sc_law.nd rfl (Or.inl rfl) (Za6 C_read (hr.mono (by decide)) (Zaa (pv 5) Zad))) (Zaj (Zbr (Zaq Zfm (Za6 C_written (hr.mono (by decide)) (Zaa (Zax (ixK K hu) (pv 6) Zag (fun _ _=>rfl)) (Zaa (Zax (ixK K hu) (pv 6) Zag (fun _ _=>rfl)) Zad))) (pv 5) (nomark _)) (Zaj (Zav Zkm)) Zat)))))) (Zaj (Zav Zkm)))))),Zcn (fun ds Post hf=>?_) h⟩
 obtain ⟨ns,rfl,hl,q⟩:=hf
 refine ⟨by simp,?_⟩
 dsimp only [startD,List.tail,List.map,List.length,List.replicate]
 refine Zam (Zfb (Zgj (Zab (Zac rfl (Zae ⟨ns,rfl,hl,fun ps hp=>?_⟩)))))
 refine Zbw (fun Δ=>∃ (ps1:List D) (a b:Int × List (Int × Int)),Pen ps1/\WebOk a.1 a.2/\WebOk b.1 b.2 /\ Δ = [.val (.scr (ns.map .int)),.own (.lst ps1),.val (.lst [encWeb a.1 a.2,encWeb b.1 b.2]),.any,.any,.any,.any]) ?_ ?_
 ·refine Za9 (Zmb (Zab (Zds rfl rfl (Zab (Zao (Zab (Zao (Zae (Zl2 rfl rfl hp (by decide) (by decide) (by decide) (by decide) fun n ts ps1 hp1 hW _ _=>?_)))))))))
  refine Zab (Zds rfl rfl (Zab (Zao (Zab (Zao (Zae (Zl2 rfl rfl hp1 (by decide) (by decide) (by decide) (by decide) fun m us ps2 hp2 hV _ _=>Zae ⟨Zcv,?_⟩)))))))
  exact ⟨ps2,(n,ts),(m,us),hp2,hW,hV,rfl⟩
 rintro Δ1 ⟨ps1,a,b,hp1,hA,hB,rfl⟩
 refine Zbw (fun Δ=>∃ (ps2:List D) (oa ob:List (List Int)),Pen ps2/\OrdOk a.1 a.2 oa/\OrdOk b.1 b.2 ob /\ Δ = [.val (.scr (ns.map .int)),.own (.lst ps2),.val (.lst [encWeb a.1 a.2,encWeb b.1 b.2]),.val (.lst [floorD a.1 a.2 oa,floorD b.1 b.2 ob]),.any,.any,.any]) ?_ ?_
 ·refine Za9 (Zjf (n:=1) (by decide) (Zek (Zac rfl ⟨_,Or.inl rfl,small1000 (by show 2<=1000; omega),fun i ys Δ2=>∃ (psx:List D) (x:L2.Slot),Pen psx/\(i=0/\ys=[]\/i=1/\(∃ oa,OrdOk a.1 a.2 oa/\ys=[floorD a.1 a.2 oa])\/i=2/\∃ oa ob,OrdOk a.1 a.2 oa/\OrdOk b.1 b.2 ob/\ys=[floorD a.1 a.2 oa,floorD b.1 b.2 ob]) /\ Δ2=[x,.own (.lst psx)],⟨ps1,.any,hp1,.inl ⟨rfl,rfl⟩,rfl⟩,?_,?_⟩)))
  ·rintro i d ys Δ2 hd ⟨psx,x,hpx,hys,rfl⟩
   refine Zlc (by decide) (Nat.succ_pos _) (Zbh (iteT ?_))
   rcases hys with ⟨rfl,rfl⟩ | ⟨rfl,oa,hoa,rfl⟩ | ⟨rfl,_⟩
   ·cases hd
    exact Zbb (Zab (Zac rfl (Zab (Zds rfl rfl (Zab (Zac rfl (Zae (Zhn rfl rfl hpx hA fun u ps3 hp3 hU=>Zae ⟨Zcv,ps3,_,hp3,.inr (.inl ⟨rfl,u,hU,rfl⟩),rfl⟩))))))))
   ·cases hd
    exact Zbb (Zab (Zac rfl (Zab (Zds rfl rfl (Zab (Zac rfl (Zae (Zhn rfl rfl hpx hB fun u ps3 hp3 hU=>Zae ⟨Zcv,ps3,_,hp3,.inr (.inr ⟨rfl,oa,u,hoa,hU,rfl⟩),rfl⟩))))))))
   ·cases hd
  ·rintro ys Δ2 ⟨psx,x,hpx,hys,rfl⟩
   rcases hys with ⟨h,_⟩ | ⟨h,_⟩ | ⟨_,oa,ob,ha,hb,rfl⟩
   ·exact absurd h (by show ¬ 2=0; decide)
   ·exact absurd h (by show ¬ 2=1; decide)
   ·exact ⟨psx,oa,ob,hpx,ha,hb,rfl⟩
 rintro Δ1 ⟨ps2,oa,ob,hp2,hOA,hOB,rfl⟩
 have at2:∀ i:Int,(i=0\/i=1)->∃ (n:Int) (ts:List (Int × Int)) (o:List (List Int)),atI [floorD a.1 a.2 oa,floorD b.1 b.2 ob] i=some (floorD n ts o)/\WebOk n ts/\OrdOk n ts o:=fun i hi=>by
  rcases hi with rfl | rfl
  ·exact ⟨_,_,oa,rfl,hA,hOA⟩
  ·exact ⟨_,_,ob,rfl,hB,hOB⟩
 refine Zbw (fun _=>True) ?_ (fun Δ1 _=>Za7 (Zog q))
 refine Zdx (Zek (Zfi (Zop (Zbe Zbc (Zbe Zbc (Zbe Zbc (Zbe Zbc Zdy)))) (by show 4<=sizeLine; decide)) ⟨_,Or.inl rfl,fun _ Δ=>∃ x4 x5 x6:L2.Slot,Δ = [.val (.scr (ns.map .int)),.own (.lst ps2),.val (.lst [encWeb a.1 a.2,encWeb b.1 b.2]),.val (.lst [floorD a.1 a.2 oa,floorD b.1 b.2 ob]),x4,x5,x6],⟨_,_,_,rfl⟩,?_,fun _ _=>trivial⟩))
 rintro i d Δ2 hd ⟨x4,x5,x6,rfl⟩
 obtain ⟨p,rfl,h0⟩:∃ p:Int,d=.int p/\(p=0\/p=1):=by
  rcases i with _ | _ | _ | _ | i
  ·cases hd; exact ⟨0,rfl,Or.inl rfl⟩
  ·cases hd; exact ⟨1,rfl,Or.inr rfl⟩
  ·cases hd; exact ⟨0,rfl,Or.inl rfl⟩
  ·cases hd; exact ⟨1,rfl,Or.inr rfl⟩
  ·cases hd
 obtain ⟨n,ts,o,e,hW,hO⟩:=at2 p h0
 have FL:=Znj hW hO
 have tf:∀ {Δ:Evt},Δ[3]? = some (.val (.lst [floorD a.1 a.2 oa,floorD b.1 b.2 ob])) -> Δ[4]? = some (.val (.int p))->PV K (tOp (rIxU K) (tVar 3) (tVar 4)) Δ (floorD n ts o):=fun h3 h4=>Zmd (Zbs h3) (Zbs h4) e
 refine Zbu (Zam (Za9 (Zaw (Zhh (Zbe (Zc6 (tf rfl rfl) Zbc rfl) (Zbe (Zc6 (tf rfl rfl) Zbc rfl) Zdy)) ⟨n,ts,o,rfl,FL,?_⟩))))
 refine Zam (Zbk (Zee (Zbx (Zb0 (Zaw (Zab (Zaw (Zab (Zac rfl (Zae ⟨n,ts,o,rfl,hW,hO,?_⟩))))))))))
 refine Zab (Zfi (tf rfl rfl) (Zae ⟨_,rfl,Zhr hW hO,true,rfl,iteF ?_⟩))
 refine Zbx (Zb0 (Zaw (Zab (Zaw (Zab (Zaw (Zhh (Zbe (Zc6 (tf rfl rfl) Zbc rfl) (Zbe (Zc6 (tf rfl rfl) Zbc rfl) Zdy)) ⟨n,ts,o,rfl,FL,Zae ⟨n,ts,o,rfl,hW,hO,?_⟩⟩)))))))
 refine Zab (Zfi (tf rfl rfl) (Zae ⟨_,rfl,Zhr hW hO,true,rfl,iteF (Zau ?_)⟩))
 refine Zam (Za9 (Zaw (Zab (Zac rfl (Zae ⟨n,ts,o,rfl,hW,hO,?_⟩)))))
 refine Zbk (Zar (Zan (Zaw (Zhh (Zbe (Zc6 (Zbs rfl) Zbc rfl) (Zbe (Zc6 (Zbs rfl) Zbc rfl) Zdy)) ⟨n,ts,o,rfl,FL,Zac rfl (Zos ⟨_,rfl,iteF (Zau ⟨_,_,_,rfl⟩)⟩)⟩))))
end
theorem lenS {us:List Value} {n:Nat} (h:us.length=n + 1):∃ a t,us=a :: t/\t.length=n:=by
 cases us with
 | nil=>exact absurd h.symm (Nat.succ_ne_zero n)
 | cons a t=>exact ⟨a,t,rfl,Nat.succ.inj h⟩
theorem bK1 {α:Type _} {g r:List Value -> α} (h:∀ a0,g [a0]=r [a0]) (us:List Value) (l:us.length=1):g us=r us:=by
 obtain ⟨a0,u0,rfl,h0⟩:=lenS l
 obtain rfl:=List.eq_nil_of_length_eq_zero h0
 exact h a0
theorem bK2 {α:Type _} {g r:List Value -> α} (h:∀ a0 a1,g [a0,a1]=r [a0,a1]) (us:List Value) (l:us.length=2):g us=r us:=by
 obtain ⟨a0,u0,rfl,h0⟩:=lenS l
 obtain ⟨a1,u1,rfl,h1⟩:=lenS h0
 obtain rfl:=List.eq_nil_of_length_eq_zero h1
 exact h a0 a1
theorem bK3 {α:Type _} {g r:List Value -> α} (h:∀ a0 a1 a2,g [a0,a1,a2]=r [a0,a1,a2]) (us:List Value) (l:us.length=3):g us=r us:=by
 obtain ⟨a0,u0,rfl,h0⟩:=lenS l
 obtain ⟨a1,u1,rfl,h1⟩:=lenS h0
 obtain ⟨a2,u2,rfl,h2⟩:=lenS h1
 obtain rfl:=List.eq_nil_of_length_eq_zero h2
 exact h a0 a1 a2
def FnE (K:PySem.W.Frag) (x:Str) (st:Stmt):Prop:=∃ (f:Addr) (fd:FuncData),PySem.W.nsIn K mainGlobals x=some (some (.ref f))/\Fun K x x st f fd
theorem fnE {K:PySem.W.Frag} {x:Str} {st:Stmt} {f:Addr} {oc kV doc pm cdv ct:Value} {od an:Option Addr} {sl:Array (Option Value)} (a:PySem.W.nsIn K mainGlobals x=some (some (.ref f))) (l:K.lookup f=some ⟨oc,od,.func (PySem.W.fnOf x x (defArgs st) (defBody st) (defScope st) .none kV doc pm an cdv ct),sl⟩) (c:PySem.W.codeIn K cdv x=true) (k:PySem.W.keepIn K (.ref f)=true):FnE K x st:=⟨f,_,a,Zoj l c k⟩
theorem Znv {P:Program} {w:World} {K:PySem.W.Frag} {mg:Str->Option Value} {base h:Heap} (X:K.In h) (G:h.Ns mainGlobals mg) {x:Str} {st:Stmt} {ps:List Str} {lv:Nat} {sp:Sp} (e:FnE K x st) (ok:∀ {f:Addr} {fd:FuncData},Fun K x x st f fd->FnOk P w K mg base CX0 lv f fd ps sp) (hb:∀ (kV doc pm:Value) (an:Option Addr) (cdv ct:Value) (us:List Value),us.length=ps.length->bindArgs (PySem.W.fnOf x x (defArgs st) (defBody st) (defScope st) .none kV doc pm an cdv ct) ⟨us,[]⟩ = pure (ps.zip us)):Callee P w K mg base lv x ps sp:=by
 obtain ⟨f,fd,a,F⟩:=e
 exact ⟨⟨f,fd,ok F,F.binds hb,F.kp,PySem.W.mg_of X G a⟩⟩
theorem Zle {P:Program} {w:World} {K:PySem.W.Frag} {mg:Str->Option Value} {base h:Heap} (X:K.In h) (G:h.Ns mainGlobals mg) {x:Str} {st:Stmt} {ps:List Str} {lv:Nat} {sp:Sp} (e:FnE K x st) (ok:∀ {f:Addr} {fd:FuncData},Fun K x x st f fd->Binds K fd ps []->PySem.W.keepIn K (.ref f)=true->mg x=some (.ref f)->FnOk P w K mg base CX0 lv f fd ps sp) (hb:∀ (kV doc pm:Value) (an:Option Addr) (cdv ct:Value) (us:List Value),us.length=ps.length->bindArgs (PySem.W.fnOf x x (defArgs st) (defBody st) (defScope st) .none kV doc pm an cdv ct) ⟨us,[]⟩ = pure (ps.zip us)):Callee P w K mg base lv x ps sp:=by
 obtain ⟨f,fd,a,F⟩:=e
 exact ⟨⟨f,fd,ok F (F.binds hb) F.kp (PySem.W.mg_of X G a),F.binds hb,F.kp,PySem.W.mg_of X G a⟩⟩
theorem all_mk {l:PySem.W.OpenLaw} {w:World} {K:PySem.W.Frag} {h:Heap} {mg:Str->Option Value} {fa:Addr} (X:K.In h) (G:h.Ns mainGlobals mg) (hfa:mg "law" = some (.ref fa))
  (e1:FnE K "_law_draw" s_law_draw)
  (e2:FnE K "_law_pen" s_law_pen)
  (e3:FnE K "_law_web" s_law_web)
  (e4:FnE K "_law_order" s_law_order)
  (e5:FnE K "_law_whole" s_law_whole)
  (e6:FnE K "_law_same" s_law_same)
  (e7:FnE K "written" s_written)
  (e8:FnE K "_law_text" s_law_text)
  (e9:FnE K "number_written" s_number_written)
  (e10:FnE K "is_row" s_is_row)
  (e11:FnE K "is_whole" s_is_whole)
  (e12:FnE K "tie_of" s_tie_of)
  (e13:FnE K "web_of" s_web_of)
  (e14:FnE K "with_web" s_with_web)
  (e15:FnE K "with_places" s_with_places)
  (e16:FnE K "with_tie" s_with_tie)
  (e17:FnE K "place_of" s_place_of)
  (e18:FnE K "ends_at" s_ends_at)
  (e19:FnE K "with_ends" s_with_ends)
  (e20:FnE K "floor_with" s_floor_with)
  (e21:FnE K "read" s_read)
  (e22:FnE K "law" s_law)
  {tk_FIGURES:Tok} (y_FIGURES:PySem.W.nsIn K mainGlobals "FIGURES" = some (some (.str "0123456789" tk_FIGURES)))
  {tk_MOST_FIGURES:Tok} (y_MOST_FIGURES:PySem.W.nsIn K mainGlobals "MOST_FIGURES" = some (some (.int 60 tk_MOST_FIGURES)))
  {tk_MOST_PLACES:Tok} (y_MOST_PLACES:PySem.W.nsIn K mainGlobals "MOST_PLACES" = some (some (.int 25 tk_MOST_PLACES)))
  {tk_MOST_TIES:Tok} (y_MOST_TIES:PySem.W.nsIn K mainGlobals "MOST_TIES" = some (some (.int 24 tk_MOST_TIES)))
  (z0:PySem.W.nsIn K mainGlobals "abs" = some none)
  (z1:PySem.W.nsIn K mainGlobals "all" = some none)
  (z2:PySem.W.nsIn K mainGlobals "bool" = some none)
  (z3:PySem.W.nsIn K mainGlobals "enumerate" = some none)
  (z4:PySem.W.nsIn K mainGlobals "int" = some none)
  (z5:PySem.W.nsIn K mainGlobals "isinstance" = some none)
  (z6:PySem.W.nsIn K mainGlobals "len" = some none)
  (z7:PySem.W.nsIn K mainGlobals "list" = some none)
  (z8:PySem.W.nsIn K mainGlobals "max" = some none)
  (z9:PySem.W.nsIn K mainGlobals "min" = some none)
  (z10:PySem.W.nsIn K mainGlobals "range" = some none)
  (z11:PySem.W.nsIn K mainGlobals "sorted" = some none)
  (z12:PySem.W.nsIn K mainGlobals "str" = some none)
  (z13:PySem.W.nsIn K mainGlobals "tuple" = some none)
  (z14:PySem.W.nsIn K mainGlobals "zip" = some none) :
  ∃ fd:FuncData,(∀ (s:Shared) (v:Value),BindsTo s fd ⟨[v],[]⟩ [("_law_script",v)])/\∀ base:Heap,K.In base->base.Ns mainGlobals mg->FnOk l.prog w K mg base CX0 8 fa fd ["_law_script"] (spD K fLaw):=by
 obtain ⟨f,fd,a,F⟩:=e22
 have e:=hfa.symm.trans (PySem.W.mg_of X G a)
 cases e
 have mb:Mb mg:=by
  intro x hx
  simp only [List.mem_cons,List.not_mem_nil,or_false] at hx
  rcases hx with rfl | rfl | rfl | rfl | rfl | rfl | rfl | rfl | rfl | rfl | rfl | rfl | rfl | rfl | rfl
  ·exact PySem.W.mg_none_of X G z0
  ·exact PySem.W.mg_none_of X G z1
  ·exact PySem.W.mg_none_of X G z2
  ·exact PySem.W.mg_none_of X G z3
  ·exact PySem.W.mg_none_of X G z4
  ·exact PySem.W.mg_none_of X G z5
  ·exact PySem.W.mg_none_of X G z6
  ·exact PySem.W.mg_none_of X G z7
  ·exact PySem.W.mg_none_of X G z8
  ·exact PySem.W.mg_none_of X G z9
  ·exact PySem.W.mg_none_of X G z10
  ·exact PySem.W.mg_none_of X G z11
  ·exact PySem.W.mg_none_of X G z12
  ·exact PySem.W.mg_none_of X G z13
  ·exact PySem.W.mg_none_of X G z14
 obtain ⟨oc,od,kV,doc,pm,an,cdv,ct,osl,rfl,lk,hcd⟩:=F.ex
 refine ⟨PySem.W.fnOf "law" "law" (defArgs s_law) (defBody s_law) (defScope s_law) .none kV doc pm an cdv ct,fun s v=>.of_eq rfl,fun base _ _=>?_⟩
 have M:=@Znv l.prog w K mg base h X G
 have MR:=@Zle l.prog w K mg base h X G
 have C1:=M e1 (Zm9 mb) fun _ _ _ _ _ _=>bK2 fun _ _=>rfl
 have C2:=M e2 (Zo6 mb) fun _ _ _ _ _ _=>bK1 fun _=>rfl
 have C3:=M e3 (Zo3 mb C1) fun _ _ _ _ _ _=>bK3 fun _ _ _=>rfl
 have C4:=M e4 (Zkq mb C1) fun _ _ _ _ _ _=>bK2 fun _ _=>rfl
 have C5:=M e5 (Zkf mb) fun _ _ _ _ _ _=>bK1 fun _=>rfl
 have C6:=MR e6 (fun F b k m=>Zkt mb C5 F b k m 6) fun _ _ _ _ _ _=>bK2 fun _ _=>rfl
 have C7:=M e7 (Zht mb) fun _ _ _ _ _ _=>bK2 fun _ _=>rfl
 have C8:=M e8 (Zkv mb) fun _ _ _ _ _ _=>bK2 fun _ _=>rfl
 have C9:=M e9 (Zmp mb (PySem.W.mg_of X G y_FIGURES) (PySem.W.mg_of X G y_MOST_FIGURES)) fun _ _ _ _ _ _=>bK1 fun _=>rfl
 have C10:=M e10 (Zkl mb) fun _ _ _ _ _ _=>bK1 fun _=>rfl
 have C11:=M e11 (Zmm mb) fun _ _ _ _ _ _=>bK1 fun _=>rfl
 have C12:=M e12 (Zk3 mb C10 C11) fun _ _ _ _ _ _=>bK2 fun _ _=>rfl
 have C13:=M e13 (Zlo mb C10 C11 C12 (PySem.W.mg_of X G y_MOST_PLACES) (PySem.W.mg_of X G y_MOST_TIES)) fun _ _ _ _ _ _=>bK2 fun _ _=>rfl
 have C14:=M e14 (Zh4 mb C13) fun _ _ _ _ _ _=>bK2 fun _ _=>rfl
 have C15:=M e15 (Zjy mb C14) fun _ _ _ _ _ _=>bK1 fun _=>rfl
 have C16:=M e16 (Zh6 mb C14) fun _ _ _ _ _ _=>bK2 fun _ _=>rfl
 have C17:=M e17 (Zlr mb) fun _ _ _ _ _ _=>bK2 fun _ _=>rfl
 have C18:=M e18 (Zh7 mb C17) fun _ _ _ _ _ _=>bK2 fun _ _=>rfl
 have C19:=M e19 (Zgh mb C18) fun _ _ _ _ _ _=>bK3 fun _ _ _=>rfl
 have C20:=M e20 (Zka mb C9 C15 C16 C19) fun _ _ _ _ _ _=>bK2 fun _ _=>rfl
 have C21:=M e21 (Zm3 mb C20 C18) fun _ _ _ _ _ _=>bK1 fun _=>rfl
 exact ok_law mb C2 C3 C4 C7 C8 C21 C6 F
end Lw
open PySem PySem.W PyProof.Rows
set_option maxRecDepth 100000 in
set_option maxHeartbeats 0 in
theorem PySem.Challenge.cw_holefloor_k82_whole_read_back_holds : PySem.Challenge.rw_holefloor_k82_whole_read_back.Holds := by
 w_on; o_law; k_head; (case hw=>w_witness2)
 k_fill
 refine L2.walk_law (k:=8) (x:="_law_script") (l:=PySem.Challenge.rw_holefloor_k82_whole_read_back) ⟨rfl,by decide,by decide,rfl⟩ rfl rfl (fun w h Y=>PySem.W.kIn_of Y) ?F
 case F=>
  intro w mg fa h KX G hmg
  refine' Lw.all_mk KX G hmg ?e1 ?e2 ?e3 ?e4 ?e5 ?e6 ?e7 ?e8 ?e9 ?e10 ?e11 ?e12 ?e13 ?e14 ?e15 ?e16 ?e17 ?e18 ?e19 ?e20 ?e21 ?e22 ?y_FIGURES ?y_MOST_FIGURES ?y_MOST_PLACES ?y_MOST_TIES ?z0 ?z1 ?z2 ?z3 ?z4 ?z5 ?z6 ?z7 ?z8 ?z9 ?z10 ?z11 ?z12 ?z13 ?z14
  (case y_FIGURES=>k_is)
  (case y_MOST_FIGURES=>k_is)
  (case y_MOST_PLACES=>k_is)
  (case y_MOST_TIES=>k_is)
  all_goals first | (refine' Lw.fnE ?a ?l ?c ?k; (case a=>k_is); (case l=>k_is); (case c=>k_is); (case k=>k_is)) | k_is

