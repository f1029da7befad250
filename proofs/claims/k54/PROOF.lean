import PyProof.Rows.All
import Wide.All
import OpenK.AllK
import Wide.FinOn
import Lean
import PyProof.EqAt
import PyProof.EqKinds
import PyProof.TupleCall
import KE.KSortTup
import PyProof.NeKinds
import PyProof.ExcBaseAll.ValueError
import PyProof.ExcArgsOwn
import PyProof.NsDelKeeps
import PyProof.RulesAs
import PyProof.FString
import PyProof.AttrMissSeq
import PyProof.WalksS
import KE.KDictList
import KE.KDictSum
import PyProof.MinMaxWalk
import KE.KMinKey
import PyProof.Rows.CallKwBuiltin
import PyProof.Rows.RuleDivmod
import PyProof.ListMulAny
import PyProof.FactsAll.tuple
import KE.KRevIter
import PyProof.EnumMake
import KE.KMulAny
import PyProof.FactsAll.range
import PyProof.Rows.StrNews
import KE.KIntText
import PyProof.StrWalks
import PySem.Challenge.RW_holefloor_k54_ring_papers_that_are_none
set_option Elab.async false
set_option linter.all false
set_option maxRecDepth 100000
namespace L2
open PySem PySem.Spec PyProof.Rows
abbrev Key:=Sum Int Str
def keyIs:Key->Value->Bool
 | .inl k,v=>Value.isInt k v
 | .inr x,v=>Value.isStrOf x v
def keyH (w:World):Key->Int
 | .inl k=>hashInt k
 | .inr x=>hashStr w x
theorem Zbq:∀ {k:Key} {v:Value},keyIs k v=true->(∃ i t,k=Sum.inl i/\v=Value.int i t)\/(∃ x t,k=Sum.inr x/\v=Value.str x t)
 | .inl i,v,h=>by
  obtain ⟨t,e⟩:=Value.isInt_shape (k:=i) (v:=v) h
  exact .inl ⟨i,t,rfl,e⟩
 | .inr x,v,h=>by
  obtain ⟨t,e⟩:=Value.isStrOf_shape (x:=x) (v:=v) h
  exact .inr ⟨x,t,rfl,e⟩
theorem Zm3 (i:Int) (t:Tok):keyIs (.inl i) (.int i t)=true:=by simp [keyIs,Value.isInt]
theorem Zk8 (x:Str) (t:Tok):keyIs (.inr x) (.str x t)=true:=by simp [keyIs,Value.isStrOf]
theorem Zsr (a b:Int):decide ((Sum.inl a:Key)=Sum.inl b)=(a == b):=by
 by_cases e:a=b
 ·subst e; simp
 ·have h:¬ (Sum.inl a:Key)=Sum.inl b:=fun q=>e (Sum.inl.inj q)
  rw [decide_eq_false h]
  exact (beq_eq_false_iff_ne.mpr e).symm
theorem Zss (a b:Str):decide ((Sum.inr a:Key)=Sum.inr b)=decide (a=b):=by
 by_cases e:a=b
 ·subst e; simp
 ·have h:¬ (Sum.inr a:Key)=Sum.inr b:=fun q=>e (Sum.inr.inj q)
  rw [decide_eq_false h,decide_eq_false e]
theorem Zti (a:Int) (b:Str):decide ((Sum.inl a:Key)=Sum.inr b)=false:=decide_eq_false (fun q=>nomatch q)
theorem Zrv (a:Str) (b:Int):decide ((Sum.inr a:Key)=Sum.inl b)=false:=decide_eq_false (fun q=>nomatch q)
def mixKind (prog:Program) (w:World):PySem.KeyKind prog w Key where
 is:=keyIs
 hash:=keyH w
 inj:=fun v a b ha hb=>by
  rcases Zbq ha with ⟨i,t,rfl,rfl⟩ | ⟨x,t,rfl,rfl⟩
  ·rcases Zbq hb with ⟨j,u,rfl,e⟩ | ⟨y,u,rfl,e⟩
   ·injection e with e1 _; rw [e1]
   ·exact nomatch e
  ·rcases Zbq hb with ⟨j,u,rfl,e⟩ | ⟨y,u,rfl,e⟩
   ·exact nomatch e
   ·injection e with e1 _; rw [e1]
 byValue:=fun k v h=>by
  rcases Zbq h with ⟨i,t,rfl,rfl⟩ | ⟨x,t,rfl,rfl⟩ <;> rfl
 pyHash:=fun hv h=>by
  rcases Zbq hv with ⟨i,t,rfl,rfl⟩ | ⟨x,t,rfl,rfl⟩
  ·exact wpAny_pyHash_int h
  ·exact wpAny_pyHash_str h
 eqBool:=fun hu hv h=>by
  rcases Zbq hu with ⟨i,t,rfl,rfl⟩ | ⟨x,t,rfl,rfl⟩
  ·rcases Zbq hv with ⟨j,u,rfl,rfl⟩ | ⟨y,u,rfl,rfl⟩
   ·rw [Zsr] at h; exact wpAny_eqBool_int h
   ·rw [Zti] at h; exact SeqAt.EqAt.int_str i t y u _ _ _ _ h
  ·rcases Zbq hv with ⟨j,u,rfl,rfl⟩ | ⟨y,u,rfl,rfl⟩
   ·rw [Zrv] at h; exact SeqAt.EqAt.str_int x t j u _ _ _ _ h
   ·rw [Zss] at h; exact wpAny_eqBool_str h
 «strs»:=fun k x t v h=>by
  rcases Zbq h with ⟨i,u,rfl,e⟩ | ⟨y,u,rfl,e⟩
  ·exact nomatch e
  ·injection e with e1 _
   subst e1
   cases v <;> rfl
theorem Zi7 (prog:Program) (w:World) (i:Int) (t:Tok):(mixKind prog w).is (.inl i) (.int i t)=true:=Zm3 i t
theorem Zi3 (prog:Program) (w:World) (x:Str) (t:Tok):(mixKind prog w).is (.inr x) (.str x t)=true:=Zk8 x t
end L2
namespace L2
open PySem PySem.Spec PyProof.Rows
inductive V where
 | non | bl (b:Bool) | int (i:Int) | str (x:Str) | byt (b:Array UInt8) | flt (b:UInt64) | ref (a:Addr) | ty (n:String)
 deriving DecidableEq
def RelV:V->Value->Prop
 | .non,u=>u=Value.none
 | .bl b,u=>u=Value.bool b
 | .int i,u=>∃ t,u=Value.int i t
 | .str x,u=>∃ t,u=Value.str x t
 | .byt b,u=>∃ t,u=Value.bytes b t
 | .flt b,u=>∃ t,u=Value.float b t
 | .ref a,u=>u=Value.ref a
 | .ty n,u=>u=Value.type n
abbrev Vals:List V->List Value->Prop:=Paired RelV
theorem Vals.length {xs:List V} {us:List Value} (r:Vals xs us):xs.length=us.length:=Paired.length r
theorem Vals.get:∀ {xs:List V} {us:List Value} {i:Nat} {x:V},Vals xs us->xs[i]? = some x->∃ u,us[i]? = some u/\RelV x u
 | _,_,_,_,.nil,e=>by simp at e
 | _,_,0,_,.cons r _,e=>by simp at e; subst e; exact ⟨_,rfl,r⟩
 | _,_,i + 1,x,.cons _ t,e=>by
  obtain ⟨u,h1,h2⟩:=Vals.get (i:=i) (x:=x) t (by simpa using e)
  exact ⟨u,by simpa using h1,h2⟩
theorem Vals.set {x:V} {u:Value} (r:RelV x u):∀ {xs:List V} {us:List Value} (i:Nat),Vals xs us->Vals (xs.set i x) (us.set i u)
 | _,_,_,.nil=>.nil
 | _,_,0,.cons _ t=>.cons r t
 | _,_,i + 1,.cons q t=>.cons q (Vals.set r i t)
theorem Vals.append:∀ {xs ys:List V} {us ws:List Value},Vals xs us->Vals ys ws->Vals (xs ++ ys) (us ++ ws)
 | _,_,_,_,.nil,s=>s
 | _,_,_,_,.cons r t,s=>.cons r (Vals.append t s)
theorem Vals.take:∀ {xs:List V} {us:List Value} (n:Nat),Vals xs us->Vals (xs.take n) (us.take n)
 | _,_,0,_=>.nil
 | _,_,_ + 1,.nil=>.nil
 | _,_,n + 1,.cons r t=>.cons r (Vals.take n t)
theorem Vals.drop:∀ {xs:List V} {us:List Value} (n:Nat),Vals xs us->Vals (xs.drop n) (us.drop n)
 | _,_,0,r=>r
 | _,_,_ + 1,.nil=>.nil
 | _,_,n + 1,.cons _ t=>Vals.drop n t
def RelO:Option V->Option Value->Prop
 | some v,some u=>RelV v u
 | none,none=>True
 | _,_=>False
def KV {κ:Type}:List (κ × V)->List (κ × Value)->Prop:=Paired fun (p:κ × V) (q:κ × Value)=>p.1=q.1/\RelV p.2 q.2
def kV:Key->V
 | .inl i=>.int i
 | .inr x=>.str x
inductive HO where
 /-- a list -/
 | lst (xs:List V)
 /-- a tuple (never changes) -/
 | tup (xs:List V)
 /-- a dict whose keys are ints and texts; one whose keys are tuples of ints and texts (the empty one is both) -/
 | dK (kvs:List (Key × V)) | dT (kvs:List (List Key × V))
 /-- a set of ints: its members,its size -/
 | set (S:Int->Bool) (n:Nat)
 /-- an instance of the class at C,its dict at dx,its attributes -/
 | ins (C dx:Addr) (fs:List (Str × V))
 /-- the dict of the instance at x -/
 | own (x:Addr)
 /-- the dict of an exception -/
 | xd (fs:List (Str × V))
 /-- a bound method,f of x -/
 | met (f x:Addr)
 /-- a range object lo,lo + 1,.. below hi -/
 | rng (lo hi:Int)
 /-- a thing that is known to the object (the script; a dict while a loop walks it): read,never written while it is so -/
 | frz (o:Obj) (u:HO)
 /-- a code object's table -/
 | tbl (ps:Array Value)
 /-- any other thing,by what is true of its one object (a def of one's own: SetO a S n:=HO.ext fun h=>..) -/
 | ext (φ:Heap->Prop)
abbrev Hp:=Addr->Option HO
def upd (H:Hp) (a:Addr) (o:HO):Hp:=fun b=>if b=a then some o else H b
theorem Zat {H:Hp} {a:Addr} {o:HO}:upd H a o a=some o:=by unfold upd; rw [if_pos rfl]
theorem Zao {H:Hp} {a b:Addr} {o:HO} (h:b ≠ a):upd H a o b=H b:=by unfold upd; rw [if_neg h]
theorem Zp6 {H:Hp} {a:Addr} {o u:HO}:upd (upd H a o) a u=upd H a u:=by
 funext b; unfold upd; split <;> rfl
theorem Ztx {H:Hp} {a b:Addr} {o u:HO} (h:H a=some o) (h':H b=some u) (d:o ≠ u):a ≠ b:=by
 intro e; subst e; rw [h] at h'; exact d (Option.some.inj h')
theorem Zaq {H:Hp} {a b:Addr} {o:HO} (h:H a=some o) (h':H b=none):a ≠ b:=by
 intro e; subst e; rw [h] at h'; cases h'
def IsTupN (h:Heap) (a:Addr) (its:Array Value):Prop:=∃ o,h.get? a=some o/\(o.cls=.type "tuple" /\ ∃ n,o.data=.seq its n)/\o.dict=none
theorem IsTupN.tup {h:Heap} {a:Addr} {its:Array Value} (x:IsTupN h a its):IsTup h a its:=let ⟨o,e,c,_⟩:=x; ⟨o,e,c⟩
theorem IsTupN.new (h:Heap) (items:Array Value):IsTupN (h.push { cls:=.type "tuple",data:=.seq items }) h.objs.size items:=⟨_,Heap.get?_push_size _ rfl,⟨rfl,_,rfl⟩,rfl⟩
section
variable (P:Program) (w:World)
def ObjOk (H:Hp) (h:Heap) (a:Addr):HO->Prop
 | .lst xs=>xs.length<=sizeLine/\∃ (its:List Value) (n:Nat),Vals xs its/\h.get? a=some { cls:=.type "list",data:=.seq its.toArray n }
 | .tup xs=>xs.length<=sizeLine/\∃ its:List Value,Vals xs its/\IsTupN h a its.toArray
 | .dK kvs=>kvs.length<=sizeLine/\(a == sysModules)=false/\∃ vs,KV kvs vs/\h.DictOf (mixKind P w) a vs
 | .dT kvs=>kvs.length<=sizeLine/\(a == sysModules)=false/\∃ xs:List (List Key × Addr × Value),
   Paired (fun (p:List Key × V) (q:List Key × Addr × Value)=>p.1=q.1/\H q.2.1=some (.tup (p.1.map kV))/\RelV p.2 q.2.2) kvs xs ∧
   ∃ o es ep,h.get? a=some o/\o.ExactDict/\o.data=.dict es ep/\es.toList=xs.map (entryOfKey (tupleKind (mixKind P w)))/\(xs.map (·.1)).Nodup
 | .set S n=>h.SetOf (intKind P w) a S n
 | .ins C dx fs=>H dx=some (.own a)/\fs.length<=1000/\dx ≠ a/\h.get? a=some (PySem.W.instObj C dx) ∧
   ∃ mA,h.Ns1 dx mA/\(∀ f,RelO (fs.lookup f) (mA f))/\PySem.Within mA (fs.map (·.1))
 | .own _=>∃ o,h.get? a=some o
 | .xd fs=>∃ mA,h.Ns1 a mA/\∀ f,RelO (fs.lookup f) (mA f)
 | .rng lo hi=>∃ t u v,h.get? a=some { cls:=.type "range",data:=.fields #[.int lo t,.int hi u,.int 1 v] }
 | .frz o u=>h.get? a=some o/\ObjOk H h a u
 | .tbl ps=>h.get? a=some { cls:=.none,data:=.fields ps }
 | .met f x=>h.get? a=some (PySem.W.methodObj (.ref f) (.ref x))
 | .ext φ=>φ h/\(∃ o,h.get? a=some o)/\∀ h1 h2:Heap,φ h1->(∀ o,h1.get? a=some o->h2.get? a=some o) -> φ h2
def HOk (H:Hp) (h:Heap):Prop:=∀ a o,H a=some o->ObjOk P w H h a o
end
section
variable {P:Program} {w:World} {H H':Hp} {h h':Heap} {a:Addr} {o:HO}
theorem ObjOk.lt (x:ObjOk P w H h a o):a < h.objs.size:=by
 cases o with
 | lst xs=>obtain ⟨_,_,_,_,e⟩:=x; exact Heap.lt_size e
 | tup xs=>obtain ⟨_,_,_,p⟩:=x; exact p.tup.lt
 | dK kvs=>obtain ⟨_,_,_,_,o,_,_,e,_⟩:=x; exact Heap.lt_size e
 | dT kvs=>obtain ⟨_,_,_,_,o,_,_,e,_⟩:=x; exact Heap.lt_size e
 | set S n=>obtain ⟨o,_,_,_,e,_⟩:=x; exact Heap.lt_size e
 | ins C dx fs=>obtain ⟨_,_,_,e,_⟩:=x; exact Heap.lt_size e
 | own y=>obtain ⟨_,e⟩:=x; exact Heap.lt_size e
 | xd fs=>obtain ⟨_,⟨_,_,_,e,_⟩,_⟩:=x; exact Heap.lt_size e
 | rng lo hi=>obtain ⟨_,_,_,e⟩:=x; exact Heap.lt_size e
 | frz ob u=>obtain ⟨e,_⟩:=x; exact Heap.lt_size e
 | tbl ps=>exact Heap.lt_size (show h.get? a=some _ from x)
 | met f y=>exact Heap.lt_size (show h.get? a=some _ from x)
 | ext φ=>obtain ⟨_,⟨_,e⟩,_⟩:=x; exact Heap.lt_size e
theorem Paired.mapP {α β:Type} {F G:α -> β -> Prop}:∀ {l₁:List α} {l₂:List β},Paired F l₁ l₂ -> (∀ a b,F a b->G a b)->Paired G l₁ l₂
 | _,_,.nil,_=>.nil
 | _,_,.cons r t,f=>.cons (f _ _ r) (Paired.mapP t f)
theorem ObjOk.stay (x:ObjOk P w H h a o) (k:∀ b u,(b=a\/H b=some (.own a))->h.get? b=some u->h'.get? b=some u)
  (ho:∀ b,H b=some (.own a)->H' b=some (.own a)) (ht:∀ b xs,H b=some (.tup xs)->H' b=some (.tup xs)):ObjOk P w H' h' a o:=by
 induction o with
 | lst xs=>obtain ⟨z,its,n,r,e⟩:=x; exact ⟨z,its,n,r,k _ _ (.inl rfl) e⟩
 | tup xs=>obtain ⟨z,its,r,ob,e,c⟩:=x; exact ⟨z,its,r,ob,k _ _ (.inl rfl) e,c⟩
 | dK kvs=>obtain ⟨z,y,vs,r,ob,es,ep,e,c⟩:=x; exact ⟨z,y,vs,r,ob,es,ep,k _ _ (.inl rfl) e,c⟩
 | dT kvs=>
  obtain ⟨z,y,xs,r,ob,es,ep,e,c⟩:=x
  exact ⟨z,y,xs,Paired.mapP r fun p q z=>⟨z.1,ht _ _ z.2.1,z.2.2⟩,ob,es,ep,k _ _ (.inl rfl) e,c⟩
 | set S n=>obtain ⟨ob,es,ep,t,e,c⟩:=x; exact ⟨ob,es,ep,t,k _ _ (.inl rfl) e,c⟩
 | ins C dx fs=>
  obtain ⟨d,z,ne,e,mA,⟨od,es,ep,e2,c⟩,r⟩:=x
  exact ⟨ho _ d,z,ne,k _ _ (.inl rfl) e,mA,⟨od,es,ep,k _ _ (.inr d) e2,c⟩,r⟩
 | own y=>obtain ⟨ob,e⟩:=x; exact ⟨ob,k _ _ (.inl rfl) e⟩
 | xd fs=>obtain ⟨mA,⟨od,es,ep,e,c⟩,r⟩:=x; exact ⟨mA,⟨od,es,ep,k _ _ (.inl rfl) e,c⟩,r⟩
 | rng lo hi=>obtain ⟨t,u,v,e⟩:=x; exact ⟨t,u,v,k _ _ (.inl rfl) e⟩
 | frz ob u ih=>obtain ⟨e,q⟩:=x; exact ⟨k _ _ (.inl rfl) e,ih q⟩
 | tbl ps=>
  have e:h.get? a=some { cls:=.none,data:=.fields ps }:=x
  show h'.get? a=some { cls:=.none,data:=.fields ps }
  exact k a _ (.inl rfl) e
 | met f y=>
  have e:h.get? a=some (PySem.W.methodObj (.ref f) (.ref y)):=x
  show h'.get? a=some (PySem.W.methodObj (.ref f) (.ref y))
  exact k a _ (.inl rfl) e
 | ext φ=>obtain ⟨p,⟨o,e⟩,st⟩:=x; exact ⟨st _ _ p fun o q=>k _ _ (.inl rfl) q,⟨o,k _ _ (.inl rfl) e⟩,st⟩
theorem HOk.lt (x:HOk P w H h) (e:H a=some o):a < h.objs.size:=(x a o e).lt
theorem HOk.fresh (x:HOk P w H h) (e:h.objs.size<=a):H a=none:=by
 cases q:H a with
 | none=>rfl
 | some u=>exact absurd (Nat.lt_of_lt_of_le (x.lt q) e) (Nat.lt_irrefl _)
theorem HOk.kept (x:HOk P w H h) (k:∀ b u,h.get? b=some u->h'.get? b=some u):HOk P w H h':=fun a o e=>
 (x a o e).stay (fun b u _ q=>k b u q) (fun _ q=>q) fun _ _ q=>q
theorem HOk.laid (x:HOk P w H h) (k:∀ b u,h.get? b=some u->h'.get? b=some u) (hp:h.objs.size<=a) (new:ObjOk P w (upd H a o) h' a o):HOk P w (upd H a o) h':=fun b u e=>by
 have hn:=x.fresh hp
 by_cases hb:b=a
 ·subst hb; rw [Zat] at e; cases e; exact new
 ·rw [Zao hb] at e
  exact (x b u e).stay (fun c v _ q=>k c v q) (fun c q=>by rw [Zao (Zaq q hn)]; exact q) fun c xs q=>by rw [Zao (Zaq q hn)]; exact q
end
def Rd (H:Hp) (a:Addr) (u:HO):Prop:=H a=some u\/∃ o,H a=some (.frz o u)
theorem Rd.ok {P:Program} {w:World} {H:Hp} {h:Heap} {a:Addr} {u:HO} (r:Rd H a u) (x:HOk P w H h):ObjOk P w H h a u:=by
 rcases r with r | ⟨o,r⟩
 ·exact x a u r
 ·obtain ⟨_,q⟩:=x a _ r
  exact q
def Mut:Option HO->Prop
 | some (.lst _)=>True
 | some (.dK _)=>True
 | some (.dT _)=>True
 | some (.set _ _)=>True
 | some (.ins _ _ _)=>True
 | some (.ext _)=>True
 | _=>False
section
variable {P:Program} {w:World} {H:Hp} {h h':Heap} {x e:Addr} {o':HO}
theorem HOk.write (ok:HOk P w H h) (mu:Mut (H x)) (he:e=x\/H e=some (.own x)) (k:∀ b u,b ≠ e->h.get? b=some u->h'.get? b=some u) (heo:∃ u,h'.get? e=some u)
  (new:ObjOk P w (upd H x o') h' x o'):HOk P w (upd H x o') h':=fun b u q=>by
 have nown:∀ c y,H c=some (.own y)->c ≠ x:=fun c y r z=>by subst z; rw [r] at mu; exact mu
 have ntup:∀ c xs,H c=some (.tup xs)->c ≠ x:=fun c xs r z=>by subst z; rw [r] at mu; exact mu
 by_cases hb:b=x
 ·subst hb; rw [Zat] at q; cases q; exact new
 ·rw [Zao hb] at q
  by_cases hbe:b=e
  ·have q':H b=some (.own x):=by
    rcases he with z | z
    ·exact absurd (hbe.trans z) hb
    ·rw [hbe]; exact z
   rw [q] at q'; cases q'
   obtain ⟨v,hv⟩:=heo
   exact ⟨v,by rw [hbe]; exact hv⟩
  ·refine (ok b u q).stay (fun c v hc r=>k c v ?_ r) (fun c r=>by rw [Zao (nown c b r)]; exact r) fun c xs r=>by rw [Zao (ntup c xs r)]; exact r
   rcases hc with rfl | hc
   ·exact hbe
   ·rintro rfl
    rcases he with z | z
    ·exact nown c b hc z
    ·rw [hc] at z; cases z; exact hb rfl
end
structure Un (fs ex:List Addr) (H H':Hp) (h h':Heap):Prop where
 keep:∀ b o,h.get? b=some o->H b=none->b ∉ fs->b ∉ ex->h'.get? b=some o
 slot:∀ b o,h.get? b=some o->H b=none->b ∈ fs->b ∉ ex->∃ sl,h'.get? b=some { o with slots:=sl }
 free:∀ b o,h.get? b=some o->H b=none->b ∉ ex->H' b=none
 there:∀ b o,h.get? b=some o->b ∉ ex->∃ o',h'.get? b=some o'
 tups:∀ b xs,H b=some (.tup xs)->H' b=some (.tup xs)
 frzs:∀ b o u,H b=some (.frz o u)->H' b=some (.frz o u)
 tbls:∀ b ps,H b=some (.tbl ps)->∃ more,H' b=some (.tbl (ps ++ more))
section
variable {fs fs' ex ex':List Addr} {H H1 H2:Hp} {h h1 h2 h':Heap} {a x e:Addr} {o:HO}
theorem Un.any (u:Un fs ex H H1 h h1) {b:Addr} {ob:Obj} (q:h.get? b=some ob) (n:H b=none) (hx:b ∉ ex):∃ sl,h1.get? b=some { ob with slots:=sl }:=by
 by_cases hb:b ∈ fs
 ·exact u.slot b ob q n hb hx
 ·exact ⟨ob.slots,u.keep b ob q n hb hx⟩
theorem Un.kept (k:∀ b u,h.get? b=some u->h'.get? b=some u):Un fs ex H H h h':=
 ⟨fun b ob q _ _ _=>k b ob q,fun b ob q _ _ _=>⟨ob.slots,k b ob q⟩,fun _ _ _ n _=>n,fun b ob q _=>⟨ob,k b ob q⟩,fun _ _ q=>q,fun _ _ _ q=>q,fun _ ps q=>⟨#[],by rw [q]; simp⟩⟩
theorem Un.refl:Un fs ex H H h h:=Un.kept fun _ _ q=>q
theorem Un.laid (k:∀ b u,h.get? b=some u->h'.get? b=some u) (hp:h.objs.size<=a) (hn:H a=none):Un fs ex H (upd H a o) h h' where
 keep:=fun b u q _ _ _=>k b u q
 slot:=fun b u q _ _ _=>⟨u.slots,k b u q⟩
 free:=fun b u q n _=>by rw [Zao (Nat.ne_of_lt (Nat.lt_of_lt_of_le (Heap.lt_size q) hp))]; exact n
 there:=fun b u q _=>⟨u,k b u q⟩
 tups:=fun b xs q=>by rw [Zao (Zaq q hn)]; exact q
 frzs:=fun b u xs q=>by rw [Zao (Zaq q hn)]; exact q
 tbls:=fun b ps q=>⟨#[],by rw [Zao (Zaq q hn),q]; simp⟩
theorem Un.write (mu:Mut (H x)) (he:e=x\/H e=some (.own x)) (k:∀ b u,b ≠ e->h.get? b=some u->h'.get? b=some u) (heo:∃ u,h'.get? e=some u):Un fs ex H (upd H x o) h h':=by
 have hx:∀ b,H b=none->b ≠ x:=fun b n z=>by subst z; rw [n] at mu; exact mu
 have hb:∀ b,H b=none->b ≠ e:=fun b n z=>by
  subst z
  rcases he with r | r
  ·exact hx b n r
  ·rw [n] at r; cases r
 have hm:∀ b u,H b=some u->¬ Mut (some u)->b ≠ x:=fun b u q nm z=>by subst z; rw [q] at mu; exact nm mu
 refine ⟨fun b u q n _ _=>k b u (hb b n) q,fun b u q n _ _=>⟨u.slots,k b u (hb b n) q⟩,fun b u q n _=>by rw [Zao (hx b n)]; exact n,fun b u q _=>?_,
  fun b xs q=>by rw [Zao (hm b _ q fun z=>z)]; exact q,fun b u xs q=>by rw [Zao (hm b _ q fun z=>z)]; exact q,fun b ps q=>⟨#[],by rw [Zao (hm b _ q fun z=>z),q]; simp⟩⟩
 by_cases hbe:b=e
 ·subst hbe; exact heo
 ·exact ⟨u,k b u hbe q⟩
end
def trk (h:Heap) (H:Hp):List Addr:=(List.range h.objs.size).filter fun a=>(H a).isSome
def hidT (h:Heap) (H:Hp):Heap:=PySem.W.hideAll h (trk h H)
theorem Znb (h:Heap) (H:Hp):(hidT h H).objs.size=h.objs.size:=PySem.W.hideAll_size _ _
theorem Zn4 {h:Heap} {H:Hp} {b:Addr} {o:Obj} (e:h.get? b=some o) (n:H b=none):(hidT h H).get? b=some o:=
 PySem.W.hideAll_get _ e fun hm=>by
  have q:(H b).isSome=true:=(List.mem_filter.mp hm).2
  rw [n] at q; simp at q
theorem Zpt {h:Heap} {H:Hp} {b:Addr} {o:Obj} (e:(hidT h H).get? b=some o):h.get? b=some o/\H b=none:=by
 have e':h.get? b=some o:=PySem.W.of_hideAll (trk h H) e
 refine ⟨e',?_⟩
 cases q:H b with
 | none=>rfl
 | some x=>
  have hm:b ∈ trk h H:=List.mem_filter.mpr ⟨List.mem_range.mpr (Heap.lt_size e'),by simp [q]⟩
  have z:(hidT h H).get? b=none:=PySem.W.hideAll_none (trk h H) hm
  rw [z] at e; cases e
def allNews (g h:Heap) (L:Addr):List (Addr × Obj):=(List.range h.objs.size).filterMap fun a=>if a=L\/(g.get? a).isSome=true then none else (h.get? a).map fun o=>(a,o)
def rest (g h:Heap) (L d:Addr):List (Addr × Obj):=(allNews g h L).filter fun p=>decide (p.1 ≠ d)
end L2
namespace L2
open PySem PySem.Spec PyProof.Rows
structure Mod (K:PySem.W.Frag) (mg:Str->Option Value) (base:Heap):Prop where
 kin:K.In base
 glob:base.Ns mainGlobals mg
 blt:∃ mb,base.Ns builtinsNs mb/\∀ x:Str,x ≠ "__name__" -> mb x=bootBuiltins x
 nolimit:base.NoLimit
structure Cx where
 prog:Program
 w:World
 K:PySem.W.Frag
 mg:Str->Option Value
 base:Heap
 A:Around
 N:List Str
 s₀:Shared
 H₀:Hp
 env:Env
 outer:List Env
 stack:List Env
 ex:List Addr
 fn:Str->Bool
 calm:Bool
 pn:List (Addr × Obj)
 xe:Value->Shared->Prop
def frs (l:List Env):List Addr:=l.filterMap (·.frame)
abbrev Cx.fs (X:Cx):List Addr:=frs X.outer
def Vis (sc:Scope) (x:Str):Prop:=sc.names.lookup x=some .local\/sc.names.lookup x=some .cell\/sc.names.lookup x=some .free
def Loc (sc:Scope) (x:Str):Prop:=sc.names.lookup x=some .local\/sc.names.lookup x=some .cell
def Look (env:Env) (h:Heap) (m:Str->Option Value) (x:Str) (u:Value):Prop:=
 (env.kindOf x=some .local/\m x=some u)\/((env.kindOf x=some .cell\/env.kindOf x=some .free)/\∃ c,env.cells.lookup x=some c/\h.IsCell c (some u))
structure Cx.Ok (X:Cx):Prop where
 mod:Mod X.K X.mg X.base
 kind:X.env.scope.kind=.function
 glob:X.env.globals=mainGlobals
 blt:X.env.builtins=builtinsNs
 above:X.s₀.heap.objs.size<=X.env.locals
 inj:∀ x y c,X.env.cells.lookup x=some c->X.env.cells.lookup y=some c->x=y
 has:∀ x,(X.env.kindOf x=some .cell\/X.env.kindOf x=some .free)->∃ c,X.env.cells.lookup x=some c
 cab:∀ x c,X.fn x=true->X.env.cells.lookup x=some c->X.s₀.heap.objs.size<=c
 hd:X.calm=true->X.A.handled=none
 frames:X.A.frames=some X.stack
 stk:X.stack=X.outer\/(X.stack=X.env :: X.outer/\X.env.frame=some X.env.locals)
 exf:∀ b ∈ X.ex,b ≠ X.env.locals/\∀ x c,X.env.cells.lookup x=some c->c ≠ b
 bs:∀ b o,X.base.get? b=some o->X.s₀.heap.get? b=some o/\X.H₀ b=none
 bsz:X.base.objs.size<=X.s₀.heap.objs.size
 noex:∀ b o,X.base.get? b=some o->b ∉ X.ex
 exfs:∀ b ∈ X.ex,b ∉ X.fs
 funs:X.s₀.heap.FunFrames X.base X.outer
 frf:∀ b ∈ X.fs,X.H₀ b=none
structure Inv (X:Cx) (pins:List (Addr × Obj)) (σ:List (Option V)) (H:Hp) (s:Shared):Prop where
 ok:X.Ok
 os:s.os=X.s₀.os
 bare:AllBare s.gens
 base:Un X.fs X.ex X.H₀ H X.s₀.heap s.heap
 loc:∃ m,s.heap.Ns X.env.locals m/\∀ (i:Nat) (x:Str) (v:V),X.N[i]? = some x -> σ[i]? = some (some v)->Vis X.env.scope x->∃ u,RelV v u/\Look X.env s.heap m x u
 cell:∀ x c,X.env.cells.lookup x=some c->∃ v,s.heap.IsCell c v
 free:H X.env.locals=none
 freeC:∀ x c,X.env.cells.lookup x=some c->H c=none
 pin:∀ p ∈ X.pn ++ pins,s.heap.get? p.1=some p.2/\H p.1=none/\p.1 ≠ X.env.locals/\p.1 ∉ X.fs/\∀ v,p.2.data ≠ .cell v
 hok:HOk X.prog X.w H s.heap
 len:σ.length=X.N.length
section
variable {X:Cx} {pins:List (Addr × Obj)} {σ:List (Option V)} {H H':Hp} {s:Shared} {h':Heap}
theorem Cx.Ok.nofr (ok:X.Ok) {b:Addr} {o:Obj} (e:X.base.get? b=some o):b ∉ X.fs:=fun hb=>by
 have:=(ok.funs.mem hb).1
 rw [e] at this; cases this
theorem Inv.bs (I:Inv X pins σ H s):∀ b o,X.base.get? b=some o->s.heap.get? b=some o/\H b=none:=fun b o e=>
 ⟨I.base.keep b o (I.ok.bs b o e).1 (I.ok.bs b o e).2 (I.ok.nofr e) (I.ok.noex b o e),I.base.free b o (I.ok.bs b o e).1 (I.ok.bs b o e).2 (I.ok.noex b o e)⟩
theorem Inv.bk (I:Inv X pins σ H s):∀ b o,X.base.get? b=some o->s.heap.get? b=some o:=fun b o e=>(I.bs b o e).1
theorem Inv.mod (I:Inv X pins σ H s):Mod X.K X.mg X.base:=I.ok.mod
theorem Inv.kIn (I:Inv X pins σ H s):X.K.In s.heap:=I.ok.mod.kin.keeps I.bk
theorem Inv.lt (I:Inv X pins σ H s):X.env.locals < s.heap.objs.size:=let ⟨_,hn,_⟩:=I.loc; hn.lt
theorem Inv.sz (I:Inv X pins σ H s):X.s₀.heap.objs.size<=s.heap.objs.size:=Nat.le_trans I.ok.above (Nat.le_of_lt I.lt)
theorem Inv.nofs (I:Inv X pins σ H s) {a:Addr} (h:s.heap.objs.size<=a):a ∉ X.fs:=fun hb=>by
 obtain ⟨_,o,ho,_⟩:=I.ok.funs.mem hb
 exact absurd (Nat.lt_of_lt_of_le (Heap.lt_size ho) (Nat.le_trans I.sz h)) (Nat.lt_irrefl _)
theorem Inv.cne (I:Inv X pins σ H s):∀ x c,X.env.cells.lookup x=some c->c ≠ X.env.locals:=fun x c e z=>by
 obtain ⟨v,o,ho,hd⟩:=I.cell x c e
 obtain ⟨m,⟨o',es,ep,ho',hd',_⟩,_⟩:=I.loc
 rw [z,ho'] at ho; cases ho; rw [hd'] at hd; cases hd
theorem Inv.funs (I:Inv X pins σ H s):s.heap.FunFrames X.base X.outer:=by
 have all:∀ (l:List Env),(∀ b ∈ frs l,b ∈ X.fs)->X.s₀.heap.FunFrames X.base l->s.heap.FunFrames X.base l:=by
  intro l
  induction l with
  | nil=>intro _ _; trivial
  | cons env r ih=>
   intro hs hl
   obtain ⟨hk,⟨L,o,hf,hn,ho,hd⟩,hr⟩:=hl
   have hL:L ∈ X.fs:=hs L (by unfold frs; rw [List.filterMap_cons,hf]; exact List.mem_cons_self)
   obtain ⟨sl,e⟩:=I.base.slot L o ho (I.ok.frf L hL) hL fun z=>I.ok.exfs L z hL
   exact ⟨hk,⟨L,_,hf,hn,e,hd⟩,ih (fun b hb=>hs b (by unfold frs; rw [List.filterMap_cons,hf]; exact List.mem_cons_of_mem _ hb)) hr⟩
 exact all X.outer (fun _ hb=>hb) I.ok.funs
theorem Inv.stack (I:Inv X pins σ H s):s.heap.FunFrames X.base X.stack:=by
 rcases I.ok.stk with e | ⟨e,hf⟩
 ·rw [e]; exact I.funs
 ·rw [e]
  obtain ⟨m,hn,_⟩:=I.loc
  refine .cons (by rw [I.ok.kind]; decide) hf hn ?_ I.funs
  exact Heap.get?_none_of_le (Nat.le_trans I.ok.bsz I.ok.above)
theorem Inv.stkSub (I:Inv X pins σ H s):∀ b ∈ frs X.stack,b ∈ X.env.locals :: X.fs:=fun b hb=>by
 rcases I.ok.stk with e | ⟨e,hf⟩
 ·rw [e] at hb; exact List.mem_cons_of_mem _ hb
 ·rw [e] at hb
  unfold frs at hb
  rw [List.filterMap_cons,hf] at hb
  exact hb
theorem Inv.stkFree (I:Inv X pins σ H s):∀ b ∈ frs X.stack,H b=none:=fun b hb=>by
 rcases List.mem_cons.mp (I.stkSub b hb) with e | hb
 ·rw [e]; exact I.free
 ·obtain ⟨_,o,ho,_⟩:=I.ok.funs.mem hb
  exact I.base.free b o ho (I.ok.frf b hb) fun z=>I.ok.exfs b z hb
theorem Inv.step {g':Array GenState} {t':Nat} {d':Drawn} {ch:List Addr} (I:Inv X pins σ H s)
  (hch:∀ b ∈ ch,(b ∈ X.ex\/X.s₀.heap.objs.size<=b)/\b ≠ X.env.locals/\(∀ x c,X.env.cells.lookup x=some c->c ≠ b)/\∀ p ∈ X.pn ++ pins,p.1 ≠ b)
  (keep:∀ b o,b ≠ X.env.locals->b ∉ X.fs->b ∉ ch->s.heap.get? b=some o->H b=none->h'.get? b=some o)
  (slot:∀ b o,b ≠ X.env.locals->b ∈ X.fs->b ∉ ch->s.heap.get? b=some o->H b=none->∃ sl,h'.get? b=some { o with slots:=sl }) (free:∀ b o,b ∉ ch->s.heap.get? b=some o->H b=none->H' b=none)
  (there:∀ b o,b ∉ ch->s.heap.get? b=some o->∃ o',h'.get? b=some o')
  (tups:∀ b xs,H b=some (.tup xs)->H' b=some (.tup xs)) (frzs:∀ b o u,H b=some (.frz o u)->H' b=some (.frz o u)) (tbls:∀ b ps,H b=some (.tbl ps)->∃ more,H' b=some (.tbl (ps ++ more)))
  (ns:∀ m,s.heap.Ns X.env.locals m->h'.Ns X.env.locals m) (hok:HOk X.prog X.w H' h') (hg:AllBare g') :
  Inv X pins σ H' { s with heap:=h',gens:=g',drawn:=d',toks:=t' }:=by
 have neL:∀ b o,X.s₀.heap.get? b=some o->b ≠ X.env.locals:=fun b o e=>Nat.ne_of_lt (Nat.lt_of_lt_of_le (Heap.lt_size e) I.ok.above)
 have neC:∀ b o,X.s₀.heap.get? b=some o->b ∉ X.ex->b ∉ ch:=fun b o e hx hb=>by
  rcases (hch b hb).1 with z | z
  ·exact hx z
  ·exact absurd (Nat.lt_of_lt_of_le (Heap.lt_size e) z) (Nat.lt_irrefl _)
 have cellK:∀ x c,X.env.cells.lookup x=some c->∀ v,s.heap.IsCell c v->h'.IsCell c v:=fun x c e v hq_=>by
  obtain ⟨o,ho,hd⟩:=hq_
  have nch:c ∉ ch:=fun z=>(hch c z).2.2.1 x c e rfl
  by_cases hc:c ∈ X.fs
  ·obtain ⟨sl,q⟩:=slot c o (I.cne x c e) hc nch ho (I.freeC x c e)
   exact ⟨_,q,hd⟩
  ·exact ⟨o,keep c o (I.cne x c e) hc nch ho (I.freeC x c e),hd⟩
 refine ⟨I.ok,I.os,hg,⟨fun b o e n hb hx=>?_,fun b o e n hb hx=>?_,fun b o e n hx=>?_,fun b o e hx=>?_,fun b xs e=>tups b xs (I.base.tups b xs e),fun b o xs e=>frzs b o xs (I.base.frzs b o xs e),fun b ps e=>?_⟩,?_,fun x c e=>?_,?_,fun x c e=>?_,fun p hp=>?_,hok,I.len⟩
 ·exact keep b o (neL b o e) hb (neC b o e hx) (I.base.keep b o e n hb hx) (I.base.free b o e n hx)
 ·obtain ⟨sl,e1⟩:=I.base.slot b o e n hb hx
  obtain ⟨sl',e2⟩:=slot b _ (neL b o e) hb (neC b o e hx) e1 (I.base.free b o e n hx)
  exact ⟨sl',e2⟩
 ·obtain ⟨o',e1⟩:=I.base.there b o e hx
  exact free b o' (neC b o e hx) e1 (I.base.free b o e n hx)
 ·obtain ⟨o',e1⟩:=I.base.there b o e hx
  exact there b o' (neC b o e hx) e1
 ·obtain ⟨m1,e1⟩:=I.base.tbls b ps e
  obtain ⟨m2,e2⟩:=tbls b _ e1
  exact ⟨m1 ++ m2,by rw [e2,Array.append_assoc]⟩
 ·obtain ⟨m,hn,hl⟩:=I.loc
  refine ⟨m,ns m hn,fun i x v e1 e2 e3=>?_⟩
  obtain ⟨u,r,l⟩:=hl i x v e1 e2 e3
  refine ⟨u,r,?_⟩
  rcases l with l | ⟨k,c,e,z⟩
  ·exact .inl l
  ·exact .inr ⟨k,c,e,cellK x c e _ z⟩
 ·obtain ⟨v,z⟩:=I.cell x c e
  exact ⟨v,cellK x c e v z⟩
 ·obtain ⟨m,⟨o,_,_,ho,_⟩,_⟩:=I.loc
  exact free _ o (fun z=>(hch _ z).2.1 rfl) ho I.free
 ·obtain ⟨v,o,ho,hd⟩:=I.cell x c e
  exact free c o (fun z=>(hch c z).2.2.1 x c e rfl) ho (I.freeC x c e)
 ·obtain ⟨e,n,ne,nf,d⟩:=I.pin p hp
  have nch:p.1 ∉ ch:=fun z=>(hch p.1 z).2.2.2 p hp rfl
  exact ⟨keep p.1 p.2 ne nf nch e n,free p.1 p.2 nch e n,ne,nf,d⟩
theorem Inv.un {t':Nat} (I:Inv X pins σ H s) (u:Un X.fs [] H H' s.heap h') (hok:HOk X.prog X.w H' h'):Inv X pins σ H' { s with heap:=h',toks:=t' }:=by
 obtain ⟨m,⟨o,es,ep,ho,r⟩,_⟩:=id I.loc
 obtain ⟨sl,hL⟩:=u.any ho I.free (by simp)
 exact I.step (g':=s.gens) (d':=s.drawn) (ch:=[]) (fun _ z=>nomatch z) (fun b o _ hb _ e n=>u.keep b o e n hb (by simp)) (fun b o _ hb _ e n=>u.slot b o e n hb (by simp)) (fun b o _ e n=>u.free b o e n (by simp)) (fun b o _ e=>u.there b o e (by simp)) u.tups u.frzs u.tbls (fun m' hm=>by
  obtain ⟨o',es',ep',ho',r'⟩:=hm
  rw [ho] at ho'; cases ho'
  exact ⟨_,es',ep',hL,r'⟩) hok I.bare
theorem Inv.call {g':Array GenState} {t':Nat} {d':Drawn} {ch:List Addr} (I:Inv X pins σ H s) (u:Un (frs X.stack) ch H H' s.heap h') (hok:HOk X.prog X.w H' h') (hg:AllBare g')
  (hch:∀ b ∈ ch,(b ∈ X.ex\/X.s₀.heap.objs.size<=b)/\b ≠ X.env.locals/\(∀ x c,X.env.cells.lookup x=some c->c ≠ b)/\∀ p ∈ X.pn ++ pins,p.1 ≠ b) :
  Inv X pins σ H' { s with heap:=h',gens:=g',drawn:=d',toks:=t' }:=by
 obtain ⟨m,⟨o,es,ep,ho,r⟩,_⟩:=id I.loc
 obtain ⟨sl,hL⟩:=u.any ho I.free fun z=>(hch _ z).2.1 rfl
 exact I.step (ch:=ch) hch (fun b o hL hb hc e n=>u.keep b o e n (fun z=>(List.mem_cons.mp (I.stkSub b z)).elim hL hb) hc) (fun b o _ _ hc e n=>u.any e n hc) (fun b o hc e n=>u.free b o e n hc) (fun b o hc e=>u.there b o e hc) u.tups u.frzs u.tbls (fun m' hm=>by
  obtain ⟨o',es',ep',ho',r'⟩:=hm
  rw [ho] at ho'; cases ho'
  exact ⟨_,es',ep',hL,r'⟩) hok hg
theorem Inv.turned {t':Nat} {it:Addr} (I:Inv X pins σ H s) (k:∀ b o,b ≠ it->s.heap.get? b=some o->h'.get? b=some o) (hn:H it=none) (hL:it ≠ X.env.locals)
  (h1:it ∈ X.ex\/X.s₀.heap.objs.size<=it) (h2:∀ x c,X.env.cells.lookup x=some c->c ≠ it) (h3:∀ p ∈ X.pn ++ pins,p.1 ≠ it):Inv X pins σ H { s with heap:=h',toks:=t' }:=by
 have nit:∀ b u,H b=some u->b ≠ it:=fun b u e z=>by rw [z,hn] at e; cases e
 refine I.step (g':=s.gens) (d':=s.drawn) (ch:=[it]) (fun b hb=>?_) (fun b o _ _ hc e _=>k b o (fun z=>hc (by simp [z])) e) (fun b o _ _ hc e _=>⟨o.slots,k b o (fun z=>hc (by simp [z])) e⟩) (fun _ _ _ _ n=>n)
  (fun b o hc e=>⟨o,k b o (fun z=>hc (by simp [z])) e⟩) (fun _ _ e=>e) (fun _ _ _ e=>e) (fun b ps e=>⟨#[],by rw [e]; simp⟩) (fun m hm=>?_) (fun b u e=>?_) I.bare
 ·have e:b=it:=by simpa using hb
  subst e
  exact ⟨h1,hL,h2,h3⟩
 ·obtain ⟨o,es,ep,ho,r⟩:=hm
  exact ⟨o,es,ep,k _ o (Ne.symm hL) ho,r⟩
 ·refine (I.hok b u e).stay (fun c v hc q=>k c v ?_ q) (fun _ q=>q) fun _ _ q=>q
  rcases hc with z | z
  ·rw [z]; exact nit b u e
  ·exact nit c _ z
theorem Inv.tok (I:Inv X pins σ H s) (t:Nat):Inv X pins σ H { s with toks:=t }:=I.un (h':=s.heap) (t':=t) Un.refl I.hok
theorem Inv.kept {t':Nat} (I:Inv X pins σ H s) (k:∀ b u,s.heap.get? b=some u->h'.get? b=some u):Inv X pins σ H { s with heap:=h',toks:=t' }:=I.un (Un.kept k) (I.hok.kept k)
theorem Inv.laid {a:Addr} {o:HO} {t':Nat} (I:Inv X pins σ H s) (k:∀ b u,s.heap.get? b=some u->h'.get? b=some u) (hp:s.heap.objs.size<=a) (new:ObjOk X.prog X.w (upd H a o) h' a o) :
  Inv X pins σ (upd H a o) { s with heap:=h',toks:=t' }:=I.un (Un.laid k hp (I.hok.fresh hp)) (I.hok.laid k hp new)
theorem Inv.write {x e:Addr} {o:HO} {t':Nat} (I:Inv X pins σ H s) (mu:Mut (H x)) (he:e=x\/H e=some (.own x)) (k:∀ b u,b ≠ e->s.heap.get? b=some u->h'.get? b=some u) (heo:∃ u,h'.get? e=some u)
  (new:ObjOk X.prog X.w (upd H x o) h' x o):Inv X pins σ (upd H x o) { s with heap:=h',toks:=t' }:=I.un (Un.write mu he k heo) (I.hok.write mu he k heo new)
theorem Inv.pins_of {pins':List (Addr × Obj)} (I:Inv X pins σ H s) (h:∀ p ∈ pins',s.heap.get? p.1=some p.2/\H p.1=none/\p.1 ≠ X.env.locals/\p.1 ∉ X.fs/\∀ v,p.2.data ≠ .cell v):Inv X pins' σ H s:=
 ⟨I.ok,I.os,I.bare,I.base,I.loc,I.cell,I.free,I.freeC,fun p hp=>(List.mem_append.mp hp).elim (fun z=>I.pin p (List.mem_append_left _ z)) (h p),I.hok,I.len⟩
theorem Zj2 {N:List Str} (hN:N.Nodup) {i j:Nat} {x:Str} (a:N[i]? = some x) (b:N[j]? = some x):i=j:=by
 obtain ⟨h1,e1⟩:=List.getElem?_eq_some_iff.mp a
 obtain ⟨h2,e2⟩:=List.getElem?_eq_some_iff.mp b
 exact (List.getElem_inj hN).mp (e1.trans e2.symm)
theorem Zgf {M:Model} {A:Around} {E:Value->Shared->Prop} {i:Nat} {x:Str} {v:V} {u:Value} {Q:Unit->Shared->Prop} (I:Inv X pins σ H s) (hN:X.N.Nodup) (hi:X.N[i]? = some x) (hx:Loc X.env.scope x) (r:RelV v u)
  (h:∀ s',Inv X pins (σ.set i (some v)) H s' -> (∃ a,Heap.SameBut a s.heap s'.heap/\(a=X.env.locals\/X.env.cells.lookup x=some a))->Q () s') (hf:X.fn x=true\/X.env.scope.names.lookup x=some .local:=by first | exact .inl rfl | exact .inr rfl | assumption):wpAny M A (storeName X.env x u) Q E s:=by
 obtain ⟨m,hn,hl⟩:=id I.loc
 have hcls:(X.env.scope.kind == .class || (X.env.scope.kind == .module && X.env.locals != X.env.globals))=false:=by rw [I.ok.kind]; rfl
 have hiσ:i < σ.length:=by rw [I.len]; exact (List.getElem?_eq_some_iff.mp hi).1
 have cne:=I.cne
 have tracked:∀ {a:Addr} {h':Heap},(∃ o,s.heap.get? a=some o/\H a=none)->Heap.SameBut a s.heap h' -> HOk X.prog X.w H h':=fun {a h'} ha hs b ob e=>by
  obtain ⟨_,_,hfree⟩:=ha
  refine (I.hok b ob e).stay (fun c w' hc q=>(hs.2 c ?_).trans q) (fun _ q=>q) fun _ _ q=>q
  rintro rfl
  rcases hc with rfl | hc
  ·rw [hfree] at e; cases e
  ·rw [hfree] at hc; cases hc
 rcases hx with hk | hk
 ·refine wpAny_storeName_local hk hn (fun h' hn' hs=>?_) hcls
  obtain ⟨oL,_,_,hoL,_⟩:=id hn
  refine h _ ⟨I.ok,I.os,I.bare,⟨fun b o e n hb hx=>?_,fun b o e n hb hx=>?_,I.base.free,fun b o e hx=>?_,I.base.tups,I.base.frzs,I.base.tbls⟩,⟨_,hn',fun j y v' e1 e2 e3=>?_⟩,fun y c e=>?_,I.free,I.freeC,fun p hp=>?_,tracked ⟨oL,hoL,I.free⟩ hs,by simpa using I.len⟩ ⟨_,hs,.inl rfl⟩
  ·exact (hs.2 b (Nat.ne_of_lt (Nat.lt_of_lt_of_le (Heap.lt_size e) I.ok.above))).trans (I.base.keep b o e n hb hx)
  ·obtain ⟨sl,e1⟩:=I.base.slot b o e n hb hx
   exact ⟨sl,(hs.2 b (Nat.ne_of_lt (Nat.lt_of_lt_of_le (Heap.lt_size e) I.ok.above))).trans e1⟩
  ·obtain ⟨o',e1⟩:=I.base.there b o e hx
   exact ⟨o',(hs.2 b (Nat.ne_of_lt (Nat.lt_of_lt_of_le (Heap.lt_size e) I.ok.above))).trans e1⟩
  ·by_cases hj:j=i
   ·subst hj
    rw [hi] at e1; cases e1
    rw [List.getElem?_set_self hiσ] at e2
    cases e2
    exact ⟨u,r,.inl ⟨hk,by simp⟩⟩
   ·rw [List.getElem?_set_ne (Ne.symm hj)] at e2
    obtain ⟨u',r',q⟩:=hl j y v' e1 e2 e3
    refine ⟨u',r',?_⟩
    rcases q with ⟨k,e⟩ | ⟨k,c,e,z⟩
    ·refine .inl ⟨k,?_⟩
     have:y ≠ x:=fun e=>hj (Zj2 hN e1 (e ▸ hi))
     simp [this,e]
    ·exact .inr ⟨k,c,e,z.sameBut hs (cne y c e)⟩
  ·obtain ⟨w',z⟩:=I.cell y c e
   exact ⟨w',z.sameBut hs (cne y c e)⟩
  ·obtain ⟨e,n,ne,nf,d⟩:=I.pin p hp
   exact ⟨(hs.2 p.1 ne).trans e,n,ne,nf,d⟩
 ·have hfn:X.fn x=true:=by
   rcases hf with z | z
   ·exact z
   ·rw [z] at hk; cases hk
  obtain ⟨c,hc⟩:=I.ok.has x (.inl hk)
  obtain ⟨w',z⟩:=I.cell x c hc
  refine wpAny_storeName_cell I.ok.kind hk hc z (fun h' hc' hs=>?_)
  obtain ⟨oc,hoc,hocd⟩:=id z
  refine h { s with heap:=h' } ⟨I.ok,I.os,I.bare,⟨fun b o e n hb hx=>?_,fun b o e n hb hx=>?_,I.base.free,fun b o e hx=>?_,I.base.tups,I.base.frzs,I.base.tbls⟩,⟨m,hn.sameBut hs (Ne.symm (cne x c hc)),fun j y v' e1 e2 e3=>?_⟩,fun y c' e=>?_,I.free,I.freeC,fun p hp=>?_,tracked ⟨oc,hoc,I.freeC x c hc⟩ hs,by simpa using I.len⟩ ⟨c,hs,.inr hc⟩
  ·exact (hs.2 b (Nat.ne_of_lt (Nat.lt_of_lt_of_le (Heap.lt_size e) (I.ok.cab x c hfn hc)))).trans (I.base.keep b o e n hb hx)
  ·obtain ⟨sl,e1⟩:=I.base.slot b o e n hb hx
   exact ⟨sl,(hs.2 b (Nat.ne_of_lt (Nat.lt_of_lt_of_le (Heap.lt_size e) (I.ok.cab x c hfn hc)))).trans e1⟩
  ·obtain ⟨o',e1⟩:=I.base.there b o e hx
   exact ⟨o',(hs.2 b (Nat.ne_of_lt (Nat.lt_of_lt_of_le (Heap.lt_size e) (I.ok.cab x c hfn hc)))).trans e1⟩
  ·by_cases hj:j=i
   ·subst hj
    rw [hi] at e1; cases e1
    rw [List.getElem?_set_self hiσ] at e2
    cases e2
    exact ⟨u,r,.inr ⟨.inl hk,c,hc,hc'⟩⟩
   ·rw [List.getElem?_set_ne (Ne.symm hj)] at e2
    obtain ⟨u',r',q⟩:=hl j y v' e1 e2 e3
    refine ⟨u',r',?_⟩
    rcases q with q | ⟨k,c',e,z'⟩
    ·exact .inl q
    ·refine .inr ⟨k,c',e,z'.sameBut hs ?_⟩
     rintro rfl
     exact hj (Zj2 hN e1 (I.ok.inj _ _ _ e hc ▸ hi))
  ·by_cases hcc:c' = c
   ·subst hcc; exact ⟨_,hc'⟩
   ·obtain ⟨w2,z2⟩:=I.cell y c' e
    exact ⟨w2,z2.sameBut hs hcc⟩
  ·obtain ⟨e,n,ne,nf,d⟩:=I.pin p hp
   refine ⟨(hs.2 p.1 ?_).trans e,n,ne,nf,d⟩
   intro q
   rw [q,hoc] at e
   have q':oc=p.2:=Option.some.inj e
   exact d w' (by rw [<- q']; exact hocd)
theorem Zfc {M:Model} {A:Around} {E:Value->Shared->Prop} {i:Nat} {x:Str} {v:V} {u:Value} {Q:Unit->Shared->Prop} (I:Inv X pins σ H s) (hN:X.N.Nodup) (hi:X.N[i]? = some x) (hx:Loc X.env.scope x) (r:RelV v u)
  (h:∀ s',Inv X pins (σ.set i (some v)) H s' -> Q () s') (hf:X.fn x=true\/X.env.scope.names.lookup x=some .local:=by first | exact .inl rfl | exact .inr rfl | assumption):wpAny M A (storeName X.env x u) Q E s:=
 Zgf I hN hi hx r (fun s' I' _=>h s' I') hf
theorem Inv.call' {s':Shared} {ch:List Addr} (I:Inv X pins σ H s) (ho:s'.os=s.os) (u:Un (frs X.stack) ch H H' s.heap s'.heap) (hok:HOk X.prog X.w H' s'.heap) (hg:AllBare s'.gens)
  (hch:∀ b ∈ ch,(b ∈ X.ex\/X.s₀.heap.objs.size<=b)/\b ≠ X.env.locals/\(∀ x c,X.env.cells.lookup x=some c->c ≠ b)/\∀ p ∈ X.pn ++ pins,p.1 ≠ b):Inv X pins σ H' s':=by
 obtain ⟨h',g',d',t',o'⟩:=s'
 have e:o' = s.os:=ho
 subst e
 exact I.call (g':=g') (t':=t') (d':=d') u hok hg hch
end
abbrev XK:=Value->Option Addr->Hp->Prop
abbrev St:=List (Option V)
abbrev VK:=V->Hp->Prop
abbrev TE:=St->Hp->VK->Prop
abbrev TT:=St->Hp->(Bool->Hp->Prop)->Prop
abbrev TA:=St->Hp->(List V->Hp->Prop)->Prop
structure Ends where
 nx:St->Hp->Prop
 rt:VK
 bk:St->Hp->Prop:=fun _ _=>False
 ct:St->Hp->Prop:=fun _ _=>False
abbrev TS:=Ends->St->Hp->Prop
def EP (X:Cx) (pins:List (Addr × Obj)) (σ:St) (Q:VK) (u:Value) (s':Shared):Prop:=∃ v H',Inv X pins σ H' s' /\ RelV v u/\Q v H'
def TP (X:Cx) (pins:List (Addr × Obj)) (σ:St) (Q:Bool->Hp->Prop) (b:Bool) (s':Shared):Prop:=∃ H',Inv X pins σ H' s' /\ Q b H'
def AP (X:Cx) (pins:List (Addr × Obj)) (σ:St) (Q:List V->Hp->Prop) (us:List Value) (s':Shared):Prop:=∃ vs H',Inv X pins σ H' s' /\ Vals vs us/\Q vs H'
def SP (X:Cx) (pins:List (Addr × Obj)) (D:Ends) (f:Flow) (s':Shared):Prop:=
 match f with
 | .next=>∃ σ' H',Inv X pins σ' H' s' /\ D.nx σ' H'
 | .brk=>∃ σ' H',Inv X pins σ' H' s' /\ D.bk σ' H'
 | .cont=>∃ σ' H',Inv X pins σ' H' s' /\ D.ct σ' H'
 | .ret u=>∃ v σ' H',Inv X pins σ' H' s' /\ RelV v u/\D.rt v H'
def PE (X:Cx) (e:Expr) (t:TE):Prop:=
 ∀ (pins:List (Addr × Obj)) (s:Shared) (σ:St) (H:Hp) (Q:VK),Inv X pins σ H s->t σ H Q->wpAny (model X.prog X.w) X.A (eval e X.env) (EP X pins σ Q) X.xe s
def PT (X:Cx) (e:Expr) (t:TT):Prop:=
 ∀ (pins:List (Addr × Obj)) (s:Shared) (σ:St) (H:Hp) (Q:Bool->Hp->Prop),Inv X pins σ H s->t σ H Q->wpAny (model X.prog X.w) X.A (isTrue e X.env (eval e X.env)) (TP X pins σ Q) X.xe s
def PW (X:Cx) (e:Expr) (t:TT):Prop:=
 ∀ (whole:Sem Value) (pins:List (Addr × Obj)) (s:Shared) (σ:St) (H:Hp) (Q:Bool->Hp->Prop),Inv X pins σ H s->t σ H Q->wpAny (model X.prog X.w) X.A (isTrue e X.env whole) (TP X pins σ Q) X.xe s
theorem PW.pt {X:Cx} {e:Expr} {t:TT} (h:PW X e t):PT X e t:=h _
def PA (X:Cx) (es:List Expr) (t:TA):Prop:=
 ∀ (pos:Pos) (pins:List (Addr × Obj)) (s:Shared) (σ:St) (H:Hp) (Q:List V->Hp->Prop),Inv X pins σ H s->t σ H Q->wpAny (model X.prog X.w) X.A (spliced (backTo pos (starEach es X.env))) (AP X pins σ Q) X.xe s
def PS (X:Cx) (st:Stmt) (t:TS):Prop:=
 ∀ (pins:List (Addr × Obj)) (s:Shared) (σ:St) (H:Hp) (D:Ends),Inv X pins σ H s->t D σ H->wpAny (model X.prog X.w) X.A (exec st X.env) (SP X pins D) X.xe s
def PSs (X:Cx) (st:List Stmt) (t:TS):Prop:=
 ∀ (pins:List (Addr × Obj)) (s:Shared) (σ:St) (H:Hp) (D:Ends),Inv X pins σ H s->t D σ H->wpAny (model X.prog X.w) X.A (execs st X.env) (SP X pins D) X.xe s
theorem thn {α:Type} {t:Sem α} {Q Q':α -> Shared->Prop} {M:Model} {A:Around} {E:Value->Shared->Prop} {s:Shared} (h:wpAny M A t Q E s) (hQ:∀ a s,Q a s->Q' a s):wpAny M A t Q' E s:=wpAny_mono h hQ fun _ _ x=>x
end L2
namespace L2
open PySem PySem.Spec PyProof.Rows
section
variable {X:Cx}
def tVar (i:Nat):TE:=fun σ H Q=>∃ v,σ[i]? = some (some v)/\Q v H
def tC (v:V):TE:=fun _ H Q=>Q v H
theorem Zsw {i:Nat} {x:Str} {pos:Pos} (hN:X.N[i]? = some x) (hv:Vis X.env.scope x) (hd:(x == ("__debug__":Str))=false:=by decide) (hcd:(x == ("__classdict__":Str))=false:=by decide):PE X (.Name x pos) (tVar i):=by
 intro pins s σ H Q I h
 obtain ⟨v,e,h⟩:=h
 obtain ⟨m,hn,hl⟩:=I.loc
 obtain ⟨u,r,l⟩:=hl i x v hN e hv
 have fin:EP X pins σ Q u s:=⟨v,H,I,r,h⟩
 rcases l with ⟨hk,hm⟩ | ⟨hk,c,hc,hcell⟩
 ·exact wpAny_Name (wpAny_loadName_local I.ok.kind hk hn hm fin) hd
 ·rcases hk with hk | hk
  ·exact wpAny_Name (wpAny_loadName_cell I.ok.kind hk hc hcell fin) hd
  ·exact wpAny_Name (wpAny_loadName_free I.ok.kind hk hc hcell fin hcd) hd
theorem Zae {i j pos}:PE X (.Constant (.int i) j pos) (tC (.int i)):=fun _ _ _ H _ I h=>wpAny_Constant_int ⟨.int i,H,I.tok _,⟨_,rfl⟩,h⟩
theorem Zc6 {b j pos}:PE X (.Constant (.bool b) j pos) (tC (.bl b)):=fun _ _ _ H _ I h=>Constant_bool ⟨.bl b,H,I,rfl,h⟩
theorem Zgr {j pos}:PE X (.Constant .none j pos) (tC .non):=fun _ _ _ H _ I h=>Constant_none ⟨.non,H,I,rfl,h⟩
theorem Zrq {x j pos}:PE X (.Constant (.str x) j pos) (tC (.str x)):=fun _ _ _ H _ I h=>Calls.Constant_str ⟨.str x,H,I.tok _,⟨_,rfl⟩,h⟩
def Gl (X:Cx) (x:Str):Prop:=X.env.kindOf x=some .globalImplicit
theorem Zpw {E:Value->Shared->Prop} {pins:List (Addr × Obj)} {s:Shared} {σ:St} {H:Hp} {x:Str} {u:Value} {pos:Pos} {Q:Value->Shared->Prop} (I:Inv X pins σ H s) (hg:Gl X x) (hm:X.mg x=some u) (h:Q u s)
  (hd:(x == ("__debug__":Str))=false:=by decide):wpAny (model X.prog X.w) X.A (eval (.Name x pos) X.env) Q E s:=
 Calls.Name_function_global I.ok.kind hg (Calls.loadGlobal_global (by rw [I.ok.glob]; exact I.mod.glob.keeps I.bk) hm h) hd
theorem Zd1 {E:Value->Shared->Prop} {pins:List (Addr × Obj)} {s:Shared} {σ:St} {H:Hp} {x:Str} {u:Value} {pos:Pos} {Q:Value->Shared->Prop} (I:Inv X pins σ H s) (hg:Gl X x) (hm:X.mg x=none) (hv:bootBuiltins x=some u) (h:Q u s)
  (hn:x ≠ "__name__":=by decide) (hd:(x == ("__debug__":Str))=false:=by decide):wpAny (model X.prog X.w) X.A (eval (.Name x pos) X.env) Q E s:=by
 obtain ⟨mb,h1,h2⟩:=I.mod.blt
 exact Calls.Name_function_global I.ok.kind hg (Calls.loadGlobal_builtin (by rw [I.ok.glob]; exact I.mod.glob.keeps I.bk) hm (by rw [I.ok.blt]; exact h1.keeps I.bk) ((h2 x hn).trans hv) h) hd
theorem Zc5 {x:Str} {v:V} {u:Value} {pos:Pos} (hg:Gl X x) (hm:X.mg x=none) (hv:bootBuiltins x=some u) (r:RelV v u) (hn:x ≠ "__name__":=by decide) (hd:(x == ("__debug__":Str))=false:=by decide):PE X (.Name x pos) (tC v):=
 fun _ _ _ H _ I h=>Zd1 I hg hm hv ⟨v,H,I,r,h⟩ hn hd
variable {a b:Expr} {ta tb:TE} {pos:Pos}
variable {tA tB':TT} {rest:List Expr}
def tAnd (t u:TT):TT:=fun σ H Q=>t σ H fun c H1=>if c=true then u σ H1 Q else Q false H1
def tOr (t u:TT):TT:=fun σ H Q=>t σ H fun c H1=>if c=true then Q true H1 else u σ H1 Q
def tNot (t:TT):TT:=fun σ H Q=>t σ H fun c H1=>Q (!c) H1
theorem pw_and1 (ha:PT X a tA):PW X (.BoolOp .And [a] pos) tA:=by
 intro wh pins s σ H Q I h
 refine isTrue_and (thn (ha pins s σ H Q I h) fun c s1 e=>?_)
 cases c with
 | true=>exact isTrue_and_nil e
 | false=>exact e
theorem pw_or1 (ha:PT X a tA):PW X (.BoolOp .Or [a] pos) tA:=by
 intro wh pins s σ H Q I h
 refine isTrue_or (thn (ha pins s σ H Q I h) fun c s1 e=>?_)
 cases c with
 | false=>exact isTrue_or_nil e
 | true=>exact e
theorem pw_and (ha:PT X a tA) (hb:PW X (.BoolOp .And (b :: rest) pos) tB'):PW X (.BoolOp .And (a :: b :: rest) pos) (tAnd tA tB'):=by
 intro wh pins s σ H Q I h
 refine isTrue_and (thn (ha pins s σ H _ I h) fun c s1 ⟨H1,I1,q1⟩=>?_)
 cases c with
 | true=>exact hb wh pins s1 σ H1 Q I1 q1
 | false=>exact ⟨H1,I1,q1⟩
theorem pw_or (ha:PT X a tA) (hb:PW X (.BoolOp .Or (b :: rest) pos) tB'):PW X (.BoolOp .Or (a :: b :: rest) pos) (tOr tA tB'):=by
 intro wh pins s σ H Q I h
 refine isTrue_or (thn (ha pins s σ H _ I h) fun c s1 ⟨H1,I1,q1⟩=>?_)
 cases c with
 | true=>exact ⟨H1,I1,q1⟩
 | false=>exact hb wh pins s1 σ H1 Q I1 q1
theorem Zd7 (ha:PT X a tA):PT X (.UnaryOp .Not a pos) (tNot tA):=by
 intro pins s σ H Q I h
 exact isTrue_not (ha pins s σ H (fun c H1=>Q (!c) H1) I h)
def tAndV (ta tb:TE):TE:=fun σ H Q=>ta σ H fun x H1=>∃ c,x=.bl c/\if c=true then tb σ H1 Q else Q (.bl false) H1
def tOrV (ta tb:TE):TE:=fun σ H Q=>ta σ H fun x H1=>∃ c,x=.bl c/\if c=true then Q (.bl true) H1 else tb σ H1 Q
def tNotV (ta:TE):TE:=fun σ H Q=>ta σ H fun x H1=>∃ c,x=.bl c/\Q (.bl (!c)) H1
theorem Zhy {op} {t:TE} (h:PE X a t):PE X (.BoolOp op [a] pos) t:=fun pins s σ H Q I hw=>BoolOp_one (h pins s σ H Q I hw)
theorem Zh5 (ha:PE X a ta) (hb:PE X (.BoolOp .And (b :: rest) pos) tb):PE X (.BoolOp .And (a :: b :: rest) pos) (tAndV ta tb):=by
 intro pins s σ H Q I h
 refine BoolOp_and (thn (ha pins s σ H _ I h) fun v s1 ⟨x,H1,I1,r1,q1⟩=>?_)
 obtain ⟨c,rfl,q1⟩:=q1
 cases r1
 refine wpAny_truthy_bool ?_
 cases c with
 | true=>exact hb pins s1 σ H1 Q I1 q1
 | false=>exact ⟨.bl false,H1,I1,rfl,q1⟩
theorem Zox (ha:PE X a ta):PE X (.UnaryOp .Not a pos) (tNotV ta):=by
 intro pins s σ H Q I h
 refine UnaryOp_ (thn (ha pins s σ H _ I h) fun v s1 ⟨x,H1,I1,r1,q1⟩=>?_)
 obtain ⟨c,rfl,q1⟩:=q1
 cases r1
 exact not_of (wpAny_truthy_bool ⟨.bl (!c),H1,I1,rfl,q1⟩)
def tIf (t:TT) (ta tb:TE):TE:=fun σ H Q=>t σ H fun c H1=>if c=true then ta σ H1 Q else tb σ H1 Q
theorem Zjv {c:Expr} (hc:PT X c tA) (ha:PE X a ta) (hb:PE X b tb):PE X (.IfExp c a b pos) (tIf tA ta tb):=by
 intro pins s σ H Q I h
 refine wpAny_IfExp (thn (hc pins s σ H _ I h) fun d s1 ⟨H1,I1,q1⟩=>?_)
 cases d with
 | true=>exact ha pins s1 σ H1 Q I1 q1
 | false=>exact hb pins s1 σ H1 Q I1 q1
end
end L2
namespace L2
open PySem PySem.Spec PyProof.Rows
def SqL (K:PySem.W.Frag) (H:Hp) (a:Addr) (xs:List V):Prop:=
 Rd H a (.lst xs) ∨
  ∃ (o:Obj) (its:Array Value) (n:Nat),K.lookup a=some o/\o.cls=.type "list" /\ o.dict=none/\o.data=.seq its n/\its.size<=sizeLine/\Vals xs its.toList
def SqT (K:PySem.W.Frag) (H:Hp) (a:Addr) (xs:List V):Prop:=
 Rd H a (.tup xs) ∨
  ∃ (o:Obj) (its:Array Value) (n:Nat),K.lookup a=some o/\o.cls=.type "tuple" /\ o.data=.seq its n/\its.size<=sizeLine/\Vals xs its.toList
def absV:Value->Option V
 | .none=>some .non
 | .bool b=>some (.bl b)
 | .int i _=>some (.int i)
 | .str x _=>some (.str x)
 | .bytes b _=>some (.byt b)
 | .float b _=>some (.flt b)
 | .ref a=>some (.ref a)
 | .type n=>some (.ty n)
 | _=>none
theorem RelV.abs {x:V} {u:Value} (r:RelV x u):absV u=some x:=by
 cases x with
 | non=>cases r; rfl
 | bl _=>cases r; rfl
 | int _=>obtain ⟨t,rfl⟩:=r; rfl
 | str _=>obtain ⟨t,rfl⟩:=r; rfl
 | byt _=>obtain ⟨t,rfl⟩:=r; rfl
 | flt _=>obtain ⟨t,rfl⟩:=r; rfl
 | ref _=>cases r; rfl
 | ty _=>cases r; rfl
theorem RelV.inj {x y:V} {u:Value} (r:RelV x u) (q:RelV y u):x=y:=Option.some.inj (r.abs.symm.trans q.abs)
theorem Vals.inj:∀ {xs ys:List V} {us:List Value},Vals xs us->Vals ys us->xs=ys
 | _,_,_,.nil,.nil=>rfl
 | _,_,_,.cons r t,.cons r' t'=>by rw [r.inj r',Vals.inj t t']
section
variable {X:Cx} {pins:List (Addr × Obj)} {σ:St} {H:Hp} {s:Shared} {a:Addr} {xs ys:List V}
theorem SqL.of {K:PySem.W.Frag} (h:H a=some (.lst xs)):SqL K H a xs:=.inl (.inl h)
theorem SqT.of {K:PySem.W.Frag} (h:H a=some (.tup xs)):SqT K H a xs:=.inl (.inl h)
theorem Inv.list (I:Inv X pins σ H s) (h:SqL X.K H a xs):∃ its:List Value,Vals xs its/\PlainL s.heap a its.toArray/\xs.length<=sizeLine:=by
 rcases h with h | ⟨o,its,n,hk,hc,hd,hs,hz,r⟩
 ·obtain ⟨z,its,n,r,e⟩:=h.ok I.hok
  exact ⟨its,r,⟨_,n,e,rfl,rfl,rfl⟩,z⟩
 ·refine ⟨its.toList,r,⟨o,n,I.kIn a o hk,hc,hd,by simpa using hs⟩,?_⟩
  have e:=r.length
  simp only [Array.length_toList] at e
  omega
theorem Inv.tuple (I:Inv X pins σ H s) (h:SqT X.K H a xs):∃ its:List Value,Vals xs its/\IsTup s.heap a its.toArray/\xs.length<=sizeLine:=by
 rcases h with h | ⟨o,its,n,hk,hc,hs,hz,r⟩
 ·obtain ⟨z,its,r,p⟩:=h.ok I.hok
  exact ⟨its,r,p.tup,z⟩
 ·refine ⟨its.toList,r,⟨o,I.kIn a o hk,hc,n,by simpa using hs⟩,?_⟩
  have e:=r.length
  simp only [Array.length_toList] at e
  omega
theorem Inv.list_inj (I:Inv X pins σ H s) (h:SqL X.K H a xs) (h':SqL X.K H a ys):xs=ys:=by
 obtain ⟨its,r,⟨o,n,e,_,_,d⟩,_⟩:=I.list h
 obtain ⟨its',r',⟨o',n',e',_,_,d'⟩,_⟩:=I.list h'
 rw [e] at e'; cases e'
 rw [d] at d'
 injection d' with d1 _
 have:its=its':=by simpa using congrArg Array.toList d1
 subst this
 exact r.inj r'
theorem Inv.tuple_inj (I:Inv X pins σ H s) (h:SqT X.K H a xs) (h':SqT X.K H a ys):xs=ys:=by
 obtain ⟨its,r,⟨o,e,_,n,d⟩,_⟩:=I.tuple h
 obtain ⟨its',r',⟨o',e',_,n',d'⟩,_⟩:=I.tuple h'
 rw [e] at e'; cases e'
 rw [d] at d'
 injection d' with d1 _
 have:its=its':=by simpa using congrArg Array.toList d1
 subst this
 exact r.inj r'
end
abbrev Cx.wish (X:Cx) (E:Value->Shared->Prop):Cx:={ X with xe:=E }
abbrev Cx.nox (X:Cx):Cx:=X.wish fun _ _=>False
theorem Cx.Ok.wish {X:Cx} (ok:X.Ok) (E:Value->Shared->Prop):(X.wish E).Ok:=
 ⟨ok.mod,ok.kind,ok.glob,ok.blt,ok.above,ok.inj,ok.has,ok.cab,ok.hd,ok.frames,ok.stk,ok.exf,ok.bs,ok.bsz,ok.noex,ok.exfs,ok.funs,ok.frf⟩
theorem Cx.Ok.unwish {X:Cx} {E:Value->Shared->Prop} (ok:(X.wish E).Ok):X.Ok:=
 ⟨ok.mod,ok.kind,ok.glob,ok.blt,ok.above,ok.inj,ok.has,ok.cab,ok.hd,ok.frames,ok.stk,ok.exf,ok.bs,ok.bsz,ok.noex,ok.exfs,ok.funs,ok.frf⟩
section
variable {X:Cx} {pins:List (Addr × Obj)} {σ:St} {H:Hp} {s:Shared} {E:Value->Shared->Prop}
theorem Inv.wish (I:Inv X pins σ H s) (E:Value->Shared->Prop):Inv (X.wish E) pins σ H s:=⟨I.ok.wish E,I.os,I.bare,I.base,I.loc,I.cell,I.free,I.freeC,I.pin,I.hok,I.len⟩
theorem Inv.unwish (I:Inv (X.wish E) pins σ H s):Inv X pins σ H s:=⟨I.ok.unwish,I.os,I.bare,I.base,I.loc,I.cell,I.free,I.freeC,I.pin,I.hok,I.len⟩
theorem SP.unwish {D:Ends} {f:Flow} {s':Shared} (h:SP (X.wish E) pins D f s'):SP X pins D f s':=by
 cases f with
 | next=>obtain ⟨σ',H',I,q⟩:=h; exact ⟨σ',H',I.unwish,q⟩
 | brk=>obtain ⟨σ',H',I,q⟩:=h; exact ⟨σ',H',I.unwish,q⟩
 | cont=>obtain ⟨σ',H',I,q⟩:=h; exact ⟨σ',H',I.unwish,q⟩
 | ret u=>obtain ⟨v,σ',H',I,r,q⟩:=h; exact ⟨v,σ',H',I.unwish,r,q⟩
theorem PSs.nox {st:List Stmt} {t:TS} (h:PSs X.nox st t):PSs X st t:=fun pins s σ H D I hw=>
 wpAny_mono (h pins s σ H D (I.wish _) hw) (fun _ _ q=>q.unwish) fun _ _ z=>False.elim z
end
section
variable {X:Cx} {st:Stmt} {rest:List Stmt} {t u:TS} {e:Expr} {te:TE} {pos:Pos}
def tNext:TS:=fun D σ H=>D.nx σ H
def tSeq (t u:TS):TS:=fun D σ H=>t { D with nx:=u D } σ H
theorem Za8:PSs X [] tNext:=fun _ _ σ H _ I h=>wpAny_execs_nil ⟨σ,H,I,h⟩
theorem Zaf (h1:PS X st t) (h2:PSs X rest u):PSs X (st :: rest) (tSeq t u):=by
 intro pins s σ H D I h
 refine wpAny_execs_cons (thn (h1 pins s σ H { D with nx:=u D } I h) fun f s1 q=>?_)
 cases f with
 | next=>
  obtain ⟨σ',H',I',q⟩:=q
  exact h2 pins s1 σ' H' D I' q
 | ret v=>exact q
 | brk=>exact q
 | cont=>exact q
theorem Zak (h1:PS X st t):PSs X [st] t:=by
 intro pins s σ H D I h
 refine wpAny_execs_cons (thn (h1 pins s σ H D I h) fun f s1 q=>?_)
 cases f with
 | next=>exact wpAny_execs_nil q
 | ret v=>exact q
 | brk=>exact q
 | cont=>exact q
theorem Inv.quiet {pins:List (Addr × Obj)} {σ:St} {H:Hp} {s:Shared} (I:Inv X pins σ H s):interactive X.env=false:=by simp [interactive,I.ok.kind]
def tDrop (te:TE):TS:=fun D σ H=>te σ H fun _ H1=>D.nx σ H1
theorem Zd8 (he:PE X e te) (hs:swapsWith e none pos.line X.env=pure false:=by rfl):PS X (.Expr e pos) (tDrop te):=by
 intro pins s σ H D I h
 exact wpAny_Expr_any (thn (he pins s σ H _ I h) fun v s1 ⟨x,H1,I1,r1,q1⟩=>⟨σ,H1,I1,q1⟩) I.quiet hs
def tRet (te:TE):TS:=fun D σ H=>te σ H D.rt
theorem Za9 (he:PE X e te):PS X (.Return (some e) pos) (tRet te):=by
 intro pins s σ H D I h
 exact wpAny_Return_some (thn (he pins s σ H _ I h) fun v s1 ⟨x,H1,I1,r1,q1⟩=>⟨x,σ,H1,I1,r1,q1⟩)
def tIfS (c:TT) (t u:TS):TS:=fun D σ H=>c σ H fun b H1=>if b=true then t D σ H1 else u D σ H1
theorem Zb0 {c:Expr} {a b:List Stmt} {tc:TT} (hc:PT X c tc) (ha:PSs X a t) (hb:PSs X b u):PS X (.If c a b pos) (tIfS tc t u):=by
 intro pins s σ H D I h
 refine wpAny_If (thn (hc pins s σ H _ I h) fun d s1 ⟨H1,I1,q1⟩=>?_)
 cases d with
 | true=>exact ha pins s1 σ H1 D I1 q1
 | false=>exact hb pins s1 σ H1 D I1 q1
def tNever:TS:=fun _ _ _=>False
theorem Zib {sts:List Stmt}:PSs X sts tNever:=fun _ _ _ _ _ _ h=>h.elim
end
abbrev TG:=V->St->Hp->(St->Hp->Prop)->Prop
abbrev TGs:=List V->St->Hp->(St->Hp->Prop)->Prop
def PG (X:Cx) (target:Expr) (t:TG):Prop:=
 ∀ (pins:List (Addr × Obj)) (s:Shared) (σ:St) (H:Hp) (v:V) (u:Value) (Q:St->Hp->Prop),Inv X pins σ H s->RelV v u->t v σ H Q →
  wpAny (model X.prog X.w) X.A (assign target X.env u) (fun _ s'=>∃ σ' H',Inv X pins σ' H' s' /\ Q σ' H') X.xe s
def PGs (X:Cx) (ts:List Expr) (t:TGs):Prop:=
 ∀ (pins:List (Addr × Obj)) (s:Shared) (σ:St) (H:Hp) (vs:List V) (us:List Value) (Q:St->Hp->Prop),Inv X pins σ H s->Vals vs us->t vs σ H Q →
  wpAny (model X.prog X.w) X.A (assignInOrder ((assignEach ts X.env).map (·.2)) us) (fun _ s'=>∃ σ' H',Inv X pins σ' H' s' /\ Q σ' H') X.xe s
abbrev TSet:=V->V->V->Hp->(Hp->Prop)->Prop
def PSet (X:Cx) (t:TSet):Prop:=
 ∀ (pins:List (Addr × Obj)) (s:Shared) (σ:St) (H:Hp) (o i v:V) (ov iv u:Value) (Q:Hp->Prop),Inv X pins σ H s->RelV o ov->RelV i iv->RelV v u->t o i v H Q →
  wpAny (model X.prog X.w) X.A (setItem ov iv u) (fun _ s'=>∃ H',Inv X pins σ H' s' /\ Q H') X.xe s
section
variable {X:Cx} {pos:Pos}
def gName (i:Nat):TG:=fun v σ H Q=>Q (σ.set i (some v)) H
theorem Zam {i:Nat} {x:Str} (hN:X.N.Nodup) (hi:X.N[i]? = some x) (hx:Loc X.env.scope x) (hf:X.fn x=true\/X.env.scope.names.lookup x=some .local:=by first | exact .inl rfl | exact .inr rfl | assumption):PG X (.Name x pos) (gName i):=by
 intro pins s σ H v u Q I r h
 exact wpAny_assign_Name (Zfc I hN hi hx r (fun s' I'=>⟨_,H,I',h⟩) hf)
def gNil:TGs:=fun vs σ H Q=>vs=[]/\Q σ H
def gCons (t:TG) (u:TGs):TGs:=fun vs σ H Q=>∃ v r,vs=v :: r/\t v σ H fun σ' H'=>u r σ' H' Q
theorem Zbr:PGs X [] gNil:=by
 intro pins s σ H vs us Q I r h
 obtain ⟨e,h⟩:=h
 subst e
 cases r
 exact assignInOrder_nil ⟨σ,H,I,h⟩
theorem Zas {e:Expr} {es:List Expr} {t:TG} {u:TGs} (h1:PG X e t) (h2:PGs X es u)
  (hs:(assignEach (e :: es) X.env).map (·.2)=assign e X.env :: (assignEach es X.env).map (·.2):=by rfl):PGs X (e :: es) (gCons t u):=by
 intro pins s σ H vs us Q I r h
 obtain ⟨v,vr,e1,h⟩:=h
 subst e1
 cases r with
 | cons r rr=>
  rw [hs]
  refine assignInOrder_cons (thn (h1 pins s σ H _ _ _ I r h) fun _ s1 ⟨σ1,H1,I1,q1⟩=>?_)
  exact h2 pins s1 σ1 H1 _ _ Q I1 rr q1
def gTup (K:PySem.W.Frag) (n:Nat) (t:TGs):TG:=fun v σ H Q=>∃ a xs,v=.ref a/\SqT K H a xs/\xs.length=n/\t xs σ H Q
theorem Zsz {es:List Expr} {k:Nat} {t:TGs} {n:Nat} (hc:X.calm=true) (h:PGs X es t)
  (hn:(assignEach es X.env).length=n:=by rfl) (hst:(assignEach es X.env).findIdx? (·.1)=none:=by rfl):PG X (.Tuple es k pos) (gTup X.K n t):=by
 intro pins s σ H v u Q I r hw
 obtain ⟨a,xs,e1,hq,hl,hw⟩:=hw
 subst e1
 cases r
 obtain ⟨its,rv,ht,hz⟩:=I.tuple hq
 refine assign_Tuple_tuple (I.ok.hd hc) ht (by simp [hn,<- hl,rv.length]) hst fun h' hx=>?_
 have I1:Inv X pins σ H { s with heap:=h' }:=I.kept (t':=s.toks) fun b o e=>hx b o (Nat.ne_of_lt (Heap.lt_size e)) e
 exact h pins _ σ H xs _ Q I1 (by simpa using rv) hw
def gSub (to ti:TE) (t:TSet):TG:=fun v σ H Q=>to σ H fun o H1=>ti σ H1 fun i H2=>t o i v H2 fun H3=>Q σ H3
theorem Ze5 {o i:Expr} {to ti:TE} {t:TSet} (ho:PE X o to) (hi:PE X i ti) (hs:PSet X t)
  (ha:∀ v,assign (.Subscript o i pos) X.env v=(do
   let ov ← holding [v] (eval o X.env)
   let iv ← holding [v,ov] (eval i X.env)
   standAt pos
   holding [v,ov,iv] (setItem ov iv v)
   release [v,ov,iv] []):=by intro _; rfl):PG X (.Subscript o i pos) (gSub to ti t):=by
 intro pins s σ H v u Q I r h
 rw [ha]
 refine wpAny_bind (wpAny_holding (thn (ho pins s σ H _ I h) fun ov s1 ⟨x,H1,I1,r1,q1⟩=>?_))
 refine wpAny_bind (wpAny_holding (thn (hi pins s1 σ H1 _ I1 q1) fun iv s2 ⟨y,H2,I2,r2,q2⟩=>?_))
 refine wpAny_bind (wpAny_standAt (wpAny_bind (wpAny_holding (thn (hs pins s2 σ H2 x y v ov iv u _ I2 r1 r2 r q2) fun _ s3 ⟨H3,I3,q3⟩=>?_))))
 exact wpAny_release ⟨σ,H3,I3,q3⟩
def tAsg (te:TE) (g:TG):TS:=fun D σ H=>te σ H fun x H1=>g x σ H1 D.nx
theorem Zc0 {tg e:Expr} {te:TE} {g:TG} (he:PE X e te) (hg:PG X tg g) (hs:swapsWithSole [tg] e pos.line X.env=pure false:=by rfl) (hw:swappedStores [tg] e X.env=pure none:=by rfl)
  (h1:(assignEach [tg] X.env).map (·.2)=[assign tg X.env]:=by rfl):PS X (.Assign [tg] e pos) (tAsg te g):=by
 intro pins s σ H D I h
 refine wpAny_Assign_stores (thn (he pins s σ H _ I h) fun v s1 ⟨x,H1,I1,r1,q1⟩=>?_) hs hw
 rw [h1]
 exact thn (hg pins s1 σ H1 x v _ I1 r1 q1) fun _ s2 q=>q
theorem Zax {i:Nat} {x:Str} {e:Expr} {te:TE} {pos':Pos} (hN:X.N.Nodup) (hi:X.N[i]? = some x) (hx:Loc X.env.scope x) (he:PE X e te) (hs:swapsWith e (some (.Name x pos')) pos.line X.env=pure false:=by rfl) (hf:X.fn x=true\/X.env.scope.names.lookup x=some .local:=by first | exact .inl rfl | exact .inr rfl | assumption) :
  PS X (.Assign [.Name x pos'] e pos) (tAsg te (gName i)):=by
 intro pins s σ H D I h
 refine wpAny_Assign_Name (thn (he pins s σ H _ I h) fun v s1 ⟨y,H1,I1,r1,q1⟩=>?_) hs
 exact Zfc I1 hN hi hx r1 (fun s2 I2=>⟨_,H1,I2,q1⟩) hf
def tPar (i j:Nat) (ta:TA):TS:=fun D σ H=>ta σ H fun vs H1=>∃ v w,vs=[v,w]/\D.nx ((σ.set i (some v)).set j (some w)) H1
theorem Zka {i j:Nat} {x y:Str} {a b:Expr} {ta:TA} {px py pt:Pos} {kt k2 pt2} (hc:X.calm=true) (hN:X.N.Nodup) (hi:X.N[i]? = some x) (hj:X.N[j]? = some y) (hij:i ≠ j)
  (hx:X.env.scope.names.lookup x=some .local) (hy:X.env.scope.names.lookup y=some .local) (ha:PA X [a,b] ta)
  (hw:swappedStores [.Tuple [.Name x px,.Name y py] kt pt] (.Tuple [a,b] k2 pt2) X.env=pure (some [x,y]))
  (hs:swapsWithSole [.Tuple [.Name x px,.Name y py] kt pt] (.Tuple [a,b] k2 pt2) pos.line X.env=pure false:=by rfl) :
  PS X (.Assign [.Tuple [.Name x px,.Name y py] kt pt] (.Tuple [a,b] k2 pt2) pos) (tPar i j ta):=by
 intro pins s σ H D I h
 rw [exec_Assign_arm]
 refine wpAny_bind (wpAny_standAt ?_)
 rw [hs]
 refine wpAny_bind (wpAny_pure ?_)
 rw [if_neg (by decide)]
 refine wpAny_bind (Tuple_ (thn (ha _ pins s σ H _ I h) fun us s1 ⟨vs,H1,I1,r1,q1⟩=>?_))
 obtain ⟨v,w,e1,q1⟩:=q1
 subst e1
 obtain ⟨u1,u2,rfl,rv,rw'⟩:∃ u1 u2,us=[u1,u2]/\RelV v u1/\RelV w u2:=by
  cases r1 with
  | cons p q=>
   cases q with
   | cons p' q'=>
    cases q'
    exact ⟨_,_,rfl,p,p'⟩
 refine wpAny_newObj_type ?_ (by show 2<=sizeLine; decide)
 have I2:Inv X pins σ H1 { s1 with heap:=s1.heap.push { cls:=.type "tuple",data:=.seq [u1,u2].toArray } }:=I1.kept (t':=s1.toks) fun b o e=>Heap.get?_push_of_some _ e
 rw [hw]
 refine wpAny_bind (wpAny_pure ?_)
 show wpAny (model X.prog X.w) X.A (do rule "assign.swapped-stores"; let items ← unpackItems (.ref s1.heap.objs.size) 2 none; assignInOrder [fun v=>bindName X.env y v,fun v=>bindName X.env x v] items.reverse; pure Flow.next) _ _ _
 refine wpAny_bind (wpAny_rule (wpAny_bind (unpackItems_tuple (items:=#[u1,u2]) (I.ok.hd hc) (IsTup.new s1.heap _) fun h' hx'=>?_)))
 have I3:=I2.kept (h':=h') (t':=s1.toks) fun b o e=>hx' b o (Nat.ne_of_lt (Heap.lt_size e)) e
 show wpAny _ _ (assignInOrder [fun v=>bindName X.env y v,fun v=>bindName X.env x v] [u2,u1] >>= fun _=>pure Flow.next) _ _ _
 refine wpAny_bind (assignInOrder_cons (wpAny_bindName (Zfc I3 hN hj (.inl hy) rw' (fun s2 I4=>?_) (.inr hy))))
 refine assignInOrder_cons (wpAny_bindName (Zfc I4 hN hi (.inl hx) rv (fun s3 I5=>assignInOrder_nil (wpAny_pure ?_)) (.inr hx)))
 rw [List.set_comm _ _ (Ne.symm hij)] at I5
 exact ⟨_,H1,I5,q1⟩
end
section
variable {X:Cx} {pos:Pos}
def tWhile (c:TT) (tb:TS):TS:=fun D σ H=>∃ W:Nat->St->Hp->Prop,(∃ m,W m σ H)/\∀ m σ H,W m σ H →
 c σ H fun b H1=>if b=true then ∃ N:St->Hp->Prop,(∀ σ' H',N σ' H' -> ∃ m',m' < m/\W m' σ' H')/\tb { D with nx:=N,ct:=N,bk:=D.nx } σ H1 else D.nx σ H1
theorem Zn9 {c:Expr} {body:List Stmt} {tc:TT} {tb:TS} (hp:PassesOwn (model X.prog X.w) X.A X.env X.xe) (hc:PT X c tc) (hb:PSs X body tb):PS X (.While c body [] pos) (tWhile tc tb):=by
 intro pins s σ H D I h
 obtain ⟨W,⟨m0,w0⟩,turn⟩:=h
 refine wpAny_While (codeAny_whileLoop (fun n s'=>∃ σ' H',Inv X pins σ' H' s' /\ W n σ' H') ?_ m0 ⟨σ,H,I,w0⟩)
 rintro n s1 ⟨σ1,H1,I1,w1⟩
 refine wpAny_passesOwn hp (thn (hc pins s1 σ1 H1 _ I1 (turn n σ1 H1 w1)) fun b s2 ⟨H2,I2,q2⟩=>?_)
 cases b with
 | true=>
  obtain ⟨N,hN,q2⟩:=q2
  rw [if_pos rfl]
  refine wpAny_passesOwn hp (thn (hb pins s2 σ1 H2 _ I2 q2) fun f s3 q3=>?_)
  cases f with
  | next=>
   obtain ⟨σ3,H3,I3,n3⟩:=q3
   obtain ⟨m',hm,w3⟩:=hN σ3 H3 n3
   exact ⟨m',hm,σ3,H3,I3,w3⟩
  | cont=>
   obtain ⟨σ3,H3,I3,n3⟩:=q3
   obtain ⟨m',hm,w3⟩:=hN σ3 H3 n3
   exact ⟨m',hm,σ3,H3,I3,w3⟩
  | brk=>exact q3
  | ret v=>exact q3
 | false=>
  rw [if_neg Bool.false_ne_true]
  exact wpAny_execs_nil ⟨σ1,H2,I2,q2⟩
end
structure It where
 go:Nat->Hp->Prop
 yld:Nat->Hp->V->Hp->Prop
 stop:Nat->Hp->Prop
def FpOk (X:Cx) (pins:List (Addr × Obj)) (H:Hp) (b:Addr):Prop:=
 H b=none/\b ≠ X.env.locals/\b ∉ X.fs/\(b ∈ X.ex\/X.s₀.heap.objs.size<=b)/\(∀ x c,X.env.cells.lookup x=some c->c ≠ b)/\∀ p ∈ X.pn ++ pins,p.1 ≠ b
theorem Inv.fpOk {X:Cx} {pins:List (Addr × Obj)} {σ:St} {H H':Hp} {s:Shared} {b:Addr} (I:Inv X pins σ H s) (hb:s.heap.objs.size<=b) (hn:H' b=none):FpOk X pins H' b:=by
 refine ⟨hn,Nat.ne_of_gt (Nat.lt_of_lt_of_le I.lt hb),I.nofs hb,.inr (Nat.le_trans I.sz hb),fun x c e z=>?_,fun p hp z=>?_⟩
 ·obtain ⟨v,q⟩:=I.cell x c e
  exact absurd (Nat.lt_of_lt_of_le q.lt (by rw [z]; exact hb)) (Nat.lt_irrefl _)
 ·exact absurd (Nat.lt_of_lt_of_le (Heap.lt_size (I.pin p hp).1) (by rw [z]; exact hb)) (Nat.lt_irrefl _)
structure TurnG (Cm:Cx->Prop) (P:Program) (w:World) (K:PySem.W.Frag) (tg:Expr) (J:It) (fp:List Addr) (it:Addr) (tn:Nat->Heap->Prop):Prop where
 mem:it ∈ fp
 obj:∀ i h,tn i h->∀ b ∈ fp,∃ o,h.get? b=some o/\∀ v,o.data ≠ .cell v
 keep:∀ i h h',tn i h->(∀ b ∈ fp,∀ o,h.get? b=some o->h'.get? b=some o)->tn i h'
 item:∀ (X:Cx),X.prog=P->X.w=w->X.K=K->Cm X->∀ (i:Nat) (pins:List (Addr × Obj)) (s:Shared) (σ:St) (H:Hp) (E:Value->Shared->Prop),Inv X pins σ H s->(∀ b ∈ fp,FpOk X pins H b)->tn i s.heap->J.go i H →
  wpAny (model P w) X.A (pyNext (.ref it)) (fun r s1=>∃ u,r=some u ∧
   wpAny (model P w) X.A (letOwnedTupleGo tg (.ref it) u) (fun _ s2=>∃ x H',Inv X pins σ H' s2/\RelV x u/\J.yld i H x H' /\ tn (i + 1) s2.heap/\∀ b ∈ fp,H' b=none) E s1) E s
 done:∀ (X:Cx),X.prog=P->X.w=w->X.K=K->Cm X->∀ (i:Nat) (pins:List (Addr × Obj)) (s:Shared) (σ:St) (H:Hp) (E:Value->Shared->Prop),Inv X pins σ H s->(∀ b ∈ fp,FpOk X pins H b)->tn i s.heap->J.stop i H →
  wpAny (model P w) X.A (pyNext (.ref it)) (fun r s1=>r=none/\Inv X pins σ H s1) E s
 self:∀ (A:Around) (i:Nat) (s:Shared) (Q:Value->Shared->Prop) (E:Value->Shared->Prop),tn i s.heap->Q (.ref it) s->wpAny (model P w) A (pyIter (.ref it)) Q E s
abbrev Turn:=TurnG fun X=>X.calm=true
abbrev TI:=St->Hp->(It->Hp->Prop)->Prop
def PIEG (Cm:Cx->Prop) (X:Cx) (pins:List (Addr × Obj)) (σ:St) (tg:Expr) (R:It->Hp->Prop) (itv:Value) (s2:Shared):Prop:=
 ∃ (it:Addr) (fp:List Addr) (tn:Nat->Heap->Prop) (J:It) (H':Hp),itv=.ref it/\Inv X pins σ H' s2/\TurnG Cm X.prog X.w X.K tg J fp it tn/\tn 0 s2.heap/\(∀ b ∈ fp,FpOk X pins H' b)/\R J H'
def PIG (Cm:Cx->Prop) (X:Cx) (tg iter:Expr) (wi:TI):Prop:=
 ∀ (pins:List (Addr × Obj)) (s:Shared) (σ:St) (H:Hp) (R:It->Hp->Prop),Inv X pins σ H s->wi σ H R →
  wpAny (model X.prog X.w) X.A (eval iter X.env) (fun v s1=>wpAny (model X.prog X.w) X.A (pyIter v) (PIEG Cm X pins σ tg R) X.xe s1) X.xe s
abbrev PIE:=PIEG fun X=>X.calm=true
abbrev PI:=PIG fun X=>X.calm=true
theorem Zqt {M:Model} {A:Around} {E:Value->Shared->Prop} {s:Shared} {tg:Expr} {it:Addr} {u:Value} {o:Obj} {n:String} {vs:Array Value} {Q:Unit->Shared->Prop} (ho:s.heap.get? it=some o) (hc:o.cls=.type n) (hd:o.data=.fields vs)
  (hn:["enumerate","zip","dict_itemiterator","dict_reverseitemiterator","odict_iterator","itertools.zip_longest","itertools.pairwise"].contains n=false) (hQ:Q () s):wpAny M A (letOwnedTupleGo tg (.ref it) u) Q E s:=by
 unfold letOwnedTupleGo
 cases tg <;> first
  | exact wpAny_pure hQ
  | (cases u <;> first
      | exact wpAny_pure hQ
      | (refine wpAny_bind (wpAny_load ho ?_)
         rw [hc,hd]
         show wpAny M A (if (["enumerate","zip","dict_itemiterator","dict_reverseitemiterator","odict_iterator","itertools.zip_longest","itertools.pairwise"].contains n && vs[0]? == some (rawInt _))=true then _ else _) Q E s
         rw [if_neg (by intro h; rw [hn,Bool.false_and] at h; cases h)]
         exact wpAny_pure hQ))
def Itl (K:PySem.W.Frag) (a:Addr):It:=
 ⟨fun i H=>∃ xs x,SqL K H a xs/\xs[i]? = some x,fun i H x H'=>H' = H/\∀ xs,SqL K H a xs->xs[i]? = some x,fun i H=>∃ xs,SqL K H a xs/\xs.length<=i⟩
def Itt (K:PySem.W.Frag) (a:Addr):It:=
 ⟨fun i H=>∃ xs x,SqT K H a xs/\xs[i]? = some x,fun i H x H'=>H' = H/\∀ xs,SqT K H a xs->xs[i]? = some x,fun i H=>∃ xs,SqT K H a xs/\xs.length<=i⟩
def Itr (lo:Int) (n:Nat):It:=⟨fun i _=>i < n,fun i H x H'=>H' = H/\x=.int (lo + i),fun i _=>n<=i⟩
theorem Zk7 {P:Program} {w:World} {K:PySem.W.Frag} {tg:Expr} (a it:Addr):Turn P w K tg (Itl K a) [it] it (fun i h=>h.IsListIter it a i) where
 mem:=by simp
 obj:=fun i h st b hb=>by
  have e:b=it:=by simpa using hb
  subst e
  obtain ⟨o,e,c,d⟩:=st
  exact ⟨o,e,fun v z=>by rw [d] at z; cases z⟩
 keep:=fun i h h' st k=>st.at fun o e=>k it (by simp) o e
 item:=by
  intro X hP hw hK hc i pins s σ H E I hf st hg
  subst hP hw hK
  obtain ⟨xs,x,hq,hx⟩:=hg
  obtain ⟨its,rv,p,hz⟩:=I.list hq
  obtain ⟨u,hu,ru⟩:=rv.get hx
  obtain ⟨f0,f1,f2,f3,f4,f5⟩:=hf it (by simp)
  refine wpAny_pyNext_list_item st p.isList (x:=u) (by simpa using hu) fun h' st' sb=>?_
  have I1:Inv X pins σ H { s with heap:=h' }:=I.turned (t':=s.toks) (fun b o hb e=>(sb.2 b hb).trans e) f0 f1 f3 f4 f5
  obtain ⟨o,e,c,d⟩:=id st'
  exact ⟨u,rfl,Zqt (s:={ s with heap:=h' }) e c d (by decide) ⟨x,H,I1,ru,⟨rfl,fun ys hy=>by rw [I.list_inj hy hq]; exact hx⟩,st',fun b hb=>(hf b hb).1⟩⟩
 done:=by
  intro X hP hw hK hc i pins s σ H E I hf st hg
  subst hP hw hK
  obtain ⟨xs,hq,hx⟩:=hg
  obtain ⟨its,rv,p,hz⟩:=I.list hq
  obtain ⟨f0,f1,f2,f3,f4,f5⟩:=hf it (by simp)
  have hl:=rv.length
  exact wpAny_pyNext_list_end (I.ok.hd hc) st p.isList (by simp; omega) fun h' eb=>⟨rfl,I.turned (t':=s.toks) (fun b o hb e=>eb b o hb e) f0 f1 f3 f4 f5⟩
 self:=fun _ _ _ _ _ st h=>wpAny_pyIter_listiter st h
theorem Zke {P:Program} {w:World} {K:PySem.W.Frag} {tg:Expr} (a it:Addr):Turn P w K tg (Itt K a) [it] it (fun i h=>h.IsTupleIter it a i) where
 mem:=by simp
 obj:=fun i h st b hb=>by
  have e:b=it:=by simpa using hb
  subst e
  obtain ⟨o,e,c,d⟩:=st
  exact ⟨o,e,fun v z=>by rw [d] at z; cases z⟩
 keep:=fun i h h' st k=>st.at fun o e=>k it (by simp) o e
 item:=by
  intro X hP hw hK hc i pins s σ H E I hf st hg
  subst hP hw hK
  obtain ⟨xs,x,hq,hx⟩:=hg
  obtain ⟨its,rv,p,hz⟩:=I.tuple hq
  obtain ⟨u,hu,ru⟩:=rv.get hx
  obtain ⟨f0,f1,f2,f3,f4,f5⟩:=hf it (by simp)
  refine wpAny_pyNext_tuple_item st (show s.heap.IsTuple a its.toArray from p) (x:=u) (by simpa using hu) fun h' st' sb=>?_
  have I1:Inv X pins σ H { s with heap:=h' }:=I.turned (t':=s.toks) (fun b o hb e=>(sb.2 b hb).trans e) f0 f1 f3 f4 f5
  obtain ⟨o,e,c,d⟩:=id st'
  exact ⟨u,rfl,Zqt (s:={ s with heap:=h' }) e c d (by decide) ⟨x,H,I1,ru,⟨rfl,fun ys hy=>by rw [I.tuple_inj hy hq]; exact hx⟩,st',fun b hb=>(hf b hb).1⟩⟩
 done:=by
  intro X hP hw hK hc i pins s σ H E I hf st hg
  subst hP hw hK
  obtain ⟨xs,hq,hx⟩:=hg
  obtain ⟨its,rv,p,hz⟩:=I.tuple hq
  obtain ⟨f0,f1,f2,f3,f4,f5⟩:=hf it (by simp)
  have hl:=rv.length
  exact wpAny_pyNext_tuple_end (I.ok.hd hc) st (show s.heap.IsTuple a its.toArray from p) (by simp; omega) fun h' eb=>⟨rfl,I.turned (t':=s.toks) (fun b o hb e=>eb b o hb e) f0 f1 f3 f4 f5⟩
 self:=fun _ _ _ _ _ st h=>wpAny_pyIter_tupleiter st h
theorem Zkv {P:Program} {w:World} {K:PySem.W.Frag} {tg:Expr} (it:Addr) (lo:Int) (n:Nat):Turn P w K tg (Itr lo n) [it] it (fun i h=>IsRangeIter h it (lo + (i:Nat) * 1) ((n:Int) - (i:Nat)) 1) where
 mem:=by simp
 obj:=fun i h st b hb=>by
  have e:b=it:=by simpa using hb
  subst e
  exact ⟨_,st,fun v z=>by
   have z':Data.fields _=Data.cell v:=z
   cases z'⟩
 keep:=fun i h h' st k=>k it (by simp) _ st
 item:=by
  intro X hP hw hK hc i pins s σ H E I hf st hg
  subst hP hw hK
  obtain ⟨f0,f1,f2,f3,f4,f5⟩:=hf it (by simp)
  have W:=Walks.range (prog:=X.prog) (w:=X.w) (I.ok.hd hc) it lo 1 n
  refine W.item i s _ _ hg st fun v h' tk hv st' kk=>?_
  obtain ⟨t,rfl⟩:=hv
  have I1:Inv X pins σ H { s with heap:=h',toks:=tk }:=I.turned (fun b o hb e=>kk b o (by simpa using hb) e) f0 f1 f3 f4 f5
  refine ⟨_,rfl,Zqt (s:={ s with heap:=h',toks:=tk }) (n:="range_iterator") st' rfl rfl (by decide) ⟨.int (lo + i),H,I1,⟨t,?_⟩,⟨rfl,rfl⟩,st',fun b hb=>(hf b hb).1⟩⟩
  rw [Int.mul_one]
 done:=by
  intro X hP hw hK hc i pins s σ H E I hf st hg
  subst hP hw hK
  obtain ⟨f0,f1,f2,f3,f4,f5⟩:=hf it (by simp)
  exact wpAny_pyNext_range_end (I.ok.hd hc) st (by have:n<=i:=hg; omega) fun h' eb=>⟨rfl,I.turned (t':=s.toks) (fun b o hb e=>eb b o hb e) f0 f1 f3 f4 f5⟩
 self:=fun _ _ _ _ _ st h=>wpAny_pyIter_rangeiter st h
end L2
namespace L2
open PySem PySem.Spec PyProof.Rows
section
variable {X:Cx} {tg:Expr}
def iList (K:PySem.W.Frag) (tl:TE):TI:=fun σ H R=>tl σ H fun x H1=>∃ a,x=.ref a/\(∃ xs,SqL K H1 a xs)/\R (Itl K a) H1
def iTup (K:PySem.W.Frag) (tl:TE):TI:=fun σ H R=>tl σ H fun x H1=>∃ a,x=.ref a/\(∃ xs,SqT K H1 a xs)/\R (Itt K a) H1
theorem Zpr {l:Expr} {tl:TE} (hl:PE X l tl):PI X tg l (iList X.K tl):=by
 intro pins s σ H R I h
 refine thn (hl pins s σ H _ I h) fun v s1 ⟨x,H1,I1,r1,q1⟩=>?_
 obtain ⟨a,e,⟨xs,hq⟩,q⟩:=q1
 subst e
 cases r1
 obtain ⟨its,rv,p,hz⟩:=I1.list hq
 refine wpAny_pyIter_list p.isList ?_
 refine ⟨s1.heap.objs.size,[s1.heap.objs.size],_,_,H1,rfl,I1.kept (t':=s1.toks) fun b o e=>Heap.get?_push_of_some _ e,Zk7 a _,⟨_,Heap.get?_push_size _ rfl,rfl,rfl⟩,fun b hb=>?_,q⟩
 have e:b=s1.heap.objs.size:=by simpa using hb
 subst e
 exact I1.fpOk (Nat.le_refl _) (I1.hok.fresh (Nat.le_refl _))
theorem Zsk {l:Expr} {tl:TE} (hl:PE X l tl):PI X tg l (iTup X.K tl):=by
 intro pins s σ H R I h
 refine thn (hl pins s σ H _ I h) fun v s1 ⟨x,H1,I1,r1,q1⟩=>?_
 obtain ⟨a,e,⟨xs,hq⟩,q⟩:=q1
 subst e
 cases r1
 obtain ⟨its,rv,p,hz⟩:=I1.tuple hq
 refine wpAny_pyIter_tuple (show s1.heap.IsTuple a its.toArray from p) ?_
 refine ⟨s1.heap.objs.size,[s1.heap.objs.size],_,_,H1,rfl,I1.kept (t':=s1.toks) fun b o e=>Heap.get?_push_of_some _ e,Zke a _,⟨_,Heap.get?_push_size _ rfl,rfl,rfl⟩,fun b hb=>?_,q⟩
 have e:b=s1.heap.objs.size:=by simpa using hb
 subst e
 exact I1.fpOk (Nat.le_refl _) (I1.hok.fresh (Nat.le_refl _))
theorem range_it {pins:List (Addr × Obj)} {σ:St} {H:Hp} {s:Shared} {R:It->Hp->Prop} {E:Value->Shared->Prop} {lo hi:Int} {t u v:Tok} {tk:Nat} (I:Inv X pins σ H s) (h1:-(2 ^ 62)<=lo) (h2:lo < 2 ^ 62) (h3:-(2 ^ 62)<=hi) (h4:hi < 2 ^ 62)
  (q:R (Itr lo (hi - lo).toNat) H):wpAny (model X.prog X.w) X.A (pyIter (.ref s.heap.objs.size)) (PIE X pins σ tg R) E { s with heap:=s.heap.push { cls:=.type "range",data:=.fields #[.int lo t,.int hi u,.int 1 v] },toks:=tk }:=by
 refine wpAny_pyIter_range (IsRange.new ..) (small_one h1 h2 h3 h4) ?_
 have I1:Inv X pins σ H { s with heap:=s.heap.push { cls:=.type "range",data:=.fields #[.int lo t,.int hi u,.int 1 v] },toks:=tk }:=I.kept fun b o e=>Heap.get?_push_of_some _ e
 refine ⟨(s.heap.push { cls:=.type "range",data:=.fields #[.int lo t,.int hi u,.int 1 v] }).objs.size,[(s.heap.push { cls:=.type "range",data:=.fields #[.int lo t,.int hi u,.int 1 v] }).objs.size],_,_,H,rfl,
  I1.kept (t':=tk) fun b o e=>Heap.get?_push_of_some _ e,Zkv _ lo (hi - lo).toNat,?_,fun b hb=>?_,q⟩
 ·have e1:lo + ((0:Nat):Int) * 1=lo:=by simp
  have e2:(((hi - lo).toNat:Nat):Int) - ((0:Nat):Int)=Builtin.Range.rangeSize lo hi 1:=by rw [rangeSize_one]; split <;> omega
  show IsRangeIter _ _ (lo + ((0:Nat):Int) * 1) ((((hi - lo).toNat:Nat):Int) - ((0:Nat):Int)) 1
  rw [e1,e2]
  exact Heap.get?_push_size _ rfl
 ·have e:b=(s.heap.push { cls:=.type "range",data:=.fields #[.int lo t,.int hi u,.int 1 v] }).objs.size:=by simpa using hb
  subst e
  exact I1.fpOk (Nat.le_refl _) (I1.hok.fresh (Nat.le_refl _))
def iRng1 (ta:TA):TI:=fun σ H R=>ta σ H fun vs H1=>∃ j:Int,vs=[.int j] /\ -(2 ^ 62)<=j/\j < 2 ^ 62/\R (Itr 0 j.toNat) H1
def iRng2 (ta:TA):TI:=fun σ H R=>ta σ H fun vs H1=>∃ i j:Int,vs=[.int i,.int j]/\(-(2 ^ 62)<=i/\i < 2 ^ 62 /\ -(2 ^ 62)<=j/\j < 2 ^ 62)/\R (Itr i (j - i).toNat) H1
theorem Zbz {a:Expr} {ta:TA} {p pos:Pos} (hg:Gl X "range") (hm:X.mg "range" = none) (ha:PA X [a] ta) (hs:starEach [a] X.env=[(false,eval a X.env)]:=by rfl):PI X tg (.Call (.Name "range" p) [a] [] pos) (iRng1 ta):=by
 intro pins s σ H R I h
 refine Call_ (Zd1 I hg hm boot_range (PyProof.Rows.callWith_type1 (thn (ha pos pins s σ H _ I h) fun us s1 ⟨vs,H1,I1,r1,q1⟩=>?_) hs rfl))
 obtain ⟨j,e,q1,q2,q⟩:=q1
 subst e
 cases r1 with
 | cons r rr=>
  cases rr
  obtain ⟨t,rfl⟩:=r
  exact call_range_1 (range_it I1 (by omega) (by omega) q1 q2 (by simpa using q))
theorem Zhv {a b:Expr} {ta:TA} {p pos:Pos} (hg:Gl X "range") (hm:X.mg "range" = none) (ha:PA X [a,b] ta) (hs:starEach [a,b] X.env=[(false,eval a X.env),(false,eval b X.env)]:=by rfl) (hs2:starEach [b] X.env=[(false,eval b X.env)]:=by rfl) :
  PI X tg (.Call (.Name "range" p) [a,b] [] pos) (iRng2 ta):=by
 intro pins s σ H R I h
 refine Call_ (Zd1 I hg hm boot_range (PyProof.Rows.callWith_type1 (thn (ha pos pins s σ H _ I h) fun us s1 ⟨vs,H1,I1,r1,q1⟩=>?_) (by rw [hs,hs2]) (by rw [hs2]; rfl)))
 obtain ⟨i,j,e,⟨q1,q2,q3,q4⟩,q⟩:=q1
 subst e
 cases r1 with
 | cons r rr=>
  cases rr with
  | cons r' rr=>
   cases rr
   obtain ⟨t,rfl⟩:=r
   obtain ⟨t',rfl⟩:=r'
   exact call_range_2 (range_it I1 q1 q2 q3 q4 q)
def tFor (wi:TI) (g:TG) (tb:TS):TS:=fun D σ H=>wi σ H fun J H1=>∃ W:Nat->Nat->St->Hp->Prop,(∃ m,W 0 m σ H1)/\∀ i m σ H,W i m σ H →
 (J.stop i H/\D.nx σ H)\/(J.go i H/\∃ N:St->Hp->Prop,(∀ σ' H',N σ' H' -> ∃ m',m' < m/\W (i + 1) m' σ' H')/\∀ x H',J.yld i H x H' -> g x σ H' fun σ2 H2=>tb { D with nx:=N,ct:=N,bk:=D.nx } σ2 H2)
def pinsAt (fp:List Addr) (h:Heap):List (Addr × Obj):=fp.filterMap fun b=>(h.get? b).map fun o=>(b,o)
theorem Zct {fp:List Addr} {h:Heap} {b:Addr} {o:Obj} (hb:b ∈ fp) (e:h.get? b=some o):(b,o) ∈ pinsAt fp h:=List.mem_filterMap.mpr ⟨b,hb,by rw [e]; rfl⟩
theorem Zne {fp:List Addr} {h:Heap} {p:Addr × Obj} (hp:p ∈ pinsAt fp h):p.1 ∈ fp/\h.get? p.1=some p.2:=by
 obtain ⟨b,hb,e⟩:=List.mem_filterMap.mp hp
 cases q:h.get? b with
 | none=>rw [q] at e; cases e
 | some o=>
  rw [q] at e
  have e':(b,o)=p:=Option.some.inj e
  subst e'
  exact ⟨hb,q⟩
theorem Inv.pinned {pins:List (Addr × Obj)} {σ:St} {H:Hp} {s:Shared} {fp:List Addr} (I:Inv X pins σ H s) (hf:∀ b ∈ fp,FpOk X pins H b) (ho:∀ b ∈ fp,∃ o,s.heap.get? b=some o/\∀ v,o.data ≠ .cell v):Inv X (pins ++ pinsAt fp s.heap) σ H s:=
 I.pins_of fun p hp=>(List.mem_append.mp hp).elim (fun z=>I.pin p (List.mem_append_right _ z)) fun z=>by
  obtain ⟨hb,e⟩:=Zne z
  obtain ⟨f0,f1,f2,_⟩:=hf p.1 hb
  obtain ⟨o,e',d⟩:=ho p.1 hb
  rw [e] at e'; cases e'
  exact ⟨e,f0,f1,f2,d⟩
theorem Inv.unpinned {pins pl:List (Addr × Obj)} {σ:St} {H:Hp} {s:Shared} (I:Inv X (pins ++ pl) σ H s):Inv X pins σ H s:=I.pins_of fun p hp=>I.pin p (List.mem_append_right _ (List.mem_append_left _ hp))
theorem Zcq {iter:Expr} {body:List Stmt} {wi:TI} {g:TG} {tb:TS} {pos:Pos} (hp:PassesOwn (model X.prog X.w) X.A X.env X.xe) (hc:X.calm=true) (hi:PI X tg iter wi) (hg:PG X tg g) (hb:PSs X body tb)
  (hs:∀ x,foldedSetIterable iter X.env x=pure x:=by intro _; rfl):PS X (.For tg iter body [] pos) (tFor wi g tb):=by
 intro pins s σ H D I h
 refine wpAny_For (thn (hi pins s σ H _ I h) fun v s1 h1=>thn h1 fun itv s2 h2=>?_) hs
 obtain ⟨it,fp,tn,J,H2,e,I2,T,st2,f2,W,⟨m0,w0⟩,turn⟩:=h2
 subst e
 -- what stays true of the iterator's objects through the loop
 have stat:∀ {H':Hp},(∀ b ∈ fp,H' b=none)->∀ b ∈ fp,FpOk X pins H' b:=fun hn b hb=>⟨hn b hb,(f2 b hb).2⟩
 refine codeAny_forLoop_any (fun n s'=>∃ i σ' H',Inv X pins σ' H' s' /\ tn i s'.heap/\(∀ b ∈ fp,H' b=none)/\W i n σ' H') ?_ m0 ⟨0,σ,H2,I2,st2,fun b hb=>(f2 b hb).1,w0⟩
 rintro n s3 ⟨i,σ3,H3,I3,st3,fr3,w3⟩
 rcases turn i n σ3 H3 w3 with ⟨stop,qn⟩ | ⟨go,N,hN,step⟩
 ·refine wpAny_passesOwn hp (thn (T.done X rfl rfl rfl hc i pins s3 σ3 H3 X.xe I3 (stat fr3) st3 stop) fun r s4 ⟨hr,I4⟩=>?_)
  subst hr
  exact wpAny_execs_nil ⟨σ3,H3,I4,qn⟩
 ·refine wpAny_passesOwn hp (thn (T.item X rfl rfl rfl hc i pins s3 σ3 H3 X.xe I3 (stat fr3) st3 go) fun r s4 ⟨u,hr,h4⟩=>?_)
  subst hr
  refine wpAny_passesOwn hp (thn h4 fun _ s5 ⟨x,H5,I5,r5,y5,st5,fr5⟩=>?_)
  have I5':=I5.pinned (stat fr5) (T.obj _ _ st5)
  refine wpAny_passesOwn hp (thn (hg _ s5 σ3 H5 x u _ I5' r5 (step x H5 y5)) fun _ s6 ⟨σ6,H6,I6,q6⟩=>?_)
  refine wpAny_passesOwn hp (thn (hb _ s6 σ6 H6 _ I6 q6) fun f s7 q7=>?_)
  have again:∀ {σ7:St} {H7:Hp},Inv X (pins ++ pinsAt fp s5.heap) σ7 H7 s7->N σ7 H7->∃ m,m < n/\∃ i σ' H',Inv X pins σ' H' s7/\tn i s7.heap/\(∀ b ∈ fp,H' b=none)/\W i m σ' H':=fun {σ7 H7} I7 n7=>by
   obtain ⟨m',hm,w7⟩:=hN σ7 H7 n7
   refine ⟨m',hm,i + 1,σ7,H7,I7.unpinned,T.keep _ _ _ st5 fun b hb o e=>(I7.pin (b,o) (List.mem_append_right _ (List.mem_append_right _ (Zct hb e)))).1,fun b hb=>?_,w7⟩
   obtain ⟨o,e,d⟩:=T.obj _ _ st5 b hb
   exact (I7.pin (b,o) (List.mem_append_right _ (List.mem_append_right _ (Zct hb e)))).2.1
  cases f with
  | next=>obtain ⟨σ7,H7,I7,n7⟩:=q7; exact again I7 n7
  | cont=>obtain ⟨σ7,H7,I7,n7⟩:=q7; exact again I7 n7
  | brk=>obtain ⟨σ7,H7,I7,q7⟩:=q7; exact ⟨σ7,H7,I7.unpinned,q7⟩
  | ret v=>obtain ⟨x7,σ7,H7,I7,r7,q7⟩:=q7; exact ⟨x7,σ7,H7,I7.unpinned,r7,q7⟩
end
end L2
namespace L2
open PySem PySem.Spec PyProof.Rows
abbrev R2:=V->V->Hp->VK->Prop
def OpR (X:Cx) (f:Value->Value->Sem Value) (r:R2):Prop:=
 ∀ (pins:List (Addr × Obj)) (s:Shared) (σ:St) (H:Hp) (x y:V) (v u:Value) (Q:VK),Inv X pins σ H s->RelV x v->RelV y u->r x y H Q →
  wpAny (model X.prog X.w) X.A (f v u) (EP X pins σ Q) X.xe s
def UnR (X:Cx) (f:Value->Sem Value) (r:V->Hp->VK->Prop):Prop:=
 ∀ (pins:List (Addr × Obj)) (s:Shared) (σ:St) (H:Hp) (x:V) (v:Value) (Q:VK),Inv X pins σ H s->RelV x v->r x H Q →
  wpAny (model X.prog X.w) X.A (f v) (EP X pins σ Q) X.xe s
def CallR (X:Cx) (f:Value) (r:List V->Hp->VK->Prop):Prop:=
 ∀ (pins:List (Addr × Obj)) (s:Shared) (σ:St) (H:Hp) (xs:List V) (us:List Value) (Q:VK),Inv X pins σ H s->Vals xs us->r xs H Q →
  wpAny (model X.prog X.w) X.A (call f us) (EP X pins σ Q) X.xe s
def TruR (X:Cx) (r:V->Hp->(Bool->Hp->Prop)->Prop):Prop:=
 ∀ (pins:List (Addr × Obj)) (s:Shared) (σ:St) (H:Hp) (x:V) (v:Value) (Q:Bool->Hp->Prop),Inv X pins σ H s->RelV x v->r x H Q →
  wpAny (model X.prog X.w) X.A (truthy v) (TP X pins σ Q) X.xe s
def tOp (r:R2) (ta tb:TE):TE:=fun σ H Q=>ta σ H fun x H1=>tb σ H1 fun y H2=>r x y H2 Q
def tUn (r:V->Hp->VK->Prop) (ta:TE):TE:=fun σ H Q=>ta σ H fun x H1=>r x H1 Q
def rI (C:Int->Int->Prop) (g:Int->Int->V):R2:=fun x y H Q=>∃ i j,x=.int i/\y=.int j/\C i j/\Q (g i j) H
def rI0 (g:Int->Int->V):R2:=fun x y H Q=>∃ i j,x=.int i/\y=.int j/\Q (g i j) H
def rU (g:Int->V):V->Hp->VK->Prop:=fun x H Q=>∃ i,x=.int i/\Q (g i) H
section
variable {X:Cx} {a b c:Expr} {ta tb tc:TE} {pos:Pos}
theorem binT (ha:PE X a ta) (hb:PE X b tb) {pins:List (Addr × Obj)} {s:Shared} {σ:St} {H:Hp} {R:V->V->Hp->Prop} (I:Inv X pins σ H s)
  (h:ta σ H fun x H1=>tb σ H1 fun y H2=>R x y H2) {Q:Value->Shared->Prop} {f:Value->Value->Sem Value}
  (hf:∀ v u s2 x y H2,Inv X pins σ H2 s2->RelV x v->RelV y u->R x y H2->wpAny (model X.prog X.w) X.A (f v u) Q X.xe s2) :
  wpAny (model X.prog X.w) X.A (eval a X.env) (fun v s₁=>wpAny (model X.prog X.w) X.A (eval b X.env) (fun u s₂=>wpAny (model X.prog X.w) X.A (f v u) Q X.xe s₂) X.xe s₁) X.xe s:=by
 refine thn (ha pins s σ H _ I h) fun v s1 ⟨x,H1,I1,r1,q1⟩=>?_
 refine thn (hb pins s1 σ H1 _ I1 q1) fun u s2 ⟨y,H2,I2,r2,q2⟩=>?_
 exact hf v u s2 x y H2 I2 r1 r2 q2
theorem Zan {op:Operator} {r:R2} (ho:OpR X (binaryOp op) r) (ha:PE X a ta) (hb:PE X b tb):PE X (.BinOp a op b pos) (tOp r ta tb):=by
 intro pins s σ H Q I h
 exact wpAny_BinOp (binT ha hb I h fun v u s2 x y H2 I2 rx ry q=>ho pins s2 σ H2 x y v u Q I2 rx ry q)
theorem Zrx {op:UnaryOp} {r:V->Hp->VK->Prop} (ho:UnR X (unaryOp op) r) (ha:PE X a ta):PE X (.UnaryOp op a pos) (tUn r ta):=by
 intro pins s σ H Q I h
 exact UnaryOp_ (thn (ha pins s σ H _ I h) fun v s1 ⟨x,H1,I1,r1,q1⟩=>ho pins s1 σ H1 x v Q I1 r1 q1)
theorem opI {f:Value->Value->Sem Value} {C:Int->Int->Prop} {g:Int->Int->Int}
  (rule:∀ (i j:Int) (t u:Tok) (s:Shared) (Q:Value->Shared->Prop) (E:Value->Shared->Prop),C i j->Q (.int (g i j) s.toks) { s with toks:=s.toks + 1 } -> wpAny (model X.prog X.w) X.A (f (.int i t) (.int j u)) Q E s) :
  OpR X f (rI C fun i j=>.int (g i j)):=by
 intro pins s σ H x y v u Q I rx ry h
 obtain ⟨i,j,rfl,rfl,hc,q⟩:=h
 obtain ⟨t,rfl⟩:=rx
 obtain ⟨t',rfl⟩:=ry
 exact rule i j t t' s _ _ hc ⟨.int (g i j),H,I.tok _,⟨_,rfl⟩,q⟩
theorem opI0 {f:Value->Value->Sem Value} {g:Int->Int->Int}
  (rule:∀ (i j:Int) (t u:Tok) (s:Shared) (Q:Value->Shared->Prop) (E:Value->Shared->Prop),Q (.int (g i j) s.toks) { s with toks:=s.toks + 1 } -> wpAny (model X.prog X.w) X.A (f (.int i t) (.int j u)) Q E s) :
  OpR X f (rI0 fun i j=>.int (g i j)):=by
 intro pins s σ H x y v u Q I rx ry h
 obtain ⟨i,j,rfl,rfl,q⟩:=h
 obtain ⟨t,rfl⟩:=rx
 obtain ⟨t',rfl⟩:=ry
 exact rule i j t t' s _ _ ⟨.int (g i j),H,I.tok _,⟨_,rfl⟩,q⟩
theorem opB0 {f:Value->Value->Sem Value} {g:Int->Int->Bool}
  (rule:∀ (i j:Int) (t u:Tok) (s:Shared) (Q:Value->Shared->Prop) (E:Value->Shared->Prop),Q (.bool (g i j)) s->wpAny (model X.prog X.w) X.A (f (.int i t) (.int j u)) Q E s) :
  OpR X f (rI0 fun i j=>.bl (g i j)):=by
 intro pins s σ H x y v u Q I rx ry h
 obtain ⟨i,j,rfl,rfl,q⟩:=h
 obtain ⟨t,rfl⟩:=rx
 obtain ⟨t',rfl⟩:=ry
 exact rule i j t t' s _ _ ⟨.bl (g i j),H,I,rfl,q⟩
def CDiv (i j:Int):Prop:=0 < j/\j < 1073741824
def CPow (i j:Int):Prop:=0<=j/\j<=1000000/\i.natAbs < 2 ^ 64
def CMul (i j:Int):Prop:=(-(2 ^ 64) < i/\i < 2 ^ 64)\/(-(2 ^ 64) < j/\j < 2 ^ 64)
theorem CMul.ok {i j:Int} (h:CMul i j):IntMulOk i j:=by
 rcases h with ⟨h1,h2⟩ | ⟨h1,h2⟩
 ·exact .of_left (intBits_le_64 h1 h2)
 ·exact .of_right (intBits_le_64 h1 h2)
theorem Zsg:OpR X (binaryOp .Add) (rI0 fun i j=>.int (i + j)):=opI0 fun _ _ _ _ _ _ _ q=>add_int q
theorem Zbw:OpR X (binaryOp .Sub) (rI0 fun i j=>.int (i - j)):=opI0 fun _ _ _ _ _ _ _ q=>sub_int q
theorem Zd6:OpR X (binaryOp .Mult) (rI CMul fun i j=>.int (i * j)):=opI fun _ _ _ _ _ _ _ hc q=>mul_int q hc.ok
theorem Zf5:OpR X (binaryOp .FloorDiv) (rI CDiv fun i j=>.int (i / j)):=opI fun i j _ _ _ _ _ hc q=>by
 have h1:(0:Int) < j:=hc.1
 have h2:j < 1073741824:=hc.2
 exact floordiv_int (by omega) (by rw [Int.fdiv_eq_ediv_of_nonneg i (by omega)]; exact q) (.inl (PyProof.noPylong_small (by omega)))
theorem Zcw:OpR X (binaryOp .Mod) (rI (fun _ j=>0 < j) fun i j=>.int (i % j)):=opI fun i j _ _ _ _ _ hc q=>by
 have h1:(0:Int) < j:=hc
 exact mod_int' (by omega) (by rw [Int.fmod_eq_emod_of_nonneg i (by omega)]; exact q)
theorem Zj7:OpR X (binaryOp .Pow) (rI CPow fun i j=>.int (i ^ j.toNat)):=opI fun _ _ _ _ _ _ _ hc q=>pow_int_small hc.1 hc.2.1 hc.2.2 q
theorem unI {f:Value->Sem Value} {g:Int->Int}
  (rule:∀ (i:Int) (t:Tok) (s:Shared) (Q:Value->Shared->Prop) (E:Value->Shared->Prop),Q (.int (g i) s.toks) { s with toks:=s.toks + 1 } -> wpAny (model X.prog X.w) X.A (f (.int i t)) Q E s) :
  UnR X f (rU fun i=>.int (g i)):=by
 intro pins s σ H x v Q I rx h
 obtain ⟨i,rfl,q⟩:=h
 obtain ⟨t,rfl⟩:=rx
 exact rule i t s _ _ ⟨.int (g i),H,I.tok _,⟨_,rfl⟩,q⟩
theorem Zo8:UnR X (unaryOp .USub) (rU fun i=>.int (-i)):=unI fun _ _ _ _ _ q=>neg_int q
end
def scal:V->V->Bool
 | .non,.non=>true | .non,.int _=>true | .int _,.non=>true | .non,.bl _=>true | .bl _,.non=>true | .non,.str _=>true | .str _,.non=>true
 | .int _,.int _=>true | .bl _,.bl _=>true | .str _,.str _=>true | .byt _,.byt _=>true
 | .int _,.str _=>true | .str _,.int _=>true | .bl _,.str _=>true | .str _,.bl _=>true
 | _,_=>false
def rEq:R2:=fun x y H Q=>scal x y=true/\Q (.bl (decide (x=y))) H
def rNe:R2:=fun x y H Q=>scal x y=true/\Q (.bl (!decide (x=y))) H
theorem Zhh {i j:Int}:decide (V.int i=V.int j)=(i == j):=by
 rw [Bool.eq_iff_iff]
 simp
theorem Zoz {i j:Bool}:decide (V.bl i=V.bl j)=(i == j):=by
 rw [Bool.eq_iff_iff]
 simp
theorem Zm0 {i j:Str}:decide (V.str i=V.str j)=(i == j):=by
 rw [Bool.eq_iff_iff]
 simp
theorem Zm8 {i j:Array UInt8}:decide (V.byt i=V.byt j)=(i.toList == j.toList):=by
 rw [Bool.eq_iff_iff]
 cases i
 cases j
 simp
section
variable {X:Cx} {a b c:Expr} {ta tb tc:TE} {pos:Pos}
theorem Zbh {pins:List (Addr × Obj)} {σ:St} {H:Hp} {s:Shared} {Q:VK} {k k':Bool} (I:Inv X pins σ H s) (q:Q (.bl k) H) (e:k=k'):EP X pins σ Q (.bool k') s:=by
 subst e
 exact ⟨.bl k,H,I,rfl,q⟩
theorem Zt6:OpR X (compareOp .Eq) rEq:=by
 intro pins s σ H x y v u Q I rx ry h
 obtain ⟨hs,q⟩:=h
 cases x with
 | non=>
  cases rx
  cases y with
  | non=>cases ry; exact PySem.EqNone.eq_none_none (Zbh I q (by simp))
  | bl j=>cases ry; exact PySem.EqNone.eq_none_bool (Zbh I q (by simp))
  | int j=>obtain ⟨t',rfl⟩:=ry; exact PySem.EqNone.eq_none_int (Zbh I q (by simp))
  | str j=>obtain ⟨t',rfl⟩:=ry; exact PySem.EqNone.eq_none_str (Zbh I q (by simp))
  | _=>exact absurd (show false=true from hs) Bool.false_ne_true
 | bl i=>
  cases rx
  cases y with
  | non=>cases ry; exact PySem.EqNone.eq_bool_none (Zbh I q (by simp))
  | bl j=>cases ry; exact eq_bool (Zbh I q Zoz)
  | str j=>obtain ⟨t',rfl⟩:=ry; exact PySem.EqMixed.eq_bool_str (Zbh I q (by simp))
  | _=>exact absurd (show false=true from hs) Bool.false_ne_true
 | int i=>
  obtain ⟨t,rfl⟩:=rx
  cases y with
  | non=>cases ry; exact PySem.EqNone.eq_int_none (Zbh I q (by simp))
  | int j=>obtain ⟨t',rfl⟩:=ry; exact eq_int (Zbh I q Zhh)
  | str j=>obtain ⟨t',rfl⟩:=ry; exact PySem.EqMixed.eq_int_str (Zbh I q (by simp))
  | _=>exact absurd (show false=true from hs) Bool.false_ne_true
 | str i=>
  obtain ⟨t,rfl⟩:=rx
  cases y with
  | non=>cases ry; exact PySem.EqNone.eq_str_none (Zbh I q (by simp))
  | bl j=>cases ry; exact PySem.EqMixed.eq_str_bool (Zbh I q (by simp))
  | int j=>obtain ⟨t',rfl⟩:=ry; exact PySem.EqMixed.eq_str_int (Zbh I q (by simp))
  | str j=>obtain ⟨t',rfl⟩:=ry; exact eq_str (Zbh I q Zm0)
  | _=>exact absurd (show false=true from hs) Bool.false_ne_true
 | byt i=>
  obtain ⟨t,rfl⟩:=rx
  cases y with
  | byt j=>obtain ⟨t',rfl⟩:=ry; exact PySem.W.eq_bytes (Zbh I q Zm8)
  | _=>exact absurd (show false=true from hs) Bool.false_ne_true
 | _=>cases y <;> exact absurd (show false=true from hs) Bool.false_ne_true
theorem Zty:OpR X (compareOp .NotEq) rNe:=by
 intro pins s σ H x y v u Q I rx ry h
 obtain ⟨hs,q⟩:=h
 cases x with
 | non=>
  cases rx
  cases y with
  | non=>cases ry; exact PySem.EqNone.ne_none_none (Zbh I q (by simp))
  | bl j=>cases ry; exact PySem.EqNone.ne_none_bool (Zbh I q (by simp))
  | int j=>obtain ⟨t',rfl⟩:=ry; exact PySem.EqNone.ne_none_int (Zbh I q (by simp))
  | str j=>obtain ⟨t',rfl⟩:=ry; exact PySem.EqNone.ne_none_str (Zbh I q (by simp))
  | _=>exact absurd (show false=true from hs) Bool.false_ne_true
 | bl i=>
  cases rx
  cases y with
  | non=>cases ry; exact PySem.EqNone.ne_bool_none (Zbh I q (by simp))
  | bl j=>cases ry; exact ne_bool (Zbh I q (congrArg not Zoz))
  | str j=>obtain ⟨t',rfl⟩:=ry; exact PySem.EqMixed.ne_bool_str (Zbh I q (by simp))
  | _=>exact absurd (show false=true from hs) Bool.false_ne_true
 | int i=>
  obtain ⟨t,rfl⟩:=rx
  cases y with
  | non=>cases ry; exact PySem.EqNone.ne_int_none (Zbh I q (by simp))
  | int j=>obtain ⟨t',rfl⟩:=ry; exact ne_int (Zbh I q (congrArg not Zhh))
  | str j=>obtain ⟨t',rfl⟩:=ry; exact PySem.EqMixed.ne_int_str (Zbh I q (by simp))
  | _=>exact absurd (show false=true from hs) Bool.false_ne_true
 | str i=>
  obtain ⟨t,rfl⟩:=rx
  cases y with
  | non=>cases ry; exact PySem.EqNone.ne_str_none (Zbh I q (by simp))
  | bl j=>cases ry; exact PySem.EqMixed.ne_str_bool (Zbh I q (by simp))
  | int j=>obtain ⟨t',rfl⟩:=ry; exact PySem.EqMixed.ne_str_int (Zbh I q (by simp))
  | str j=>obtain ⟨t',rfl⟩:=ry; exact ne_str (Zbh I q (congrArg not Zm0))
  | _=>exact absurd (show false=true from hs) Bool.false_ne_true
 | byt i=>
  obtain ⟨t,rfl⟩:=rx
  cases y with
  | byt j=>obtain ⟨t',rfl⟩:=ry; exact PySem.W.ne_bytes (Zbh I q (congrArg not Zm8))
  | _=>exact absurd (show false=true from hs) Bool.false_ne_true
 | _=>cases y <;> exact absurd (show false=true from hs) Bool.false_ne_true
theorem Zmm:OpR X (compareOp .Lt) (rI0 fun i j=>.bl (decide (i < j))):=opB0 fun _ _ _ _ _ _ _ q=>lt_int q
theorem Zt3:OpR X (compareOp .LtE) (rI0 fun i j=>.bl (decide (i<=j))):=opB0 fun _ _ _ _ _ _ _ q=>le_int q
theorem Znf:OpR X (compareOp .Gt) (rI0 fun i j=>.bl (decide (j < i))):=opB0 fun _ _ _ _ _ _ _ q=>gt_int q
theorem Zn0:OpR X (compareOp .GtE) (rI0 fun i j=>.bl (decide (j<=i))):=opB0 fun _ _ _ _ _ _ _ q=>ge_int q
theorem Zqh:OpR X (compareOp .IsNot) (fun x y H Q=>y=.non/\Q (.bl (!decide (x=.non))) H):=by
 intro pins s σ H x y v u Q I rx ry h
 obtain ⟨rfl,q⟩:=h
 cases ry
 refine isnot_none_gen (Zbh I q ?_)
 cases x <;> first
  | (cases rx; rfl)
  | (obtain ⟨t,rfl⟩:=rx; rfl)
theorem OpR.or {f:Value->Value->Sem Value} {r r':R2} (h:OpR X f r) (h':OpR X f r'):OpR X f (fun x y H Q=>r x y H Q\/r' x y H Q):=by
 intro pins s σ H x y v u Q I rx ry q
 rcases q with q | q
 ·exact h pins s σ H x y v u Q I rx ry q
 ·exact h' pins s σ H x y v u Q I rx ry q
theorem nomark (b:Expr) {op:CmpOp} (h:op ≠ .In:=by decide) (h2:op ≠ .NotIn:=by decide):behindInMarks op b=false:=by
 have e1:(op == CmpOp.In)=false:=by cases op <;> first | rfl | exact absurd rfl h
 have e2:(op == CmpOp.NotIn)=false:=by cases op <;> first | rfl | exact absurd rfl h2
 cases b <;> simp [behindInMarks,e1,e2]
theorem Zfo {op:CmpOp} {r:R2} (ho:OpR X (compareOp op) r) (ha:PE X a ta) (hb:PE X b tb) (hm:behindInMarks op b=false):PE X (.Compare a [op] [b] pos) (tOp r ta tb):=by
 intro pins s σ H Q I h
 exact wpAny_Compare1 (binT ha hb I h fun v u s2 x y H2 I2 rx ry q=>ho pins s2 σ H2 x y v u Q I2 rx ry q) hm
def tTest (t:TE):TT:=fun σ H Q=>t σ H fun x H'=>∃ k,x=.bl k/\Q k H'
theorem Zar {op:CmpOp} {r:R2} (ho:OpR X (compareOp op) r) (ha:PE X a ta) (hb:PE X b tb) (hm:behindInMarks op b=false):PT X (.Compare a [op] [b] pos) (tTest (tOp r ta tb)):=by
 intro pins s σ H Q I h
 refine wpAny_isTrue_Compare1 (thn (ha pins s σ H _ I h) fun v s1 ⟨x,H1,I1,r1,q1⟩=>thn (hb pins s1 σ H1 _ I1 q1) fun u s2 ⟨y,H2,I2,r2,q2⟩=>
  thn (ho pins s2 σ H2 x y v u _ I2 r1 r2 q2) fun c s3 ⟨z,H3,I3,r3,k,e,q3⟩=>?_) hm
 subst e
 cases r3
 exact wpAny_truthy_bool ⟨H3,I3,q3⟩
def TruV (K:PySem.W.Frag) (x:V) (H:Hp) (k:Bool):Prop:=
 match x with
 | .non=>k=false
 | .bl b=>k=b
 | .int i=>k=(i != 0)
 | .str y=>y.length<=sizeLine/\k=((y.length:Int) != 0)
 | .byt y=>y.size<=sizeLine/\k=((y.size:Int) != 0)
 | .ref p=>(∃ xs,SqL K H p xs/\k = !xs.isEmpty)\/(∃ xs,SqT K H p xs/\k = !xs.isEmpty)\/∃ kvs,H p=some (.dK kvs)/\k = !kvs.isEmpty
 | _=>False
theorem Zku {κ:Type} {kvs:List (κ × V)} {vs:List (κ × Value)} (r:KV kvs vs):(!vs.isEmpty) = !kvs.isEmpty:=by
 cases r <;> rfl
theorem Zgs {xs:List V} {its:List Value} (r:Vals xs its):(!its.toArray.isEmpty) = !xs.isEmpty:=by
 cases r <;> simp
theorem line63:(sizeLine:Nat) < 2 ^ 63:=by rw [sizeLine_eq]; decide
theorem Ztg:TruR X (fun x H Q=>∃ k,TruV X.K x H k/\Q k H):=by
 intro pins s σ H x v Q I rx h
 obtain ⟨k,e,q⟩:=h
 have hl:=line63
 have hs:sizeLine=16777216:=sizeLine_eq
 cases x with
 | non=>
  cases rx
  have e':k=false:=e
  subst e'
  exact truthy_none ⟨H,I,q⟩
 | bl b=>
  cases rx
  have e':k=b:=e
  subst e'
  exact wpAny_truthy_bool ⟨H,I,q⟩
 | int i=>
  obtain ⟨t,rfl⟩:=rx
  have e':k=(i != 0):=e
  subst e'
  exact PySem.P.truthy_int ⟨H,I,q⟩
 | str y=>
  obtain ⟨t,rfl⟩:=rx
  obtain ⟨hy,e'⟩:y.length<=sizeLine/\k=((y.length:Int) != 0):=e
  subst e'
  exact PySem.P.truthy_str (by omega) ⟨H,I.tok _,q⟩
 | byt y=>
  obtain ⟨t,rfl⟩:=rx
  obtain ⟨hy,e'⟩:y.size<=sizeLine/\k=((y.size:Int) != 0):=e
  subst e'
  exact PySem.W.truthy_bytes (by omega) ⟨H,I.tok _,q⟩
 | ref p=>
  cases rx
  have e':(∃ xs,SqL X.K H p xs/\k = !xs.isEmpty)\/(∃ xs,SqT X.K H p xs/\k = !xs.isEmpty)\/∃ kvs,H p=some (.dK kvs)/\k = !kvs.isEmpty:=e
  rcases e' with ⟨xs,hx,e'⟩ | ⟨xs,hx,e'⟩ | ⟨kvs,hx,e'⟩
  ·subst e'
   obtain ⟨its,r,pl,hz⟩:=I.list hx
   have hlen:=r.length
   exact wpAny_truthy_list pl.isList (by simp only [List.size_toArray]; omega) ⟨H,I.tok _,by rw [Zgs r]; exact q⟩
  ·subst e'
   obtain ⟨its,r,pl,hz⟩:=I.tuple hx
   have hlen:=r.length
   exact truthy_tuple pl (by simp only [List.size_toArray]; omega) ⟨H,I.tok _,by rw [Zgs r]; exact q⟩
  ·subst e'
   obtain ⟨hz,hS,vs,r,m⟩:kvs.length<=sizeLine/\(p == sysModules)=false/\∃ vs,KV kvs vs/\s.heap.DictOf (mixKind X.prog X.w) p vs:=I.hok p _ hx
   have hlen:kvs.length=vs.length:=Paired.length r
   exact wpAny_truthy_dict hS m (by omega) ⟨H,I.tok _,by rw [Zku r]; exact q⟩
 | _=>exact (show False from e).elim
theorem Zoj (ha:PE X a ta) (he:∀ whole,isTrue a X.env whole=(do let v ← whole; standAt a.pos; holding [v] (truthy v))) :
  PT X a (fun σ H Q=>ta σ H fun x H'=>∃ k,TruV X.K x H' k/\Q k H'):=by
 intro pins s σ H Q I h
 exact isTrue_plain (thn (ha pins s σ H _ I h) fun v s1 ⟨x,H1,I1,r1,q1⟩=>Ztg pins s1 σ H1 x v Q I1 r1 q1) (he _)
theorem vals1 {x:V} {us:List Value} (r:Vals [x] us):∃ u,us=[u]/\RelV x u:=by
 cases r with
 | cons r1 r2=>cases r2; exact ⟨_,rfl,r1⟩
theorem vals2 {x y:V} {us:List Value} (r:Vals [x,y] us):∃ u w',us=[u,w']/\RelV x u/\RelV y w':=by
 cases r with
 | cons r1 r2=>
  cases r2 with
  | cons r3 r4=>cases r4; exact ⟨_,_,rfl,r1,r3⟩
theorem Zed:CallR X (.builtin "abs") (fun xs H Q=>∃ i,xs=[.int i]/\Q (.int (if i < 0 then -i else i)) H):=by
 intro pins s σ H xs us Q I r h
 obtain ⟨i,rfl,q⟩:=h
 obtain ⟨u,rfl,t,rfl⟩:=vals1 r
 exact call_abs_int fun u tk=>⟨.int (if i < 0 then -i else i),H,I.tok _,⟨_,rfl⟩,q⟩
theorem Zda (hc:X.calm=true):CallR X (.builtin "max") (fun xs H Q=>∃ i j,xs=[.int i,.int j]/\Q (.int (if j > i then j else i)) H):=by
 intro pins s σ H xs us Q I r h
 obtain ⟨i,j,rfl,q⟩:=h
 obtain ⟨u,w',rfl,⟨t,rfl⟩,⟨t',rfl⟩⟩:=vals2 r
 refine max_two_ints (I.ok.hd hc) fun h' tk k=>⟨_,H,I.kept k,?_,q⟩
 by_cases hj:j > i
 ·rw [if_pos hj,if_pos hj]; exact ⟨_,rfl⟩
 ·rw [if_neg hj,if_neg hj]; exact ⟨_,rfl⟩
theorem Zde (hc:X.calm=true):CallR X (.builtin "min") (fun xs H Q=>∃ i j,xs=[.int i,.int j]/\Q (.int (if j < i then j else i)) H):=by
 intro pins s σ H xs us Q I r h
 obtain ⟨i,j,rfl,q⟩:=h
 obtain ⟨u,w',rfl,⟨t,rfl⟩,⟨t',rfl⟩⟩:=vals2 r
 refine min_two_ints (I.ok.hd hc) fun h' tk k=>⟨_,H,I.kept k,?_,q⟩
 by_cases hj:j < i
 ·rw [if_pos hj,if_pos hj]; exact ⟨_,rfl⟩
 ·rw [if_neg hj,if_neg hj]; exact ⟨_,rfl⟩
end
end L2
namespace L2
open PySem PySem.Spec PyProof.Rows
structure ObjM (h:Heap) (x dx C:Addr) (mA:Str->Option Value):Prop where
 obj:h.get? x=some (PySem.W.instObj C dx)
 ns:h.Ns1 dx mA
 ne:dx ≠ x
theorem Zm6 {h:Heap} {dx:Addr} {mA:Str->Option Value} (n:h.Ns1 dx mA):∃ od,h.get? dx=some od/\∀ name,PySem.W.lookIn name od=some (mA name):=by
 obtain ⟨o,es,ep,ho,hd,hk,_,hm⟩:=n
 refine ⟨o,ho,fun name=>?_⟩
 have e:=hm name
 unfold nsFind findBy at e
 rw [<- Array.find?_toList] at e
 unfold PySem.W.lookIn
 rw [hd]
 dsimp only
 split
 ·rename_i y q
  rw [q] at e
  exact congrArg some e
 ·rename_i q
  rw [q] at e
  have a:es.toList.any (·.refKey)=false:=by
   rw [List.any_eq_false]
   intro y hy
   obtain ⟨z,t,hkey⟩:=hk y (Array.mem_toList_iff.mp hy)
   simp [DictEntry.refKey,hkey]
  have a':¬ es.toList.any (·.refKey)=true:=by rw [a]; exact Bool.false_ne_true
  rw [if_neg a']
  exact congrArg some e
theorem ObjM.look {h:Heap} {x dx C:Addr} {mA:Str->Option Value} (I:ObjM h x dx C mA):∃ od,PySem.W.InstAt h x (PySem.W.instObj C dx) C (some od)/\∀ name,PySem.W.lookIn name od=some (mA name):=
 let ⟨od,ho,hl⟩:=Zm6 I.ns
 ⟨od,⟨I.obj,rfl,rfl,ho⟩,hl⟩
theorem RelO.some_of {v:V} {o:Option Value} (r:RelO (some v) o):∃ u,o=some u/\RelV v u:=by
 cases o with
 | none=>exact (show False from r).elim
 | some u=>exact ⟨u,rfl,r⟩
theorem RelO.none_of {o:Option Value} (r:RelO none o):o=none:=by
 cases o with
 | none=>rfl
 | some u=>exact (show False from r).elim
section
variable {P:Program} {w:World} {H H':Hp} {h h':Heap} {a C dx:Addr} {fs fs':List (Str × V)}
theorem Zpn (hok:HOk P w H h) (e:H a=some (.ins C dx fs)):∃ mA,ObjM h a dx C mA/\(∀ f,RelO (fs.lookup f) (mA f))/\PySem.Within mA (fs.map (·.1))/\fs.length<=1000/\H dx=some (.own a):=by
 obtain ⟨d,z,ne,ob,mA,n,r,q⟩:=(show ObjOk P w H h a (.ins C dx fs) from hok a _ e)
 exact ⟨mA,⟨ob,n,ne⟩,r,q,z,d⟩
end
structure Cls (K:PySem.W.Frag) (C:Addr):Prop where
 pg:PySem.W.plainGet K C Str.empty=true
 hd:PySem.W.hasDictIn K C=true
 po:PySem.W.plainOver K C=true
 sa:PySem.W.findIn K (.ref C) "__setattr__" = some (some (.builtin "object.__setattr__"))
theorem Cls.get {K:PySem.W.Frag} {C:Addr} (c:Cls K C) (f:Str):PySem.W.plainGet K C f=true:=c.pg
section
variable {X:Cx} {pins:List (Addr × Obj)} {σ:St} {H:Hp} {s:Shared} {a C dx:Addr} {fs:List (Str × V)} {f:Str} {v:V} {A:Around} {E:Value->Shared->Prop}
end
section
variable {X:Cx} {pins:List (Addr × Obj)} {σ:St} {H:Hp} {s:Shared} {A:Around} {E:Value->Shared->Prop} {Q:Value->Shared->Prop} {c:Value} {b:Bool}
inductive TyOf (K:PySem.W.Frag) (H:Hp):V->Value->Prop where
 | non:TyOf K H .non (.type "NoneType")
 | bl (x:Bool):TyOf K H (.bl x) (.type "bool")
 | int (i:Int):TyOf K H (.int i) (.type "int")
 | str (x:Str):TyOf K H (.str x) (.type "str")
 | flt (x:UInt64):TyOf K H (.flt x) (.type "float")
 | lst {a:Addr} {xs:List V} (e:H a=some (.lst xs)):TyOf K H (.ref a) (.type "list")
 | frz {a:Addr} {o:Obj} {xs:List V} (e:H a=some (.frz o (.lst xs))):TyOf K H (.ref a) (.type "list")
 | tup {a:Addr} {xs:List V} (e:H a=some (.tup xs)):TyOf K H (.ref a) (.type "tuple")
 | dK {a:Addr} {kvs:List (Key × V)} (e:H a=some (.dK kvs)):TyOf K H (.ref a) (.type "dict")
 | dT {a:Addr} {kvs:List (List Key × V)} (e:H a=some (.dT kvs)):TyOf K H (.ref a) (.type "dict")
 | ins {a C dx:Addr} {fs:List (Str × V)} (e:H a=some (.ins C dx fs)) (cl:Cls K C) (ha:PySem.W.findIn K (.ref C) "__class__" = some (some (.builtin "object.__class__")))
   (hn:PySem.W.specialIn K (.builtin "object.__class__") "__get__" = some (some (.builtin "getset_descriptor.__get__"))) (htk:PySem.W.takesIn K (.builtin "object.__class__")=some true)
   (hm:PySem.W.mroIn K C (.type "object")=some true):TyOf K H (.ref a) (.ref C)
theorem Zly {x:V} {u t:Value} (I:Inv X pins σ H s) (rx:RelV x u) (ty:TyOf X.K H x t) (e:PySem.W.kitOne X.K t c=some b) (h:∀ tk,Q (.bool b) { s with toks:=tk }) :
  wpAny (model X.prog X.w) A (call (.builtin "isinstance") [u,c]) Q E s:=by
 cases ty with
 | non=>cases (show u=Value.none from rx); exact PySem.W.kia_one PySem.W.kitx_none I.kIn True.intro e (fun z=>nomatch z) h
 | bl y=>cases (show u=Value.bool y from rx); exact PySem.W.kia_one PySem.W.kitx_bool I.kIn True.intro e (fun z=>nomatch z) h
 | int i=>obtain ⟨t,q⟩:=(show ∃ t,u=Value.int i t from rx); cases q; exact PySem.W.kia_one PySem.W.kitx_int I.kIn True.intro e (fun z=>nomatch z) h
 | str y=>obtain ⟨t,q⟩:=(show ∃ t,u=Value.str y t from rx); cases q; exact PySem.W.kia_one PySem.W.kitx_str I.kIn True.intro e (fun z=>nomatch z) h
 | flt y=>obtain ⟨t,q⟩:=(show ∃ t,u=Value.float y t from rx); cases q; exact PySem.W.kia_one PySem.W.kitx_float I.kIn True.intro e (fun z=>nomatch z) h
 | @lst a xs ea=>
  cases (show u=Value.ref a from rx)
  obtain ⟨_,_,n,_,h1⟩:=(show ObjOk X.prog X.w H s.heap a (.lst xs) from I.hok a _ ea)
  exact PySem.W.kia_one PySem.W.kitx_list I.kIn ⟨_,h1,rfl⟩ e (fun z=>nomatch z) h
 | @frz a ob xs ea=>
  cases (show u=Value.ref a from rx)
  obtain ⟨_,_,_,n,_,h1⟩:=(show ObjOk X.prog X.w H s.heap a (.frz ob (.lst xs)) from I.hok a _ ea)
  exact PySem.W.kia_one PySem.W.kitx_list I.kIn ⟨_,h1,rfl⟩ e (fun z=>nomatch z) h
 | @tup a xs ea=>
  cases (show u=Value.ref a from rx)
  obtain ⟨_,_,_,p⟩:=(show ObjOk X.prog X.w H s.heap a (.tup xs) from I.hok a _ ea)
  obtain ⟨o,h1,⟨h2,_⟩,_⟩:=p
  exact PySem.W.kia_one PySem.W.kitx_tuple I.kIn ⟨o,h1,h2⟩ e (fun z=>nomatch z) h
 | @dK a kvs ea=>
  cases (show u=Value.ref a from rx)
  obtain ⟨_,_,vs,_,p⟩:=(show ObjOk X.prog X.w H s.heap a (.dK kvs) from I.hok a _ ea)
  obtain ⟨o,es,ep,h1,h2,_⟩:=p
  exact PySem.W.kia_one PySem.W.kitx_dict I.kIn ⟨o,h1,h2.1⟩ e (fun z=>nomatch z) h
 | @dT a kvs ea=>
  cases (show u=Value.ref a from rx)
  obtain ⟨_,_,xs,_,o,es,ep,h1,h2,_⟩:=(show ObjOk X.prog X.w H s.heap a (.dT kvs) from I.hok a _ ea)
  exact PySem.W.kia_one PySem.W.kitx_dict I.kIn ⟨o,h1,h2.1⟩ e (fun z=>nomatch z) h
 | @ins a C dx fs ea cl ha hn htk hm=>
  cases (show u=Value.ref a from rx)
  obtain ⟨mA,O,_⟩:=Zpn I.hok ea
  obtain ⟨od,J,_⟩:=O.look
  exact PySem.W.kia_one (PySem.W.kitx_own (cl.get _) cl.hd ha hn htk hm) I.kIn J e (fun z=>nomatch z) h
end
end L2
namespace L2
open PySem PySem.Spec PyProof.Rows
structure Room (k:Nat) (A:Around):Prop where
 hd:A.handled=none
 dp:A.depth + 3 * k + 5 < recursionLimit
 un:A.units + 16 * k + 200 < cLine
 gd:A.guards=some []
theorem Room.mono {j k:Nat} {A:Around} (r:Room k A) (h:j<=k):Room j A:=⟨r.hd,by have:=r.dp; omega,by have:=r.un; omega,r.gd⟩
theorem Room.deeper {k:Nat} {A:Around} (r:Room (k + 1) A) (env:Env):Room k (A.deeper env):=
 ⟨r.hd,by have:=r.dp; show A.depth + 1 + 3 * k + 5 < _; omega,by have:=r.un; show A.units + 3 + 16 * k + 200 < _; omega,r.gd⟩
theorem Room.depth {k:Nat} {A:Around} (r:Room k A):A.depth < recursionLimit:=by have:=r.dp; omega
theorem Room.units {k:Nat} {A:Around} (r:Room k A):A.units + 64 < cLine:=by have:=r.un; omega
def tNil:TA:=fun _ H Q=>Q [] H
def tCons (ta:TE) (tr:TA):TA:=fun σ H Q=>ta σ H fun x H1=>tr σ H1 fun xs H2=>Q (x :: xs) H2
section
variable {X:Cx} {e:Expr} {es:List Expr} {te:TE} {t:TA} {pos:Pos}
theorem Zac:PA X [] tNil:=fun _ _ _ _ H Q I h=>Calls.spliced_nil ⟨[],H,I,.nil,h⟩
theorem Zaa (ha:PE X e te) (hr:PA X es t) (hs:starEach (e :: es) X.env=(false,eval e X.env) :: starEach es X.env:=by rfl):PA X (e :: es) (tCons te t):=by
 intro pos pins s σ H Q I h
 rw [hs]
 show wpAny _ _ (spliced ((false,eval e X.env) :: backTo pos (starEach es X.env))) _ _ s
 refine Calls.spliced_cons (thn (ha pins s σ H _ I h) fun u s1 ⟨x,H1,I1,r1,q1⟩=>?_)
 exact thn (hr pos pins s1 σ H1 _ I1 q1) fun us s2 ⟨xs,H2,I2,r2,q2⟩=>⟨x :: xs,H2,I2,.cons r1 r2,q2⟩
def tTup (t:TA):TE:=fun σ H Q=>t σ H fun xs H1=>xs.length<=sizeLine/\∀ p,H1 p=none->Q (.ref p) (upd H1 p (.tup xs))
def tLst (t:TA):TE:=fun σ H Q=>t σ H fun xs H1=>xs.length<=sizeLine/\∀ p,H1 p=none->Q (.ref p) (upd H1 p (.lst xs))
theorem Zbl {x1} (h:PA X es t):PE X (.Tuple es x1 pos) (tTup t):=by
 intro pins s σ H Q I hq
 refine wpAny_Tuple_spliced (thn (h pos pins s σ H _ I hq) fun us s1 ⟨xs,H1,I1,r,z,q⟩=>⟨by rw [<- r.length]; exact z,?_⟩)
 have hf:H1 s1.heap.objs.size=none:=I1.hok.fresh (Nat.le_refl _)
 refine ⟨.ref s1.heap.objs.size,upd H1 s1.heap.objs.size (.tup xs),I1.laid (t':=s1.toks) (fun b u e=>Heap.get?_push_of_some _ e) (Nat.le_refl _) ?_,rfl,q _ hf⟩
 exact ⟨z,us,r,⟨_,Heap.get?_push_size _ rfl,⟨rfl,_,rfl⟩,rfl⟩⟩
theorem Zb5 (h:PA X es t):PE X (.List es pos) (tLst t):=by
 intro pins s σ H Q I hq
 refine wpAny_List_spliced (thn (h pos pins s σ H _ I hq) fun us s1 ⟨xs,H1,I1,r,z,q⟩=>⟨by rw [<- r.length]; exact z,?_⟩)
 have hf:H1 s1.heap.objs.size=none:=I1.hok.fresh (Nat.le_refl _)
 refine ⟨.ref s1.heap.objs.size,upd H1 s1.heap.objs.size (.lst xs),I1.laid (t':=s1.toks) (fun b u e=>Heap.get?_push_of_some _ e) (Nat.le_refl _) ?_,rfl,q _ hf⟩
 exact ⟨z,us,0,r,Heap.get?_push_size _ rfl⟩
end
abbrev Sp:=List V->Hp->VK->XK->Prop
abbrev CXT:=List Env->Hp->Shared->XK->Value->Shared->Prop
structure Env0 (P:Program) (w:World) (K:PySem.W.Frag) (mg:Str->Option Value) (base:Heap) (A:Around) (outer:List Env) (s:Shared) (H:Hp):Prop where
 frames:A.frames=some outer
 mod:Mod K mg base
 bs:∀ b o,base.get? b=some o->s.heap.get? b=some o/\H b=none
 bsz:base.objs.size<=s.heap.objs.size
 funs:s.heap.FunFrames base outer
 frf:∀ b ∈ frs outer,H b=none
 hok:HOk P w H s.heap
 bare:AllBare s.gens
def CE (outer:List Env) (P:Program) (w:World) (H:Hp) (s:Shared) (Q:VK) (u:Value) (s':Shared):Prop:=
 ∃ v H',s'.os=s.os/\AllBare s'.gens/\Un (frs outer) [] H H' s.heap s'.heap/\HOk P w H' s'.heap/\RelV v u/\Q v H'
def CR (CX:CXT) (outer:List Env) (P:Program) (w:World) (H:Hp) (s:Shared) (Q:VK) (E:XK) (r:Result) (s':Shared):Prop:=
 match r with
 | .ok (.ret u)=>CE outer P w H s Q u s'
 | .ok _=>False
 | .error e=>CX outer H s E e s'
structure FnOk (P:Program) (w:World) (K:PySem.W.Frag) (mg:Str->Option Value) (base:Heap) (CX:CXT) (k:Nat) (f:Addr) (fd:FuncData) (ps:List Str) (sp:Sp):Prop where
 len:∀ vs H Q E,sp vs H Q E->vs.length=ps.length
 run:∀ (A:Around) (outer:List Env) (s:Shared) (H:Hp) (args:Args) (us:List Value) (vs:List V) (Q:VK) (E:XK),Room k A->Env0 P w K mg base A outer s H->BindsTo s fd args (ps.zip us)->Vals vs us->sp vs H Q E →
  codeAny (model P w) A (.call (.ref f) args) (CR CX outer P w H s Q E) s
theorem FnOk.imp {P:Program} {w:World} {K:PySem.W.Frag} {mg:Str->Option Value} {base:Heap} {CX:CXT} {k:Nat} {f:Addr} {fd:FuncData} {ps:List Str} {sp sp':Sp} (F:FnOk P w K mg base CX k f fd ps sp)
  (h:∀ vs H Q E,sp' vs H Q E->sp vs H Q E):FnOk P w K mg base CX k f fd ps sp':=
 ⟨fun vs H Q E q=>F.len vs H Q E (h _ _ _ _ q),fun A outer s H args us vs Q E hr he hb hv hs=>F.run A outer s H args us vs Q E hr he hb hv (h _ _ _ _ hs)⟩
section
variable {X:Cx} {pins:List (Addr × Obj)} {σ:St} {H:Hp} {s s':Shared}
theorem Inv.env0 (I:Inv X pins σ H s):Env0 X.prog X.w X.K X.mg X.base X.A X.stack s H:=
 ⟨I.ok.frames,I.ok.mod,I.bs,Nat.le_trans I.ok.bsz I.sz,I.stack,I.stkFree,I.hok,I.bare⟩
theorem Inv.after {Q:VK} {u:Value} (I:Inv X pins σ H s) (h:CE X.stack X.prog X.w H s Q u s'):EP X pins σ Q u s':=by
 obtain ⟨v,H',os,bare,un,hok,r,q⟩:=h
 obtain ⟨hh,g,d,t,os'⟩:=s'
 obtain rfl:os' = s.os:=os
 exact ⟨v,H',I.call (h':=hh) (g':=g) (d':=d) (t':=t) (ch:=[]) un hok bare (fun b z=>absurd z (by simp)),r,q⟩
end
def tCall (sp:Sp) (dvs:List V) (E:XK) (t:TA):TE:=fun σ H Q=>t σ H fun vs H1=>sp (vs ++ dvs) H1 Q E
def Binds (K:PySem.W.Frag) (fd:FuncData) (ps:List Str) (ds:List Value):Prop:=
 ∀ (s:Shared) (us:List Value),K.In s.heap->(us ++ ds).length=ps.length->BindsTo s fd ⟨us,[]⟩ (ps.zip (us ++ ds))
theorem Binds.all {K:PySem.W.Frag} {fd:FuncData} {ps:List Str} (h:∀ us:List Value,us.length=ps.length->bindArgs fd ⟨us,[]⟩ = pure (ps.zip us)):Binds K fd ps []:=fun s us _ hl=>by
 rw [List.append_nil] at hl ⊢
 exact .of_eq (h us hl)
def Passes (CX:CXT) (X:Cx) (E:XK):Prop:=∀ (pins:List (Addr × Obj)) (σ:St) (H:Hp) (s:Shared) (e:Value) (s':Shared),Inv X pins σ H s->CX X.stack H s E e s' -> X.xe e s'
section
variable {X:Cx} {CX:CXT} {k:Nat} {f C:Addr} {fd:FuncData} {ps:List Str} {sp:Sp} {dvs:List V} {ds:List Value} {E:XK} {x m:Str} {p pos apos:Pos} {e o:Expr} {es:List Expr} {ta:TE} {t:TA}
theorem Zsm {pins:List (Addr × Obj)} {σ:St} {H:Hp} {s:Shared} {Q:VK} {us:List Value} {vs:List V} (F:FnOk X.prog X.w X.K X.mg X.base CX k f fd ps sp) (hr:Room k X.A) (hb:Binds X.K fd ps ds) (hd:Vals dvs ds) (hx:Passes CX X E)
  (I:Inv X pins σ H s) (r:Vals vs us) (h:sp (vs ++ dvs) H Q E):wpAny (model X.prog X.w) X.A (call (.ref f) us) (EP X pins σ Q) X.xe s:=by
 have r2:Vals (vs ++ dvs) (us ++ ds):=r.append hd
 have hl:(us ++ ds).length=ps.length:=by rw [<- r2.length]; exact F.len _ _ _ _ h
 refine wpAny_call (codeAny_mono (F.run X.A X.stack s H ⟨us,[]⟩ (us ++ ds) (vs ++ dvs) Q E hr I.env0 (hb s us I.kIn hl) r2 h) fun r s' hq=>?_)
 cases r with
 | error e=>exact hx pins σ H s e s' I hq
 | ok fl=>
  cases fl with
  | ret u=>exact I.after hq
  | next=>exact False.elim hq
  | brk=>exact False.elim hq
  | cont=>exact False.elim hq
theorem Zqe (F:FnOk X.prog X.w X.K X.mg X.base CX k f fd ps sp) (hr:Room k X.A) (hg:Gl X x) (hm:X.mg x=some (.ref f)) (hk:PySem.W.keepIn X.K (.ref f)=true) (hb:Binds X.K fd ps ds) (hd:Vals dvs ds) (hx:Passes CX X E)
  (ha:PA X (e :: es) t) (hdb:(x == ("__debug__":Str))=false:=by decide) (he:starEach (e :: es) X.env=(false,eval e X.env) :: starEach es X.env:=by rfl) (hpl:(backTo pos (starEach es X.env)).any (·.1)=false:=by rfl) :
  PE X (.Call (.Name x p) (e :: es) [] pos) (tCall sp dvs E t):=by
 intro pins s σ H Q I h
 refine wpAny_Call_Name_kw (Zpw I hg hm ?_ hdb)
 refine PySem.W.callWith_K (h₀:=X.base) I.ok.mod.kin hk (thn (ha pos pins s σ H _ I h) fun us s1 ⟨vs,H1,I1,r,q⟩=>⟨I1.kIn,?_⟩) he hpl
 exact Zsm F hr hb hd hx I1 r q
end
section
variable {X:Cx} {CX:CXT} {k:Nat} {f C:Addr} {fd:FuncData} {ps ks:List Str} {sp:Sp} {E:XK} {x m:Str} {p pos apos kpos:Pos} {e o:Expr} {es:List Expr} {kws:List Keyword} {te ta:TE} {t tk:TA} {nm:Option Str}
variable {g:List Value->List Value->List Value} {gV:List V->List V->List V}
end
structure FnScope (N P:List Str) (sc:Scope):Prop where
 kind:sc.kind=.function
 co:sc.isCoroutine=false
 gen:sc.isGenerator=false
 nd:N.Nodup
 pre:N.take P.length=P
 par:∀ x ∈ P,sc.names.lookup x=some .local\/sc.names.lookup x=some .cell
 nofree:∀ y ∈ sc.names,y.2 ≠ .free
theorem Zh4 {kindOf:Str->Option NameKind} {x:Str}:∀ {binds:List (Str × Value)} {m:Str->Option Value},(∀ v,(x,v) ∉ binds)->bindL kindOf binds m x=m x
 | [],_,_=>rfl
 | (n,v) :: r,m,h=>by
  unfold bindL
  rw [Zh4 fun w hw=>h w (List.mem_cons_of_mem _ hw)]
  split
  ·have:x ≠ n:=by rintro rfl; exact h v List.mem_cons_self
   simp [this]
  ·rfl
theorem Zid {kindOf:Str->Option NameKind} {x:Str}:∀ {binds:List (Str × Value)} {m:Str->Option Value},(∀ v,(x,v) ∉ binds)->bindC kindOf binds m x=m x
 | [],_,_=>rfl
 | (n,v) :: r,m,h=>by
  unfold bindC
  rw [Zid fun w hw=>h w (List.mem_cons_of_mem _ hw)]
  split
  ·rfl
  ·have:x ≠ n:=by rintro rfl; exact h v List.mem_cons_self
   simp [this]
theorem Zhz {kindOf:Str->Option NameKind} {x:Str} {v:Value}:∀ {P:List Str} {vs:List Value} {i:Nat} {m:Str->Option Value},P.Nodup->P[i]? = some x->vs[i]? = some v->kindOf x=some .local →
  bindL kindOf (P.zip vs) m x=some v
 | [],_,_,_,_,h,_,_=>by simp at h
 | _ :: _,[],_,_,_,_,h,_=>by simp at h
 | p :: P,w :: vs,0,m,nd,h1,h2,hk=>by
  simp at h1 h2; subst h1; subst h2
  show bindL kindOf ((p,w) :: P.zip vs) m p=_
  unfold bindL
  rw [Zh4 fun v hv=>(List.nodup_cons.mp nd).1 (List.of_mem_zip hv).1,if_pos hk]
  simp
 | p :: P,w :: vs,i + 1,m,nd,h1,h2,hk=>by
  show bindL kindOf ((p,w) :: P.zip vs) m x=_
  unfold bindL
  exact Zhz (i:=i) (List.nodup_cons.mp nd).2 (by simpa using h1) (by simpa using h2) hk
theorem Zh6 {kindOf:Str->Option NameKind} {x:Str} {v:Value}:∀ {P:List Str} {vs:List Value} {i:Nat} {m:Str->Option Value},P.Nodup->P[i]? = some x->vs[i]? = some v->kindOf x ≠ some .local →
  bindC kindOf (P.zip vs) m x=some v
 | [],_,_,_,_,h,_,_=>by simp at h
 | _ :: _,[],_,_,_,_,h,_=>by simp at h
 | p :: P,w :: vs,0,m,nd,h1,h2,hk=>by
  simp at h1 h2; subst h1; subst h2
  show bindC kindOf ((p,w) :: P.zip vs) m p=_
  unfold bindC
  rw [Zid fun v hv=>(List.nodup_cons.mp nd).1 (List.of_mem_zip hv).1,if_neg hk]
  simp
 | p :: P,w :: vs,i + 1,m,nd,h1,h2,hk=>by
  show bindC kindOf ((p,w) :: P.zip vs) m x=_
  unfold bindC
  exact Zh6 (i:=i) (List.nodup_cons.mp nd).2 (by simpa using h1) (by simpa using h2) hk
def start (N:List Str) (vs:List V):St:=vs.map some ++ List.replicate (N.length - vs.length) none
def cxOf (CX:CXT) (P:Program) (w:World) (K:PySem.W.Frag) (mg:Str->Option Value) (base:Heap) (N:List Str) (qual:Str) (scope:Scope) (f:Addr) (cd:Value) (A:Around) (outer:List Env) (s:Shared) (H:Hp) (E:XK):Cx where
 prog:=P
 w:=w
 K:=K
 mg:=mg
 base:=base
 A:=A.deeper (envOfC qual scope s.heap.objs.size f cd)
 N:=N
 s₀:=s
 H₀:=H
 env:=envOfC qual scope s.heap.objs.size f cd
 outer:=outer
 stack:=envOfC qual scope s.heap.objs.size f cd :: outer
 ex:=[]
 calm:=true
 fn:=fun _=>true
 pn:=[]
 xe:=fun e s'=>wpAny (model P w) (A.deeper (envOfC qual scope s.heap.objs.size f cd)) (leaving (envOfC qual scope s.heap.objs.size f cd) e) (fun _ s''=>CX outer H s E e s'') (fun e' s''=>CX outer H s E e' s'') s'
theorem Zjd {sc:Scope} {n:Nat} {x:Str} (h:sc.names.lookup x=some .cell):∃ c,(cellsFrom n sc.names []).lookup x=some c:=by
 have q:=PySem.W.cellsFrom_some sc.names n [] (.inl h)
 exact Option.isSome_iff_exists.mp q
theorem Zmj {CX:CXT} {P:Program} {w:World} {K:PySem.W.Frag} {mg:Str->Option Value} {base:Heap} {N ps:List Str} {qual:Str} {scope:Scope} {f:Addr} {cd:Value} {A:Around} {outer:List Env} {s s1:Shared} {H:Hp} {E:XK} {us:List Value} {vs:List V}
  (S:FnScope N ps scope) (hd:A.handled=none) (e0:Env0 P w K mg base A outer s H) (hl:vs.length=ps.length) (r:Vals vs us)
  (x:InCallC s s.heap.objs.size (bindL (envOfC qual scope s.heap.objs.size f cd).kindOf (ps.zip us) fun _=>none) (cellsFrom (s.heap.objs.size + 1) scope.names []) (bindC (envOfC qual scope s.heap.objs.size f cd).kindOf (ps.zip us) fun _=>none) s1) :
  Inv (cxOf CX P w K mg base N qual scope f cd A outer s H E) [] (start N vs) H s1:=by
 have hpl:ps.length<=N.length:=by have:=congrArg List.length S.pre; rw [List.length_take] at this; omega
 obtain ⟨h1,tk,rfl,hk⟩:=x.done
 have noA:∀ b:Addr,b ∉ (cxOf CX P w K mg base N qual scope f cd A outer s H E).ex:=fun b z=>absurd (show b ∈ ([]:List Addr) from z) (by simp)
 refine ⟨⟨e0.mod,S.kind,rfl,rfl,Nat.le_refl _,fun y z c h1 h2=>?_,fun y hy=>?_,fun y c _ h=>?_,fun _=>hd,Around.frames_deeper e0.frames,.inr ⟨rfl,rfl⟩,fun b z=>absurd z (noA b),e0.bs,e0.bsz,fun b _ _=>noA b,fun b z=>absurd z (noA b),e0.funs,e0.frf⟩,
  rfl,e0.bare,Un.kept hk,⟨_,x.toInCall.ns,fun i y v h1 h2 h3=>?_⟩,fun y c h=>⟨_,x.cell y c h⟩,e0.hok.fresh (Nat.le_refl _),fun y c h=>?_,fun p hp=>absurd (show p ∈ ([]:List (Addr × Obj)) from hp) (by simp),e0.hok.kept hk,?_⟩
 ·exact name_of_addr x.apart (PySem.mem_of_lookup h1) (PySem.mem_of_lookup h2)
 ·have hy:scope.names.lookup y=some .cell\/scope.names.lookup y=some .free:=hy
  rcases hy with hy | hy
  ·exact Zjd hy
  ·exact absurd rfl (S.nofree _ (PySem.mem_of_lookup hy))
 ·exact Nat.le_of_lt (x.above y c (PySem.mem_of_lookup h))
 ·have hi:i < vs.length:=by
   unfold start at h2
   by_cases hi:i < vs.length
   ·exact hi
   ·rw [List.getElem?_append_right (by simpa using hi)] at h2
    rw [List.getElem?_replicate] at h2
    split at h2 <;> cases h2
  have ha:vs[i]? = some v:=by
   unfold start at h2
   rw [List.getElem?_append_left (by simpa using hi),List.getElem?_map] at h2
   cases e:vs[i]? with
   | none=>rw [e] at h2; cases h2
   | some a=>rw [e] at h2; cases h2; rfl
  obtain ⟨u,hu,rv⟩:=r.get ha
  have hp:ps[i]? = some y:=by
   rw [<- S.pre,List.getElem?_take_of_lt (by omega)]; exact h1
  have ndP:ps.Nodup:=by rw [<- S.pre]; exact S.nd.sublist (List.take_sublist _ _)
  refine ⟨u,rv,?_⟩
  rcases S.par y (List.mem_of_getElem? hp) with k | k
  ·exact .inl ⟨k,Zhz ndP hp hu k⟩
  ·obtain ⟨c,e⟩:=Zjd (n:=s.heap.objs.size + 1) k
   refine .inr ⟨.inl k,c,e,?_⟩
   have q:=x.cell y c e
   rw [Zh6 ndP hp hu (by show scope.names.lookup y ≠ _; rw [k]; decide)] at q
   exact q
 ·exact e0.hok.fresh (Nat.le_of_lt (x.above y c (PySem.mem_of_lookup h)))
 ·unfold start
  show _=N.length
  rw [List.length_append,List.length_map,List.length_replicate]
  omega
theorem Zt5 {CX:CXT} {P:Program} {w:World} {K:PySem.W.Frag} {mg:Str->Option Value} {base:Heap} {k:Nat} {f:Addr} {name qual:Str} {params:Arguments} {body:List Stmt} {scope:Scope} {dV kV doc pm cdv ct oc:Value} {an od:Option Addr}
  {osl:Array (Option Value)} {N ps:List Str} {sp:Sp} (lk:K.lookup f=some ⟨oc,od,.func (PySem.W.fnOf name qual params body scope dV kV doc pm an cdv ct),osl⟩) (hcd:PySem.W.codeIn K cdv qual=true) (S:FnScope N ps scope)
  (len:∀ vs H Q E,sp vs H Q E->vs.length=ps.length)
  (hbody:∀ (A:Around) (outer:List Env) (s:Shared) (H:Hp) (vs:List V) (Q:VK) (E:XK),Room k (A.deeper (envOfC qual scope s.heap.objs.size f cdv))->sp vs H Q E →
   ∃ t,PSs (cxOf CX P w K mg base N qual scope f cdv A outer s H E) body t/\t { nx:=fun _ H'=>Q .non H',rt:=Q } (start N vs) H) :
  FnOk P w K mg base CX (k + 1) f (PySem.W.fnOf name qual params body scope dV kV doc pm an cdv ct) ps sp:=by
 refine ⟨len,fun A outer s H args us vs Q E hr e0 hb r hsp=>?_⟩
 have hl:=len _ _ _ _ hsp
 have KX:K.In s.heap:=e0.mod.kin.keeps fun b o e=>(e0.bs b o e).1
 have lim:s.heap.NoLimit:=e0.mod.nolimit.keeps fun b o e=>(e0.bs b o e).1
 have hkind:∀ y ∈ ps.zip us,scope.names.lookup y.1=some .local\/(scope.names.lookup y.1=some .cell/\((cellsFrom (s.heap.objs.size + 1) scope.names []).lookup y.1).isSome=true):=fun ⟨n,v⟩ hy=>by
  rcases S.par n (List.of_mem_zip hy).1 with q | q
  ·exact .inl q
  ·exact .inr ⟨q,PySem.W.cellsFrom_some _ _ _ (.inl q)⟩
 refine codeAny_call_function hr.depth (KX _ _ lk) rfl S.co S.gen rfl (PySem.W.codeRec_of KX hcd) (hb _ _ _ _ ?_)
 refine wpAny_newFunctionEnv_cells S.kind hkind fun env he s1 x=>?_
 subst he
 refine ⟨lim.keeps x.toInCall.keep,codeAny_func ?_⟩
 obtain ⟨t,ht,hq⟩:=hbody A outer s H vs Q E (hr.deeper _) hsp
 have I:Inv (cxOf CX P w K mg base N qual scope f cdv A outer s H E) [] (start N vs) H s1:=Zmj S hr.hd e0 hl r x
 refine wpAny_mono (ht [] s1 (start N vs) H _ I hq) (fun fl s' hs=>?_) fun e s' hs=>hs
 have fin:∀ {σ':St} {H':Hp} {v:V} {u:Value},Inv (cxOf CX P w K mg base N qual scope f cdv A outer s H E) [] σ' H' s' -> RelV v u->Q v H' -> CE outer P w H s Q u s':=
  fun {σ' H' v u} J rv q=>⟨v,H',J.os,J.bare,J.base,J.hok,rv,q⟩
 cases fl with
 | ret u=>
  obtain ⟨v,σ',H',J,rv,q⟩:=hs
  exact fin J rv q
 | next=>
  obtain ⟨σ',H',J,q⟩:=hs
  exact fin (v:=V.non) (u:=Value.none) J rfl q
 | brk=>
  obtain ⟨_,_,_,q⟩:=hs
  exact False.elim q
 | cont=>
  obtain ⟨_,_,_,q⟩:=hs
  exact False.elim q
end L2
namespace L2
open PySem PySem.Spec PyProof.Rows
section
variable {X:Cx} {x:Str} {p pos:Pos} {e:Expr} {es:List Expr} {t:TA} {id T:String} {r:List V->Hp->VK->Prop}
def tCB (r:List V->Hp->VK->Prop) (t:TA):TE:=fun σ H Q=>t σ H fun vs H1=>r vs H1 Q
theorem Zaj (hc:CallR X (.builtin id) r) (hg:Gl X x) (hm:X.mg x=none) (hv:bootBuiltins x=some (.builtin id)) (ha:PA X (e :: es) t) (hn:x ≠ "__name__":=by decide) (hdb:(x == ("__debug__":Str))=false:=by decide)
  (he:starEach (e :: es) X.env=(false,eval e X.env) :: starEach es X.env:=by rfl) (hpl:(backTo pos (starEach es X.env)).any (·.1)=false:=by rfl):PE X (.Call (.Name x p) (e :: es) [] pos) (tCB r t):=by
 intro pins s σ H Q I h
 refine wpAny_Call_Name_kw (Zd1 I hg hm hv ?_ hn hdb)
 exact PyProof.Rows.callWith_builtin1 (thn (ha pos pins s σ H _ I h) fun us s1 ⟨vs,H1,I1,r1,q1⟩=>hc pins s1 σ H1 vs us Q I1 r1 q1) he hpl
theorem Zbg (hc:CallR X (.type T) r) (hg:Gl X x) (hm:X.mg x=none) (hv:bootBuiltins x=some (.type T)) (ha:PA X (e :: es) t) (hn:x ≠ "__name__":=by decide) (hdb:(x == ("__debug__":Str))=false:=by decide)
  (he:starEach (e :: es) X.env=(false,eval e X.env) :: starEach es X.env:=by rfl) (hpl:(backTo pos (starEach es X.env)).any (·.1)=false:=by rfl):PE X (.Call (.Name x p) (e :: es) [] pos) (tCB r t):=by
 intro pins s σ H Q I h
 refine wpAny_Call_Name_kw (Zd1 I hg hm hv ?_ hn hdb)
 exact PyProof.Rows.callWith_type1 (thn (ha pos pins s σ H _ I h) fun us s1 ⟨vs,H1,I1,r1,q1⟩=>hc pins s1 σ H1 vs us Q I1 r1 q1) he hpl
end
end L2
namespace HT
open PySem PyProof.Rows
section
open PySem.SeqAt
open PySem.AutoSeq1 (wpAny_loadPart')
open PySem.MeetsSeq PySem.MeetsSeq2 PySem.MeetsSeq3
end
section
variable {prog:Program} {w:World} {A:Around} {E:Value->Shared->Prop} {s:Shared}
theorem cat_tup {t b:Addr} {vs ws:List Value} {Q:Value->Shared->Prop} (ht:IsTup s.heap t vs.toArray) (hb:IsTup s.heap b ws.toArray) (hv:vs ≠ [])
  (h1:ws=[]->Q (.ref t) s) (h2:ws ≠ []->Q (.ref s.heap.objs.size) { s with heap:=s.heap.push { cls:=.type "tuple",data:=.seq (vs ++ ws).toArray } })
  (hsz:vs.length + ws.length<=sizeLine):wpAny (model prog w) A (binaryOp .Add (.ref t) (.ref b)) Q E s:=by
 obtain ⟨⟨cls,dd,data,sl⟩,ho,hc,n,hd⟩:=id ht
 obtain ⟨⟨cls2,dd2,data2,sl2⟩,ho2,hc2,n2,hd2⟩:=id hb
 simp only at hc hd hc2 hd2
 subst hc hd hc2 hd2
 have e:vs.toArray ++ ws.toArray=(vs ++ ws).toArray:=by simp
 by_cases hw:ws=[]
 ·exact concat_meets ⟨_,ho,rfl⟩ ⟨_,ho2,rfl⟩ noFill_tuple_add seq_tuple_add PySem.F.slot_tuple_add PySem.F.entry_tuple_add (PySem.F.args_tuple_add_2 _ _)
   (tuple_addW1 t b vs.toArray ws.toArray n n2 dd dd2 sl sl2 (by simpa using hv) (by simp [hw])) ⟨ho,ho2,h1 hw⟩
 ·refine concat_meets ⟨_,ho,rfl⟩ ⟨_,ho2,rfl⟩ noFill_tuple_add seq_tuple_add PySem.F.slot_tuple_add PySem.F.entry_tuple_add (PySem.F.args_tuple_add_2 _ _)
   (tuple_addW2 t b vs.toArray ws.toArray n n2 dd dd2 sl sl2 (by simpa using hv) (by simpa using hw) (by rw [List.size_toArray,List.size_toArray]; exact hsz)) ⟨ho,ho2,?_⟩
  rw [e]
  exact h2 hw
def sIx (n d:Nat):Option Int->Nat
 | none=>d
 | some v=>if v < 0 then (v + (n:Int)).toNat else min v.toNat n
theorem sIx_none (n d:Nat):sIx n d none=d:=rfl
theorem sIx_nat (n d k:Nat):sIx n d (some (k:Int))=min k n:=by
 show (if (k:Int) < 0 then ((k:Int) + (n:Int)).toNat else min (k:Int).toNat n)=min k n
 rw [if_neg (by omega),Int.toNat_natCast]
theorem Zr7 (n d:Nat) (hd:d<=n) (o:Option Int):sIx n d o<=n:=by
 cases o with
 | none=>exact hd
 | some v=>
  show (if v < 0 then (v + (n:Int)).toNat else min v.toNat n)<=n
  by_cases hv:v < 0
  ·rw [if_pos hv]; omega
  ·rw [if_neg hv]; exact Nat.min_le_right _ _
theorem Zlp (v:Int) (n d:Nat):(if v < 0 then max (v + (n:Int)) 0 else min v (n:Int))=((sIx n d (some v):Nat):Int):=by
 show (if v < 0 then max (v + (n:Int)) 0 else min v (n:Int))=(((if v < 0 then (v + (n:Int)).toNat else min v.toNat n):Nat):Int)
 by_cases hv:v < 0
 ·simp only [if_pos hv]; omega
 ·simp only [if_neg hv]; omega
theorem Zkk (lo hi:Option Int) (n:Nat):Builtin.Slice.sliceAdjust lo hi 1 (n:Int)=(((sIx n 0 lo:Nat):Int),((sIx n n hi:Nat):Int)):=by
 have h1:¬ ((1:Int) < 0):=by omega
 unfold Builtin.Slice.sliceAdjust
 simp only [h1,if_false]
 refine Prod.ext ?_ ?_
 ·cases lo with
  | none=>rfl
  | some v=>exact Zlp v n 0
 ·cases hi with
  | none=>rfl
  | some v=>exact Zlp v n n
theorem Zko (i j:Nat):Builtin.Slice.slicePlaces (i:Int) (j:Int) 1=j - i:=by
 unfold Builtin.Slice.slicePlaces
 have h1:(1:Int) > 0:=by omega
 simp only [h1,if_true,Int.ediv_one]
 split <;> omega
theorem Zex {v:Value} {o:Option Int} {Q:Option Int->Shared->Prop} (p:IsPart v o) (h:Q o s):wpAny (model prog w) A (Builtin.Slice.slicePartIndex v) Q E s:=by
 cases p with
 | none=>exact slicePart_none h
 | int i t=>exact slicePart_int h
theorem Zdr {sl:Addr} {vl vu:Value} {lo hi:Option Int} {n:Nat} {Q:Int × Int × Nat->Shared->Prop} (hs:s.heap.IsSliceOf sl vl vu .none) (pl:IsPart vl lo) (pu:IsPart vu hi)
  (h:Q (((sIx n 0 lo:Nat):Int),1,sIx n n hi - sIx n 0 lo) s):wpAny (model prog w) A (Builtin.Slice.sliceApplied (.ref sl) (pure (n:Int))) Q E s:=by
 obtain ⟨os,hos,hcs,hds⟩:=id hs
 unfold Builtin.Slice.sliceApplied Builtin.Slice.sliceFields
 refine wpAny_bind (wpAny_bind (wpAny_field hos hds (x:=vl) rfl (wpAny_bind (wpAny_field hos hds (x:=vu) rfl (wpAny_bind (wpAny_field hos hds (x:=.none) rfl (wpAny_pure ?_)))))))
 refine wpAny_bind (slicePart_none ?_)
 show wpAny _ _ (if ((1:Int) == 0)=true then _ else _) _ _ s
 rw [if_neg (by decide)]
 refine wpAny_bind (Zex pl (wpAny_bind (Zex pu (wpAny_bind (wpAny_pure ?_)))))
 show wpAny _ _ (match Builtin.Slice.sliceAdjust lo hi 1 (n:Int) with | (lo,hi)=>pure (lo,(1:Int),Builtin.Slice.slicePlaces lo hi 1)) _ _ s
 rw [Zkk lo hi n]
 show wpAny _ _ (pure (((sIx n 0 lo:Nat):Int),(1:Int),Builtin.Slice.slicePlaces ((sIx n 0 lo:Nat):Int) ((sIx n n hi:Nat):Int) 1)) _ _ s
 rw [Zko]
 exact wpAny_pure h
theorem Zoi (xs:Array Value) (i k:Nat):((List.range k).filterMap fun (m:Nat)=>xs[((i:Int) + (m:Int) * 1).toNat]?).toArray=((xs.toList.drop i).take k).toArray:=by
 have e:(fun (m:Nat)=>xs[((i:Int) + (m:Int) * 1).toNat]?)=fun m=>xs[i + m]?:=by
  funext m
  have:((i:Int) + (m:Int) * 1).toNat=i + m:=by omega
  rw [this]
 rw [e]
 have:=pick_run xs i k
 rw [List.filterMap_map] at this
 have e2:((fun x=>xs[x]?) ∘ fun x=>i + x)=fun m=>xs[i + m]?:=rfl
 rw [e2] at this
 rw [this]
theorem getItem_tuple_cut {t sl:Addr} {items:Array Value} {vl vu:Value} {lo hi:Option Int} {Q:Value->Shared->Prop} (ht:IsTup s.heap t items) (hs:s.heap.IsSliceOf sl vl vu .none) (pl:IsPart vl lo) (pu:IsPart vu hi)
  (hw:¬ (sIx items.size 0 lo=0/\sIx items.size items.size hi=items.size))
  (h:Q (.ref s.heap.objs.size) { s with heap:=s.heap.push { cls:=.type "tuple",data:=.seq ((items.toList.drop (sIx items.size 0 lo)).take (sIx items.size items.size hi - sIx items.size 0 lo)).toArray } })
  (hsz:items.size<=sizeLine):wpAny (model prog w) A (getItem (.ref t) (.ref sl)) Q E s:=by
 have htake:sizeOk (.seq ((items.toList.drop (sIx items.size 0 lo)).take (sIx items.size items.size hi - sIx items.size 0 lo)).toArray):=by
  show ((items.toList.drop (sIx items.size 0 lo)).take (sIx items.size items.size hi - sIx items.size 0 lo)).toArray.size<=sizeLine
  rw [List.size_toArray,List.length_take,List.length_drop,Array.length_toList]
  omega
 have hj:sIx items.size items.size hi<=items.size:=Zr7 _ _ (Nat.le_refl _) hi
 obtain ⟨os,hos,hcs,hds⟩:=id hs
 have hTs:s.TypeIs (.ref sl) "slice":=⟨os,hos,hcs⟩
 unfold getItem
 try with_reducible refine wpAny_holding ?_
 first | refine wpAny_bind (wpAny_pure ?_) | skip
 refine wpAny_bind (wpAny_sequenceKey ht.typeIs (by decide) ?_)
 refine wpAny_bind (wpAny_callSpecial?_slot (name:=Str.ofString "__getitem__") ht.typeIs PyProof.Rows.slot_tuple_getitem
  (wpAny_call_entry PyProof.Rows.slot_tuple_getitem ht.typeIs entry_tuple_getitem ?_ (args_tuple_getitem _ _)))
 show wpAny _ _ (Builtin.Tuple.tupleItemsOf (.ref t) >>= _) _ _ s
 refine wpAny_bind (tupleItemsOf_ ht ?_)
 refine wpAny_bind (wpAny_typeOf hTs ?_)
 rw [if_pos (by decide)]
 refine wpAny_bind (Zdr hs pl pu ?_)
 have hno:¬ ((((sIx items.size 0 lo:Nat):Int) == 0 && (1:Int) == 1 && (sIx items.size items.size hi - sIx items.size 0 lo) == items.size)=true):=by
  intro q
  rw [Bool.and_eq_true,Bool.and_eq_true] at q
  have q1:((sIx items.size 0 lo:Nat):Int)=0:=eq_of_beq q.1.1
  have q2:sIx items.size items.size hi - sIx items.size 0 lo=items.size:=eq_of_beq q.2
  exact hw ⟨by omega,by omega⟩
 show wpAny _ _ (if (((sIx items.size 0 lo:Nat):Int) == 0 && (1:Int) == 1 && (sIx items.size items.size hi - sIx items.size 0 lo) == items.size)=true then _ else _) _ _ s
 rw [if_neg hno,Zoi]
 first
  | exact wpAny_bind (m:=Builtin.Tuple.tupleExact _) (wpAny_newObj_type (wpAny_pure ⟨_,rfl,wpAny_pure h⟩) htake)
  | exact wpAny_bind (m:=Builtin.Tuple.tupleExact _) (wpAny_newObj_type (wpAny_bind (wpAny_pure (wpAny_pure ⟨_,rfl,wpAny_pure h⟩))) htake)
  | exact wpAny_bind (wpAny_bind (m:=Builtin.Tuple.tupleExact _) (wpAny_newObj_type (wpAny_pure (wpAny_pure ⟨_,rfl,wpAny_pure h⟩)) htake))
  | exact wpAny_bind (wpAny_bind (m:=Builtin.Tuple.tupleExact _) (wpAny_newObj_type (wpAny_pure ⟨_,rfl,wpAny_pure h⟩) htake))
end
end HT
namespace L2
open PySem PySem.Spec PyProof.Rows
abbrev TO:=St->Hp->(Option Int->Hp->Prop)->Prop
def PO (X:Cx) (e:Option Expr) (t:TO):Prop:=
 ∀ (pins:List (Addr × Obj)) (s:Shared) (σ:St) (H:Hp) (Q:Option Int->Hp->Prop),Inv X pins σ H s->t σ H Q →
  wpAny (model X.prog X.w) X.A (evalPart e X.env) (fun u s'=>∃ o H',Inv X pins σ H' s' /\ IsPart u o/\Q o H') X.xe s
def tNoPart:TO:=fun _ H Q=>Q none H
def tPart (t:TE):TO:=fun σ H Q=>t σ H fun x H1=>∃ i,x=.int i/\Q (some i) H1
theorem Zkp {ns:List Int}:∀ {us:List Value},Vals (ns.map V.int) us->IntsAre us ns:=by
 induction ns with
 | nil=>intro us r; rw [List.map_nil] at r; cases r; exact .nil
 | cons n ns ih=>
  intro us r
  rw [List.map_cons] at r
  cases r with
  | cons r1 r2=>
   obtain ⟨t,e⟩:=r1
   subst e
   exact .cons n t (ih r2)
section
variable {X:Cx} {e:Expr} {te:TE} {lo hi:Option Expr} {tl th:TO} {pos p2:Pos}
theorem Zci:PO X none tNoPart:=by
 intro pins s σ H Q I h
 rw [evalPart_none]
 exact wpAny_pure ⟨none,H,I,.none,h⟩
theorem Zby (h:PE X e te):PO X (some e) (tPart te):=by
 intro pins s σ H Q I hw
 rw [evalPart_some]
 refine thn (h pins s σ H _ I hw) fun u s1 ⟨x,H1,I1,r1,q1⟩=>?_
 obtain ⟨i,rfl,q⟩:=q1
 obtain ⟨t,rfl⟩:=r1
 exact ⟨some i,H1,I1,.int i t,q⟩
def SlR (X:Cx) (r:V->Option Int->Option Int->Hp->VK->Prop):Prop:=
 ∀ (pins:List (Addr × Obj)) (s:Shared) (σ:St) (H:Hp) (x:V) (v vl vu:Value) (lo hi:Option Int) (sl:Addr) (Q:VK),Inv X pins σ H s->RelV x v->s.heap.IsSliceOf sl vl vu .none->IsPart vl lo->IsPart vu hi->r x lo hi H Q →
  ∃ T id,typeLookup (.type T) "__getitem__" = pure (some (.builtin id))/\s.TypeIs v T/\wpAny (model X.prog X.w) X.A (getItem v (.ref sl)) (EP X pins σ Q) X.xe s
theorem SlR.or {r r':V->Option Int->Option Int->Hp->VK->Prop} (h:SlR X r) (h':SlR X r'):SlR X (fun x lo hi H Q=>r x lo hi H Q\/r' x lo hi H Q):=by
 intro pins s σ H x v vl vu lo hi sl Q I rx hs pl pu q
 rcases q with q | q
 ·exact h pins s σ H x v vl vu lo hi sl Q I rx hs pl pu q
 ·exact h' pins s σ H x v vl vu lo hi sl Q I rx hs pl pu q
def tSl (r:V->Option Int->Option Int->Hp->VK->Prop) (te:TE) (tl th:TO):TE:=fun σ H Q=>te σ H fun x H1=>tl σ H1 fun l H2=>th σ H2 fun u H3=>r x l u H3 Q
theorem Zbs {r:V->Option Int->Option Int->Hp->VK->Prop} (hr:SlR X r) (he:PE X e te) (hl:PO X lo tl) (hu:PO X hi th):PE X (.Subscript e (.Slice lo hi none p2) pos) (tSl r te tl th):=by
 intro pins s σ H Q I h
 refine Subscript_ (thn (he pins s σ H _ I h) fun v s1 ⟨x,H1,I1,r1,q1⟩=>?_)
 refine wpAny_Slice (thn (hl pins s1 σ H1 _ I1 q1) fun vl s2 ⟨l,H2,I2,pl,q2⟩=>thn (hu pins s2 σ H2 _ I2 q2) fun vu s3 ⟨u,H3,I3,pu,q3⟩=>?_)
 rw [evalPart_none]
 refine wpAny_pure ?_
 have I4:Inv X pins σ H3 { s3 with heap:=s3.heap.push { cls:=.type "slice",data:=.fields #[vl,vu,.none] } }:=I3.kept (t':=s3.toks) fun b ob q=>Heap.get?_push_of_some _ q
 obtain ⟨T,id,hT,ht,hg⟩:=hr pins { s3 with heap:=s3.heap.push { cls:=.type "slice",data:=.fields #[vl,vu,.none] } } σ H3 x v vl vu l u s3.heap.objs.size Q I4 r1 (Heap.IsSliceOf.new ..) pl pu q3
 show wpAny (model X.prog X.w) X.A (subscriptTail e (.Slice lo hi none p2) v (.ref s3.heap.objs.size)) (EP X pins σ Q) X.xe { s3 with heap:=s3.heap.push { cls:=.type "slice",data:=.fields #[vl,vu,.none] } }
 exact tail_any (ops:=[.ref s3.heap.objs.size,v]) ht hT hg (by with_unfolding_all rfl)
def cutV (xs:List V) (lo hi:Option Int):List V:=(xs.drop (HT.sIx xs.length 0 lo)).take (HT.sIx xs.length xs.length hi - HT.sIx xs.length 0 lo)
theorem Zft (xs:List V) (lo hi:Option Int):(cutV xs lo hi).length<=xs.length:=by
 unfold cutV
 rw [List.length_take,List.length_drop]
 omega
def rSlT (K:PySem.W.Frag):V->Option Int->Option Int->Hp->VK->Prop:=fun x lo hi H Q=>∃ a xs,x=.ref a/\SqT K H a xs ∧
 ¬ (HT.sIx xs.length 0 lo=0/\HT.sIx xs.length xs.length hi=xs.length)/\∀ p,H p=none->Q (.ref p) (upd H p (.tup (cutV xs lo hi)))
theorem Zr1:SlR X (rSlT X.K):=by
 intro pins s σ H x v vl vu lo hi sl Q I rx hs pl pu h
 obtain ⟨a,xs,rfl,hx,hw,q⟩:=h
 cases rx
 obtain ⟨its,r,ht,hz⟩:=I.tuple hx
 have hlen:its.toArray.size=xs.length:=by rw [List.size_toArray]; exact r.length.symm
 refine ⟨"tuple",_,PyProof.Rows.slot_tuple_getitem.lookup,ht.typeIs,?_⟩
 refine HT.getItem_tuple_cut ht hs pl pu (by rw [hlen]; exact hw) ?_ (by rw [hlen]; exact hz)
 rw [hlen]
 refine ⟨.ref s.heap.objs.size,_,I.laid (t':=s.toks) (o:=.tup (cutV xs lo hi)) (fun b ob q=>Heap.get?_push_of_some _ q) (Nat.le_refl _) ?_,rfl,q _ (I.hok.fresh (Nat.le_refl _))⟩
 exact ⟨Nat.le_trans (Zft xs lo hi) hz,_,(r.drop (HT.sIx xs.length 0 lo)).take (HT.sIx xs.length xs.length hi - HT.sIx xs.length 0 lo),IsTupN.new _ _⟩
def rCatT (K:PySem.W.Frag):R2:=fun x y H Q=>∃ a b xs ys,x=.ref a/\y=.ref b/\SqT K H a xs/\SqT K H b ys/\xs ≠ []/\xs.length + ys.length<=sizeLine ∧
 (ys=[]->Q (.ref a) H)/\(ys ≠ []->∀ p,H p=none->Q (.ref p) (upd H p (.tup (xs ++ ys))))
theorem Vals.nil_iff {xs:List V} {us:List Value} (r:Vals xs us):us=[] ↔ xs=[]:=by
 cases r with
 | nil=>simp
 | cons _ _=>simp
theorem Zrn:OpR X (binaryOp .Add) (rCatT X.K):=by
 intro pins s σ H x y v u Q I rx ry h
 obtain ⟨a,b,xs,ys,rfl,rfl,ha,hb,hx,hz,q1,q2⟩:=h
 cases rx
 cases ry
 obtain ⟨its,r1,p1,_⟩:=I.tuple ha
 obtain ⟨its2,r2,p2,_⟩:=I.tuple hb
 refine HT.cat_tup p1 p2 (fun z=>hx (r1.nil_iff.mp z)) (fun z=>⟨.ref a,H,I,rfl,q1 (r2.nil_iff.mp z)⟩) (fun z=>?_) (by rw [<- r1.length,<- r2.length]; exact hz)
 refine ⟨.ref s.heap.objs.size,_,I.laid (t':=s.toks) (o:=.tup (xs ++ ys)) (fun b ob q=>Heap.get?_push_of_some _ q) (Nat.le_refl _) ?_,rfl,q2 (fun w=>z (r2.nil_iff.mpr w)) _ (I.hok.fresh (Nat.le_refl _))⟩
 exact ⟨by rw [List.length_append]; exact hz,_,r1.append r2,IsTupN.new _ _⟩
end
end L2
namespace L2
open PySem PySem.Spec PyProof.Rows
def ixN (n:Nat) (i:Int):Option Nat:=if 0<=i then (if i < n then some i.toNat else none) else if -(n:Int)<=i then some (i + n).toNat else none
def atI {α:Type} (xs:List α) (i:Int):Option α:=(ixN xs.length i).bind fun j=>xs[j]?
theorem Zng {n:Nat} {i:Int} {j:Nat} (h:ixN n i=some j):seqIndex? i n=some j/\j < n /\ -(n:Int)<=i/\i < n:=by
 unfold ixN at h
 by_cases h0:0<=i
 ·rw [if_pos h0] at h
  by_cases h1:i < n
  ·rw [if_pos h1] at h
   have e:i.toNat=j:=Option.some.inj h
   exact ⟨by rw [seqIndex_of h0 h1,e],by omega,by omega,h1⟩
  ·rw [if_neg h1] at h; cases h
 ·rw [if_neg h0] at h
  by_cases h1:-(n:Int)<=i
  ·rw [if_pos h1] at h
   have e:(i + n).toNat=j:=Option.some.inj h
   exact ⟨by rw [seqIndex_neg (by omega) h1,e],by omega,h1,by omega⟩
  ·rw [if_neg h1] at h; cases h
theorem Ziw {α:Type} {xs:List α} {i:Int} {v:α} (h:atI xs i=some v):∃ j,seqIndex? i xs.length=some j/\xs[j]? = some v/\j < xs.length /\ -(xs.length:Int)<=i/\i < xs.length:=by
 unfold atI at h
 cases e:ixN xs.length i with
 | none=>rw [e] at h; cases h
 | some j=>
  rw [e] at h
  obtain ⟨h1,h2,h3,h4⟩:=Zng e
  exact ⟨j,h1,h,h2,h3,h4⟩
theorem Zcv {α:Type} {xs:List α} {j:Nat} {v:α} (h:xs[j]? = some v):atI xs (j:Int)=some v:=by
 have hj:j < xs.length:=(List.getElem?_eq_some_iff.mp h).1
 have e:ixN xs.length (j:Int)=some j:=by
  unfold ixN
  rw [if_pos (by omega),if_pos (by omega)]; simp
 unfold atI; rw [e]; exact h
theorem Zop {α:Type} (xs:List α) (v:α):atI (xs ++ [v]) (-1)=some v:=by
 have hl:(xs ++ [v]).length=xs.length + 1:=by simp
 have e:ixN (xs ++ [v]).length (-1)=some xs.length:=by
  unfold ixN
  rw [hl,if_neg (by decide),if_pos (by omega)]
  congr 1
  omega
 unfold atI
 rw [e]
 show (xs ++ [v])[xs.length]? = some v
 simp
def PlainIx (b:Expr):Prop:=∀ o i,subscripted b false o i=operate [o,i] (getItem o i)
def IxR (X:Cx) (r:R2):Prop:=
 ∀ (value slice:Expr) (pins:List (Addr × Obj)) (s:Shared) (σ:St) (H:Hp) (x y:V) (v u:Value) (Q:VK),Inv X pins σ H s->RelV x v->RelV y u->r x y H Q →
  subscripted slice false v u=operate [v,u] (getItem v u)->wpAny (model X.prog X.w) X.A (subscriptTail value slice v u) (EP X pins σ Q) X.xe s
def MtR (X:Cx) (id:String) (r:V->List V->Hp->VK->Prop):Prop:=
 ∀ (pins:List (Addr × Obj)) (s:Shared) (σ:St) (H:Hp) (x:V) (xs:List V) (v:Value) (us:List Value) (Q:VK),Inv X pins σ H s->RelV x v->Vals xs us->r x xs H Q →
  wpAny (model X.prog X.w) X.A (call (.builtin id) (v :: us)) (EP X pins σ Q) X.xe s
section
variable {X:Cx} {a b:Expr} {ta tb:TE} {pos:Pos}
theorem IxR.or {r r':R2} (h:IxR X r) (h':IxR X r'):IxR X (fun x y H Q=>r x y H Q\/r' x y H Q):=by
 intro value slice pins s σ H x y v u Q I rx ry q hs
 rcases q with q | q
 ·exact h value slice pins s σ H x y v u Q I rx ry q hs
 ·exact h' value slice pins s σ H x y v u Q I rx ry q hs
theorem Zap {r:R2} (hr:IxR X r) (ha:PE X a ta) (hb:PE X b tb) (hs:PlainIx b):PE X (.Subscript a b pos) (tOp r ta tb):=by
 intro pins s σ H Q I h
 exact Subscript_ (binT ha hb I h fun v u s2 x y H2 I2 rx ry q=>hr a b pins s2 σ H2 x y v u Q I2 rx ry q (hs _ _))
def rIxL (K:PySem.W.Frag):R2:=fun x y H Q=>∃ p xs i v,x=.ref p/\y=.int i/\SqL K H p xs/\atI xs i=some v/\Q v H
def rIxT (K:PySem.W.Frag):R2:=fun x y H Q=>∃ p xs i v,x=.ref p/\y=.int i/\SqT K H p xs/\atI xs i=some v/\Q v H
def rIxS:R2:=fun x y H Q=>∃ z i c,x=.str z/\y=.int i/\z.length<=sizeLine/\atI z.cps.toList i=some c/\Q (.str ⟨#[c]⟩) H
theorem Zrh:IxR X (rIxL X.K):=by
 intro value slice pins s σ H x y v u Q I rx ry h hs
 obtain ⟨p,xs,i,z,rfl,rfl,hq,he,q⟩:=h
 cases rx
 obtain ⟨t,rfl⟩:=ry
 obtain ⟨its,r,pl,hz⟩:=I.list hq
 obtain ⟨j,h1,h2,h3,h4,h5⟩:=Ziw he
 obtain ⟨w,ew,rw'⟩:=r.get h2
 have hl:=r.length
 have hn:=line63
 have fin:EP X pins σ Q w s:=⟨z,H,I,rw',q⟩
 by_cases h0:0<=i
 ·have hj:i.toNat=j:=by
   rw [seqIndex_of h0 h5] at h1
   exact Option.some.inj h1
  exact item_listR pl.isList h0 (by omega) (by rw [hj]; simpa using ew) fin hs
 ·have hj:(i + (its.toArray.size:Int)).toNat=j:=by
   rw [seqIndex_neg (by omega) h4] at h1
   rw [List.size_toArray,<- hl]
   exact Option.some.inj h1
  exact subscriptTail_builtinR (x:=w) pl.isList.typeIs slot_list_getitem.lookup
   (wpAny_getItem_list_neg (Q:=fun r s'=>r=w/\EP X pins σ Q r s') pl.isList (by omega) (by rw [List.size_toArray] <;> omega) (by omega) (by rw [hj]; simpa using ew) ⟨rfl,fin⟩) hs
theorem Zr9:IxR X (rIxT X.K):=by
 intro value slice pins s σ H x y v u Q I rx ry h hs
 obtain ⟨p,xs,i,z,rfl,rfl,hq,he,q⟩:=h
 cases rx
 obtain ⟨t,rfl⟩:=ry
 obtain ⟨its,r,pl,hz⟩:=I.tuple hq
 obtain ⟨j,h1,h2,h3,h4,h5⟩:=Ziw he
 obtain ⟨w,ew,rw'⟩:=r.get h2
 have hl:=r.length
 have hn:=line63
 have fin:EP X pins σ Q w s:=⟨z,H,I,rw',q⟩
 exact subscriptTail_builtinR (x:=w) pl.typeIs slot_tuple_getitem.lookup
  (getItem_tuple (j:=j) (Q:=fun r s'=>r=w/\EP X pins σ Q r s') pl (by omega) (by omega) (by rw [List.size_toArray,<- hl]; exact h1) (by simpa using ew) ⟨rfl,fin⟩) hs
theorem Zs5:IxR X rIxS:=by
 intro value slice pins s σ H x y v u Q I rx ry h hs
 obtain ⟨z,i,c,rfl,rfl,hz,he,q⟩:=h
 obtain ⟨t,rfl⟩:=rx
 obtain ⟨t',rfl⟩:=ry
 obtain ⟨j,h1,h2,h3,h4,h5⟩:=Ziw he
 have hl:z.cps.toList.length=z.length:=by simp [Str.length]
 rw [hl] at h1 h4 h5
 have hn:=line63
 exact tail_any (typeIs_str s z t) slot_str_getitem.lookup (getItem_str (c:=c) (by
  have e1:decide (i < -(2 ^ 63:Int))=false:=decide_eq_false (by omega)
  have e2:decide (i ≥ 2 ^ 63)=false:=decide_eq_false (by omega)
  rw [e1,e2,Bool.or_false]) (by rw [h1]; simpa using h2) ⟨.str ⟨#[c]⟩,H,I.tok _,⟨_,rfl⟩,q⟩) hs
def rIx (K:PySem.W.Frag):R2:=fun x y H Q=>rIxL K x y H Q\/rIxT K x y H Q\/rIxS x y H Q
theorem Zr2:IxR X (rIx X.K):=Zrh.or (Zr9.or Zs5)
theorem Zks (its:List Value) (n j:Nat) (u:Value):Obj.mapSeq (·.setIfInBounds j u) { cls:=.type "list",data:=.seq its.toArray n } = { cls:=.type "list",data:=.seq (its.set j u).toArray n }:=by
 simp [Obj.mapSeq]
theorem Inv.lst {pins:List (Addr × Obj)} {σ:St} {H:Hp} {s:Shared} {p:Addr} {xs:List V} (I:Inv X pins σ H s) (h:H p=some (.lst xs)) :
  ∃ (its:List Value) (n:Nat),Vals xs its/\s.heap.get? p=some { cls:=.type "list",data:=.seq its.toArray n } /\ xs.length<=sizeLine:=by
 obtain ⟨z,its,n,r,e⟩:=I.hok p _ h
 exact ⟨its,n,r,e,z⟩
theorem Inv.lstUpd {pins:List (Addr × Obj)} {σ:St} {H:Hp} {s:Shared} {p:Addr} {xs ys:List V} {its its':List Value} {n n':Nat} {f:Obj->Obj} (I:Inv X pins σ H s) (h:H p=some (.lst xs))
  (ho:s.heap.get? p=some { cls:=.type "list",data:=.seq its.toArray n }) (hf:f { cls:=.type "list",data:=.seq its.toArray n } = { cls:=.type "list",data:=.seq its'.toArray n' }) (r:Vals ys its') (hz:ys.length<=sizeLine) (t:Nat) :
  Inv X pins σ (upd H p (.lst ys)) { s with heap:=s.heap.update p f,toks:=t }:=by
 have e:(s.heap.update p f).get? p=some { cls:=.type "list",data:=.seq its'.toArray n' }:=by
  rw [Heap.get?_update_self f ho (by rw [hf] <;> rfl),hf]
 refine I.write (x:=p) (e:=p) (by rw [h]; trivial) (.inl rfl) (fun b u hb q=>(Heap.get?_update_other _ _ (Ne.symm hb)).trans q) ⟨_,e⟩ ?_
 exact ⟨hz,its',n',r,e⟩
def rSetL:V->V->V->Hp->(Hp->Prop)->Prop:=fun o i v H Q=>∃ p xs k j,o=.ref p/\i=.int k/\H p=some (.lst xs)/\ixN xs.length k=some j/\Q (upd H p (.lst (xs.set j v)))
theorem Zns:PSet X rSetL:=by
 intro pins s σ H o i v ov iv u Q I ro ri rv h
 obtain ⟨p,xs,k,j,rfl,rfl,hp,hj,q⟩:=h
 cases ro
 obtain ⟨t,rfl⟩:=ri
 obtain ⟨its,n,r,ho,hz⟩:=I.lst hp
 obtain ⟨h1,h2,h3,h4⟩:=Zng hj
 have hl:=r.length
 have hn:=line63
 have I':Inv X pins σ (upd H p (.lst (xs.set j v))) { s with heap:=s.heap.update p (Obj.mapSeq (·.setIfInBounds j u)) }:=
  I.lstUpd hp ho (Zks its n j u) (r.set rv j) (by rw [List.length_set]; exact hz) s.toks
 by_cases h0:0<=k
 ·have hk:k.toNat=j:=by
   rw [seqIndex_of h0 h4] at h1
   exact Option.some.inj h1
  exact PySem.W.ki_setAt ho h0 (by omega) (by rw [List.size_toArray,<- hl]; exact h4) (by rw [hk]; exact ⟨_,I',q⟩)
 ·have hk:(k + (its.toArray.size:Int)).toNat=j:=by
   rw [seqIndex_neg (by omega) h3] at h1
   rw [List.size_toArray,<- hl]
   exact Option.some.inj h1
  exact PySem.W.ki_setBack ho (by omega) (by rw [List.size_toArray,<- hl]; exact h3) (by omega) (by rw [hk]; exact ⟨_,I',q⟩)
theorem Zhr (lo hi:Option Int) (n:Nat):(sliceBounds lo hi none n).1=((HT.sIx n 0 lo:Nat):Int)/\(sliceBounds lo hi none n).2.1=((HT.sIx n n hi:Nat):Int)/\(sliceBounds lo hi none n).2.2=1:=by
 refine ⟨?_,?_,rfl⟩
 ·cases lo with
  | none=>simp [sliceBounds,HT.sIx]
  | some i=>
   simp only [sliceBounds,HT.sIx,Option.getD_none,show (1:Int) > 0 by decide,if_true]
   by_cases h:i < 0
   ·simp only [h,if_true] <;> omega
   ·simp only [h,if_false] <;> omega
 ·cases hi with
  | none=>simp [sliceBounds,HT.sIx]
  | some i=>
   simp only [sliceBounds,HT.sIx,Option.getD_none,show (1:Int) > 0 by decide,if_true]
   by_cases h:i < 0
   ·simp only [h,if_true] <;> omega
   ·simp only [h,if_false] <;> omega
theorem Zg4 (its:List Value) (lo hi:Option Int):slicePick its.toArray lo hi none=((its.drop (HT.sIx its.length 0 lo)).take (HT.sIx its.length its.length hi - HT.sIx its.length 0 lo)).toArray:=by
 obtain ⟨h1,h2,h3⟩:=Zhr lo hi its.toArray.size
 unfold slicePick
 rw [h1,h2,h3]
 simp only [sliceRange_one,pick_run,List.size_toArray] <;> rfl
def rSlL (K:PySem.W.Frag):V->Option Int->Option Int->Hp->VK->Prop:=fun x lo hi H Q=>∃ a xs,x=.ref a/\SqL K H a xs/\∀ p,H p=none->Q (.ref p) (upd H p (.lst (cutV xs lo hi)))
theorem Zrb:SlR X (rSlL X.K):=by
 intro pins s σ H x v vl vu lo hi sl Q I rx hs pl pu h
 obtain ⟨a,xs,rfl,hx,q⟩:=h
 cases rx
 obtain ⟨its,r,ht,hz⟩:=I.list hx
 have hlen:=r.length
 refine ⟨"list",_,slot_list_getitem.lookup,ht.isList.typeIs,?_⟩
 refine wpAny_getItem_list_slice ht.isList hs pl pu .none (by simp) ?_ (by rw [List.size_toArray] <;> omega)
 rw [Zg4,<- hlen]
 refine ⟨.ref s.heap.objs.size,_,I.laid (t':=s.toks) (o:=.lst (cutV xs lo hi)) (fun b ob q=>Heap.get?_push_of_some _ q) (Nat.le_refl _) ?_,rfl,q _ (I.hok.fresh (Nat.le_refl _))⟩
 exact ⟨Nat.le_trans (Zft xs lo hi) hz,_,0,(r.drop (HT.sIx xs.length 0 lo)).take (HT.sIx xs.length xs.length hi - HT.sIx xs.length 0 lo),Heap.get?_push_size _ rfl⟩
def flatV:V->Bool
 | .non=>true
 | .bl _=>true
 | .int _=>true
 | .str _=>true
 | _=>false
def eqV:V->V->Bool
 | .non,.non=>true
 | .bl a,.bl b=>a == b
 | .bl a,.int b=>(if a then 1 else 0) == b
 | .int a,.bl b=>a == (if b then 1 else 0)
 | .int a,.int b=>a == b
 | .str a,.str b=>a == b
 | _,_=>false
theorem Zta {A:Around} {s:Shared} {y x:V} {u v:Value} (ry:RelV y u) (rx:RelV x v) (fy:flatV y=true) (fx:flatV x=true):SeqAt.EqAt A s u v (eqV y x):=by
 cases y with
 | non=>
  cases ry
  cases x with
  | non=>cases rx; exact SeqAt.EqAt.same _
  | bl b=>cases rx; exact SeqAt.EqAt.none_bool b
  | int b=>obtain ⟨t,rfl⟩:=rx; exact SeqAt.EqAt.none_int b t
  | str b=>obtain ⟨t,rfl⟩:=rx; exact SeqAt.EqAt.none_str b t
  | _=>exact absurd (show false=true from fx) Bool.false_ne_true
 | bl a=>
  cases ry
  cases x with
  | non=>cases rx; exact SeqAt.EqAt.bool_none a
  | bl b=>cases rx; exact SeqAt.EqAt.bool_bool a b
  | int b=>obtain ⟨t,rfl⟩:=rx; exact SeqAt.EqAt.bool_int a b t
  | str b=>obtain ⟨t,rfl⟩:=rx; exact SeqAt.EqAt.bool_str a b t
  | _=>exact absurd (show false=true from fx) Bool.false_ne_true
 | int a=>
  obtain ⟨t',rfl⟩:=ry
  cases x with
  | non=>cases rx; exact SeqAt.EqAt.int_none a t'
  | bl b=>cases rx; exact SeqAt.EqAt.int_bool a t' b
  | int b=>obtain ⟨t,rfl⟩:=rx; exact SeqAt.EqAt.int_int a t' b t
  | str b=>obtain ⟨t,rfl⟩:=rx; exact SeqAt.EqAt.int_str a t' b t
  | _=>exact absurd (show false=true from fx) Bool.false_ne_true
 | str a=>
  obtain ⟨t',rfl⟩:=ry
  cases x with
  | non=>cases rx; exact SeqAt.EqAt.str_none a t'
  | bl b=>cases rx; exact SeqAt.EqAt.str_bool a t' b
  | int b=>obtain ⟨t,rfl⟩:=rx; exact SeqAt.EqAt.str_int a t' b t
  | str b=>obtain ⟨t,rfl⟩:=rx; exact SeqAt.EqAt.str_str a t' b t
  | _=>exact absurd (show false=true from fx) Bool.false_ne_true
 | _=>exact absurd (show false=true from fy) Bool.false_ne_true
def eqU (x:V) (u:Value):Bool:=match u with
 | .none=>eqV .non x
 | .bool b=>eqV (.bl b) x
 | .int i _=>eqV (.int i) x
 | .str z _=>eqV (.str z) x
 | _=>false
theorem Zpf {x y:V} {u:Value} (r:RelV y u) (f:flatV y=true):eqU x u=eqV y x:=by
 cases y with
 | non=>cases r; rfl
 | bl b=>cases r; rfl
 | int i=>obtain ⟨t,rfl⟩:=r; rfl
 | str z=>obtain ⟨t,rfl⟩:=r; rfl
 | _=>exact absurd (show false=true from f) Bool.false_ne_true
theorem Zfm {x:V}:∀ {xs:List V} {us:List Value},Vals xs us->xs.all flatV=true->us.any (eqU x)=xs.any fun y=>eqV y x
 | _,_,.nil,_=>rfl
 | y :: xs,u :: us,.cons r t,f=>by
  rw [List.all_cons,Bool.and_eq_true] at f
  rw [List.any_cons,List.any_cons,Zpf r f.1,Zfm t f.2]
theorem Zeg {A:Around} {s:Shared} {x:V} {v:Value} (rx:RelV x v) (fx:flatV x=true):∀ {xs:List V} {us:List Value},Vals xs us->xs.all flatV=true->∀ u ∈ us,SeqAt.EqAt A s u v (eqU x u)
 | _,_,.nil,_=>fun u hu=>by cases hu
 | y :: xs,u :: us,.cons r t,f=>fun u' hu=>by
  rw [List.all_cons,Bool.and_eq_true] at f
  rcases List.mem_cons.mp hu with rfl | hu
  ·rw [Zpf r f.1]; exact Zta r rx f.1 fx
  ·exact Zeg rx fx t f.2 u' hu
def inV (x:V) (xs:List V):Bool:=xs.any fun y=>eqV y x
def rIn (K:PySem.W.Frag) (neg:Bool):R2:=fun x y H Q=>∃ p xs,y=.ref p/\(SqL K H p xs\/SqT K H p xs)/\flatV x=true/\xs.all flatV=true/\Q (.bl (if neg then !inV x xs else inV x xs)) H
theorem Zk2:OpR X (compareOp .In) (rIn X.K false):=by
 intro pins s σ H x y v u Q I rx ry h
 obtain ⟨p,xs,rfl,hq,fx,fs,q⟩:=h
 cases ry
 rcases hq with hq | hq
 ·obtain ⟨its,r,pl,hz⟩:=I.list hq
  refine SeqAt.in_listAt (eqU x) pl.isList (fun w hw=>Zeg rx fx r fs w (by simpa using hw)) ⟨.bl _,H,I,rfl,?_⟩
  rw [show its.toArray.any (eqU x)=its.any (eqU x) by simp,Zfm r fs]
  exact q
 ·obtain ⟨its,r,pl,hz⟩:=I.tuple hq
  refine SeqAt.in_tupleAt (eqU x) pl (fun w hw=>Zeg rx fx r fs w (by simpa using hw)) ⟨.bl _,H,I,rfl,?_⟩
  rw [show its.toArray.any (eqU x)=its.any (eqU x) by simp,Zfm r fs]
  exact q
theorem Zh0:OpR X (compareOp .NotIn) (rIn X.K true):=by
 intro pins s σ H x y v u Q I rx ry h
 obtain ⟨p,xs,rfl,hq,fx,fs,q⟩:=h
 cases ry
 rcases hq with hq | hq
 ·obtain ⟨its,r,pl,hz⟩:=I.list hq
  refine SeqAt.notIn_listAt (eqU x) pl.isList (fun w hw=>Zeg rx fx r fs w (by simpa using hw)) ⟨.bl _,H,I,rfl,?_⟩
  rw [show its.toArray.any (eqU x)=its.any (eqU x) by simp,Zfm r fs]
  exact q
 ·obtain ⟨its,r,pl,hz⟩:=I.tuple hq
  refine SeqAt.notIn_tupleAt (eqU x) pl (fun w hw=>Zeg rx fx r fs w (by simpa using hw)) ⟨.bl _,H,I,rfl,?_⟩
  rw [show its.toArray.any (eqU x)=its.any (eqU x) by simp,Zfm r fs]
  exact q
theorem Zh1:CallR X (.builtin "len") (fun xs H Q=>∃ p ys,xs=[.ref p]/\(SqL X.K H p ys\/SqT X.K H p ys)/\Q (.int ys.length) H):=by
 intro pins s σ H xs us Q I r h
 obtain ⟨p,ys,rfl,hq,q⟩:=h
 obtain ⟨u,rfl,rx⟩:=vals1 r
 cases rx
 have hn:=line63
 rcases hq with hq | hq
 ·obtain ⟨its,r',pl,hz⟩:=I.list hq
  have hlen:=r'.length
  exact Calls.call_len_list pl.isList (by simp only [List.size_toArray] <;> omega) ⟨.int ys.length,H,I.tok _,⟨s.toks + 1,by rw [List.size_toArray,hlen]⟩,q⟩
 ·obtain ⟨its,r',pl,hz⟩:=I.tuple hq
  have hlen:=r'.length
  exact len_tuple pl (by simp only [List.size_toArray] <;> omega) ⟨.int ys.length,H,I.tok _,⟨s.toks + 1,by rw [List.size_toArray,hlen]⟩,q⟩
theorem CallR.or {f:Value} {r r':List V->Hp->VK->Prop} (h:CallR X f r) (h':CallR X f r'):CallR X f (fun xs H Q=>r xs H Q\/r' xs H Q):=by
 intro pins s σ H xs us Q I rs q
 rcases q with q | q
 ·exact h pins s σ H xs us Q I rs q
 ·exact h' pins s σ H xs us Q I rs q
theorem Zie:CallR X (.type "list") (fun xs H Q=>∃ p ys,xs=[.ref p]/\(SqL X.K H p ys\/SqT X.K H p ys)/\∀ l,H l=none->Q (.ref l) (upd H l (.lst ys))):=by
 intro pins s σ H xs us Q I r h
 obtain ⟨p,ys,rfl,hq,q⟩:=h
 obtain ⟨u,rfl,rx⟩:=vals1 r
 cases rx
 have fin:∀ (its:List Value),Vals ys its->ys.length<=sizeLine->∀ (h':Heap) (c':Nat),(∀ b o',s.heap.get? b=some o' -> h'.get? b=some o') →
   h'.get? s.heap.objs.size=some { cls:=.type "list",dict:=none,data:=.seq its.toArray c',slots:=#[] } -> EP X pins σ Q (.ref s.heap.objs.size) { s with heap:=h' }:=fun its r' hz h' c' kp e=>
  ⟨.ref s.heap.objs.size,_,I.laid (t':=s.toks) kp (Nat.le_refl _) (show ObjOk X.prog X.w _ h' _ (.lst ys) from ⟨hz,its,c',r',e⟩),rfl,q _ (I.hok.fresh (Nat.le_refl _))⟩
 rcases hq with hq | hq
 ·obtain ⟨its,r',pl,hz⟩:=I.list hq
  have hlen:=r'.length
  obtain ⟨o,ho,hc,n,hd⟩:=pl.isList
  exact call_list_seq p (.inl rfl) ho hc hd (fun h' c' kp e=>fin its r' hz h' c' kp e) (by simp only [List.size_toArray] <;> omega)
 ·obtain ⟨its,r',pl,hz⟩:=I.tuple hq
  have hlen:=r'.length
  obtain ⟨o,ho,hc,n,hd⟩:=pl
  exact call_list_seq p (.inr rfl) ho hc hd (fun h' c' kp e=>fin its r' hz h' c' kp e) (by simp only [List.size_toArray] <;> omega)
theorem Zg5:CallR X (.type "tuple") (fun xs H Q=>∃ p ys,xs=[.ref p]/\((SqL X.K H p ys/\∀ l,H l=none->Q (.ref l) (upd H l (.tup ys)))\/(SqT X.K H p ys/\Q (.ref p) H))):=by
 intro pins s σ H xs us Q I r h
 obtain ⟨p,ys,rfl,h⟩:=h
 obtain ⟨u,rfl,rx⟩:=vals1 r
 cases rx
 rcases h with ⟨hq,q⟩ | ⟨hq,q⟩
 ·obtain ⟨its,r',pl,hz⟩:=I.list hq
  have hlen:=r'.length
  refine call_tuple_list pl.isList (fun h' kp=>?_) (by simp only [List.size_toArray] <;> omega)
  have I1:Inv X pins σ H { s with heap:=h' }:=I.kept (t':=s.toks) kp
  have I2:Inv X pins σ (upd H h'.objs.size (.tup ys)) { s with heap:=h'.push { cls:=.type "tuple",data:=.seq its.toArray } }:=
   I1.laid (t':=s.toks) (fun b o e=>Heap.get?_push_of_some _ e) (Nat.le_refl _) (show ObjOk X.prog X.w _ _ _ (.tup ys) from ⟨hz,its,r',IsTupN.new _ _⟩)
  exact ⟨.ref h'.objs.size,_,I2,rfl,q _ (I1.hok.fresh (Nat.le_refl _))⟩
 ·obtain ⟨its,r',pl,hz⟩:=I.tuple hq
  exact call_tuple_same pl ⟨.ref p,H,I,rfl,q⟩
def tyV (K:PySem.W.Frag) (T:String) (x:V) (H:Hp):Prop:=match x with
 | .str _=>T = "str"
 | .int _=>T = "int"
 | .ref p=>(T = "list" /\ ∃ xs,SqL K H p xs)\/(T = "tuple" /\ ((∃ o,K.lookup p=some o/\o.cls=.type "tuple" /\ o.dict=none)\/∃ xs,H p=some (.tup xs))) ∨
   (T = "dict" /\ ((∃ kvs,H p=some (.dK kvs))\/∃ kvs,H p=some (.dT kvs)))\/(T = "set" /\ ∃ S n,H p=some (.set S n))
 | _=>False
theorem Zte {pins:List (Addr × Obj)} {σ:St} {H:Hp} {s:Shared} {T:String} {x:V} {v:Value} (I:Inv X pins σ H s) (r:RelV x v) (ty:tyV X.K T x H) :
  s.TypeIs v T/\∀ a,v=.ref a->∃ ob,s.heap.get? a=some ob/\ob.dict=none:=by
 cases x with
 | str z=>
  obtain ⟨t,rfl⟩:=r
  cases (show T = "str" from ty)
  exact ⟨typeIs_str s z t,fun _ e=>nomatch e⟩
 | int i=>
  obtain ⟨t,rfl⟩:=r
  cases (show T = "int" from ty)
  exact ⟨typeIs_int s i t,fun _ e=>nomatch e⟩
 | ref p=>
  cases r
  rcases ty with ⟨rfl,xs,hq⟩ | ⟨rfl,(⟨o,hk,hc,hd⟩ | ⟨xs,hk⟩)⟩ | ⟨rfl,hk⟩ | ⟨rfl,S,n,hk⟩
  ·obtain ⟨its,_,pl,_⟩:=I.list hq
   refine ⟨pl.isList.typeIs,fun a e=>?_⟩
   cases e
   obtain ⟨o,n,e,c,hd,_⟩:=pl
   exact ⟨o,e,hd⟩
  ·refine ⟨⟨o,I.kIn p o hk,hc⟩,fun a e=>?_⟩
   cases e
   exact ⟨o,I.kIn _ o hk,hd⟩
  ·obtain ⟨_,_,_,o,e,⟨hc,_⟩,hd⟩:=I.hok p _ hk
   refine ⟨⟨o,e,hc⟩,fun a e2=>?_⟩
   cases e2
   exact ⟨o,e,hd⟩
  ·have z:∃ o,s.heap.get? p=some o/\o.ExactDict:=by
    rcases hk with ⟨kvs,hk⟩ | ⟨kvs,hk⟩
    ·obtain ⟨_,_,_,_,o,_,_,e,ex,_⟩:=I.hok p _ hk
     exact ⟨o,e,ex⟩
    ·obtain ⟨_,_,_,_,o,_,_,e,ex,_⟩:=I.hok p _ hk
     exact ⟨o,e,ex⟩
   obtain ⟨o,e,ex⟩:=z
   refine ⟨⟨o,e,ex.1⟩,fun a e2=>?_⟩
   cases e2
   exact ⟨o,e,ex.2.1⟩
  ·obtain ⟨o,_,_,_,e,ex,_⟩:=I.hok p _ hk
   refine ⟨⟨o,e,ex.1⟩,fun a e2=>?_⟩
   cases e2
   exact ⟨o,e,ex.2.1⟩
 | _=>exact False.elim ty
def tBM (K:PySem.W.Frag) (T:String) (r:V->List V->Hp->VK->Prop) (to:TE) (t:TA):TE:=fun σ H Q=>to σ H fun x H1=>tyV K T x H1/\t σ H1 fun xs H2=>r x xs H2 Q
variable {o e:Expr} {es:List Expr} {to:TE} {t:TA} {name:Str} {apos cpos:Pos} {T id:String} {r:V->List V->Hp->VK->Prop}
theorem Ztw (pa:PlainAttrs T) (slot:Slot T name id) (hty:typeOf (.builtin id)=pure (.type "method_descriptor")) (hm:MtR X id r) (ho:PE X o to) (ha:PA X (e :: es) t)
  (hbase:attributeBase o name X.env (eval o X.env)=eval o X.env:=by rfl)
  (hfew:((backTo cpos (starEach (e :: es) X.env)).all (fun x=>!x.1) && (backToKw cpos (keywordEach [] X.env)).all (fun x=>x.1.isSome)
   && decide ((e :: es).length + ([]:List Keyword).length + (if ([]:List Keyword).isEmpty then 0 else 1) < 30))=true:=by rfl)
  (hline:(apos.endLine == cpos.line)=true:=by rfl) (hs:starEach (e :: es) X.env=(false,eval e X.env) :: starEach es X.env:=by rfl) (hplain:(backTo cpos (starEach es X.env)).any (·.1)=false:=by rfl) :
  PE X (.Call (.Attribute o name apos) (e :: es) [] cpos) (tBM X.K T r to t):=by
 intro pins s σ H Q I h
 refine wpAny_Call_method_late hbase hfew hline rfl (thn (ho pins s σ H _ I h) fun v s1 ⟨x,H1,I1,r1,ty,q1⟩=>?_)
 obtain ⟨h1,h2⟩:=Zte I1 r1 ty
 refine ⟨T,id,pa,slot,hty,h1,h2,?_⟩
 have hA:=ha cpos pins s1 σ H1 _ I1 q1
 rw [hs] at hA ⊢
 refine Calls.callWith_builtin (by show (false || (backTo cpos (starEach es X.env)).any (·.1))=false; rw [hplain] <;> rfl) (Calls.evalArgs_plain ?_)
 exact thn hA fun us s2 ⟨vs,H2,I2,r2,q2⟩=>hm pins s2 σ H2 x vs v us Q I2 r1 r2 q2
end
end L2
namespace L2
open PySem PySem.Spec PyProof.Rows
def MtM (X:Cx) (id:String) (r:V->List V->Hp->VK->Prop):Prop:=
 ∀ (pins:List (Addr × Obj)) (s:Shared) (σ:St) (H:Hp) (x:V) (xs:List V) (v:Value) (us:List Value) (Q:VK),Inv X pins σ H s->RelV x v->Vals xs us->r x xs H Q →
  wpAny (model X.prog X.w) X.A (call (.builtin id) (v :: us)) (EP X pins σ Q) X.xe s
theorem Vals.one:∀ {x:V} {us:List Value},Vals [x] us->∃ u,us=[u]/\RelV x u:=by
 intro x us h; cases h with | cons r t=>cases t; exact ⟨_,rfl,r⟩
theorem Vals.two:∀ {x y:V} {us:List Value},Vals [x,y] us->∃ u v,us=[u,v]/\RelV x u/\RelV y v:=by
 intro x y us h; cases h with | cons r t=>cases t with | cons q t=>cases t; exact ⟨_,_,rfl,r,q⟩
theorem Vals.reverse {xs:List V} {us:List Value} (h:Vals xs us):Vals xs.reverse us.reverse:=by
 induction h with
 | nil=>exact .nil
 | cons r t ih=>rw [List.reverse_cons,List.reverse_cons]; exact Vals.append ih (.cons r .nil)
section
variable {X:Cx} {pins:List (Addr × Obj)} {σ:St} {H:Hp} {s:Shared} {l b:Addr} {xs ys zs:List V}
theorem Inv.lset {its its':List Value} {n:Nat} {f:Array Value->Array Value} {t':Nat} (I:Inv X pins σ H s) (hH:H l=some (.lst xs))
  (e:s.heap.get? l=some { cls:=.type "list",data:=.seq its.toArray n }) (hf:f its.toArray=its'.toArray) (hv:Vals ys its') (hz:ys.length<=sizeLine) :
  Inv X pins σ (upd H l (.lst ys)) { s with heap:=s.heap.update l (Obj.mapSeq f),toks:=t' }:=by
 have q:=PySem.IsL.update e f
 rw [hf] at q
 refine I.write (x:=l) (e:=l) (by rw [hH]; exact trivial) (.inl rfl) (fun b' u hb hu=>(Heap.get?_update_other s.heap (Obj.mapSeq f) (Ne.symm hb)).trans hu) ⟨_,q⟩ ?_
 exact ⟨hz,its',_,hv,q⟩
theorem Inv.lnew {its:List Value} {t':Nat} (I:Inv X pins σ H s) (hv:Vals ys its) (hz:ys.length<=sizeLine) :
  Inv X pins σ (upd H s.heap.objs.size (.lst ys)) { s with heap:=s.heap.push { cls:=.type "list",data:=.seq its.toArray },toks:=t' }:=
 I.laid (fun _ _ q=>Heap.get?_push_of_some _ q) (Nat.le_refl _) ⟨hz,its,0,hv,Heap.get?_push_size _ rfl⟩
theorem Inv.fresh (I:Inv X pins σ H s):H s.heap.objs.size=none:=I.hok.fresh (Nat.le_refl _)
theorem Inv.lstM (I:Inv X pins σ H s) (hH:H l=some (.lst xs)):xs.length<=sizeLine/\∃ (its:List Value) (n:Nat),Vals xs its/\xs.length=its.length/\s.heap.get? l=some { cls:=.type "list",data:=.seq its.toArray n }:=by
 obtain ⟨z,its,n,r,e⟩:=I.hok l _ hH
 exact ⟨z,its,n,r,r.length,e⟩
end
section
variable {X:Cx}
def rAppend:V->List V->Hp->VK->Prop:=fun x vs H Q=>∃ l xs y,x=.ref l/\vs=[y]/\H l=some (.lst xs)/\xs.length < sizeLine/\Q .non (upd H l (.lst (xs ++ [y])))
theorem Zdb:MtM X "list.append" rAppend:=by
 intro pins s σ H x vs v us Q I rx rv h
 obtain ⟨l,xs,y,rfl,rfl,hH,hz,q⟩:=h
 cases rx
 obtain ⟨u,rfl,ru⟩:=rv.one
 obtain ⟨z,its,n,r,hl,e⟩:=I.lstM hH
 refine call_meets F.slot_list_append ⟨_,e,rfl⟩ F.entry_list_append (F.args_list_append_2 _ _) (PySem.list_append l its.toArray n u (by rw [List.size_toArray]; omega)) ⟨e,?_⟩
 refine ⟨.non,_,I.lset (its':=its ++ [u]) hH e (by simp) (r.append (.cons ru .nil)) ?_,rfl,q⟩
 rw [List.length_append,List.length_singleton]
 omega
def rCat:R2:=fun x y H Q=>∃ l b xs zs,x=.ref l/\y=.ref b/\H l=some (.lst xs)/\H b=some (.lst zs)/\xs.length + zs.length<=sizeLine/\∀ p,H p=none->Q (.ref p) (upd H p (.lst (xs ++ zs)))
theorem Zs6:OpR X (binaryOp .Add) rCat:=by
 intro pins s σ H x y v u Q I rx ry h
 obtain ⟨l,b,xs,zs,rfl,rfl,hH,hB,hz,q⟩:=h
 cases rx
 cases ry
 obtain ⟨z,its,n,r,hl,e⟩:=I.lstM hH
 obtain ⟨z2,its2,n2,r2,hl2,e2⟩:=I.lstM hB
 refine PySem.P.add_list e e2 ?_ (by rw [List.size_toArray,List.size_toArray]; omega)
 have ea:its.toArray ++ its2.toArray=(its ++ its2).toArray:=by simp
 rw [ea]
 exact ⟨.ref _,_,I.lnew (t':=s.toks) (r.append r2) (by rw [List.length_append]; omega),rfl,q _ I.fresh⟩
end
section
variable {X:Cx}
end
end L2
namespace Att
open PySem PySem.W PySem.Calls PyProof.Rows
theorem Zf9 {P:Params} {h:Heap}:∀ (ns:List Int) (vs:List Value),WellAll P h vs (ns.map WData.int)->IntsAre vs ns:=by
 intro ns
 induction ns with
 | nil=>
  intro vs w
  rw [List.map_nil] at w
  cases w
  exact .nil
 | cons n ns ih=>
  intro vs w
  rw [List.map_cons] at w
  cases w with
  | cons a b=>
   cases a
   exact .cons _ _ (ih _ b)
theorem Zll {l:OpenLaw} {n:Nat} (hn:l.most=some n) {P:Params} {h:Heap} {args:List WData} {vals:List Value}
  (hpre:l.row.toRowW.claim.pre args=true) (hwl:WellAll P h vals args) :
  ∃ a vs ns,vals=[Value.ref a]/\args=[WData.list (ns.map WData.int)]/\h.get? a=some { cls:=.type "list",data:=.seq vs.toArray } /\ IntsAre vs ns/\ns.length<=n:=by
 have hsh:WShape.hasAll [] args [.list .int]=true:=(pre_splitW hpre).1
 have hc:l.pre.holds [] { args:=args } = true:=(pre_splitW hpre).2
 obtain ⟨d,r,rfl,h1,h2⟩:=hasAllW_cons hsh
 obtain rfl:=hasAllW_nil h2
 obtain ⟨xs,rfl,h3⟩:=hasW_list h1
 obtain ⟨ns,rfl⟩:=items_int h3
 have hlen:ns.length<=n:=by
  unfold OpenLaw.pre at hc
  have h4:(WTm.not (.lt (.lit (.int (n:Int))) (.len (.arg 0)))).holds [] { args:=[.list (ns.map .int)] } = true:=by
   have h4:=(holds_andW hc).1
   rw [hn] at h4
   exact h4
  have h5:=condW_of h4 (w_not (w_lt w_lit (w_len_list (w_arg rfl))))
  rw [List.length_map] at h5
  refine Nat.le_of_not_lt fun q=>?_
  have q':(n:Int) < ((ns.length:Nat):Int):=by omega
  first
   | (rw [decide_eq_true q'] at h5; exact absurd h5 (by decide))
   | (simp at h5; omega)
 cases hwl with
 | cons w1 w2=>
  cases w2
  cases w1 with
  | list ho hall=>exact ⟨_,_,ns,rfl,rfl,ho,Zf9 ns _ hall,hlen⟩
theorem Zl3 (l:OpenLaw) (args:List WData):l.row.toRowW.claim.post args (.bool true) args=true:=
 postW_of (r:=l.row.toRowW) (X:=(true == true))
  (show WShape.has [] (.bool true) .bool=true by first | rfl | decide | simp [WShape.has,WShape.arms,WShape.armsAll])
  (show (WTm.eq .res (.lit (.bool true))).value [] { args:=args,res:=some (.bool true),after:=args } = some (.bool (true == true)) from w_eq_bool (w_res rfl) w_lit) rfl
theorem attach_call {l:OpenLaw} {n:Nat} {q:Program} {loose:List Str} {XP:(Str->Option Value)->Heap->Prop} {YP:World->Heap->Prop} {d:DefRec}
  (hn:l.most=some n) (hdf:d.params.defaults=[])
  (call:∀ (w:World) (s₀ s₁:Shared) (mg mb:Str->Option Value) (fa:Addr) (o:Obj) (pm cd doc:Value) (a:Addr) (vs:List Value) (ns:List Int),
   Ground q loose [] XP w s₀ mg mb s₁.heap->YP w s₁.heap →
   s₁.heap.get? fa=some o->o.data=.func (docDef d.name d.params d.body d.scope pm cd doc)->s₁.heap.CodeRec cd d.name->mg d.name=some (.ref fa) →
   s₁.heap.get? a=some { cls:=.type "list",data:=.seq vs.toArray } -> IntsAre vs ns->ns.length<=n->s₁.gens = #[] →
   codeAny (model l.prog w) callerA (.call (.ref fa) ⟨[.ref a],[]⟩) (fun r s'=>r=.ok (.ret (.bool true))/\OldK s₁.heap s'.heap/\s'.os=s₁.os/\AllBare s'.gens) s₁) :
  WalkO q loose XP YP l.row.toRowW d [] (fun f vs=>PySem.call f vs):=by
 intro w s₀ s₁ mg mb G Y fa o pm cd doc dV kV ho hd hcd hD hmg hg args vals as hpre hlay hrd hwl hlo
 obtain rfl:dV=.none:=Dflts.none hD hdf
 obtain rfl:kV=.none:=Dflts.noKw hD
 obtain ⟨a,vs,ns,rfl,rfl,hobj,hints,hlen⟩:=Zll hn hpre hwl
 refine enter_call (codeAny_mono (call w s₀ s₁ mg mb fa o pm cd doc a vs ns G Y ho (fd_plain hd) hcd hmg hobj hints hlen hg) fun r s' hq=>?_)
 obtain ⟨rfl,h2,h3,h4⟩:=hq
 exact ⟨.inl ⟨.bool true,.bool true,[],rfl,fun _=>rfl,.bool true,Zl3 l _,fun _=>⟨List.Pairwise.nil,fun _ hm=>(nomatch hm)⟩⟩,h2,h3,h4⟩
end Att
namespace L2
open PySem PySem.Spec PyProof.Rows
theorem Zeh:∀ {vs:List Value} {ns:List Int},IntsAre vs ns->Vals (ns.map V.int) vs
 | _,_,.nil=>.nil
 | _,_,.cons n t h=>.cons ⟨t,rfl⟩ (Zeh h)
def Only (H:Hp):Prop:=∀ b,H b=none\/∃ o xs,H b=some (.frz o (.lst xs))
theorem Zoc {P:Program} {w:World} {K:PySem.W.Frag} {mg mb:Str->Option Value} {CX:CXT} {k:Nat} {fa a:Addr} {fd:FuncData} {x:Str} {sp:Sp} {s₁:Shared} {vs:List Value} {ns:List Int}
  (KX:K.In s₁.heap) (hns:s₁.heap.Ns mainGlobals mg) (hb:s₁.heap.Ns builtinsNs mb) (hbb:∀ x:Str,x ≠ "__name__" -> mb x=bootBuiltins x) (hlim:s₁.heap.NoLimit) (hg:s₁.gens = #[])
  (ha:s₁.heap.get? a=some { cls:=.type "list",data:=.seq vs.toArray }) (hi:IntsAre vs ns) (hl:ns.length<=sizeLine) (hr:Room k callerA)
  (F:∀ base:Heap,K.In base->base.Ns mainGlobals mg->FnOk P w K mg base CX k fa fd [x] sp) (hbind:∀ (s:Shared) (u:Value),BindsTo s fd ⟨[u],[]⟩ [(x,u)])
  (hsp:∀ H:Hp,Only H->SqL K H a (ns.map V.int)->sp [.ref a] H (fun v _=>v=.bl true) fun _ _ _=>False)
  (hCX:∀ H e s',CX [] H s₁ (fun _ _ _=>False) e s' -> False) :
  codeAny (model P w) callerA (.call (.ref fa) ⟨[.ref a],[]⟩) (fun r s'=>r=.ok (.ret (.bool true))/\OldK s₁.heap s'.heap/\s'.os=s₁.os/\AllBare s'.gens) s₁:=by
 have rv:=Zeh hi
 have lenV:=hi.length
 -- from an abstract heap in which nothing but the script may be tracked
 have core:∀ H:Hp,Only H->SqL K H a (ns.map V.int)->HOk P w H s₁.heap->(∀ b,H b ≠ none->b=a)->(H a ≠ none->K.lookup a=none) →
   codeAny (model P w) callerA (.call (.ref fa) ⟨[.ref a],[]⟩) (fun r s'=>r=.ok (.ret (.bool true))/\OldK s₁.heap s'.heap/\s'.os=s₁.os/\AllBare s'.gens) s₁:=by
  intro H hO hS hok hA hK
  have base_of:∀ {b:Addr} {o:Obj},s₁.heap.get? b=some o->H b=none->(hidT s₁.heap H).get? b=some o:=fun e n=>Zn4 e n
  have noA:∀ {b:Addr} {o:Obj} {es:Array DictEntry} {ep:Nat},s₁.heap.get? b=some o->o.data=.dict es ep->H b=none:=fun {b o es ep} e d=>by
   cases q:H b with
   | none=>rfl
   | some u=>
    have e':b=a:=hA b (by rw [q]; simp)
    subst e'
    rw [ha] at e; cases e
    have d':Data.seq vs.toArray _=Data.dict es ep:=d
    cases d'
  have nsK:∀ {b:Addr} {m:Str->Option Value},s₁.heap.Ns b m->(hidT s₁.heap H).Ns b m:=fun {b m} ⟨o,es,ep,e,d,r⟩=>⟨o,es,ep,base_of e (noA e d),d,r⟩
  have hKb:K.In (hidT s₁.heap H):=fun b o e=>base_of (KX b o e) (by
   cases q:H b with
   | none=>rfl
   | some u=>
    have e':b=a:=hA b (by rw [q]; simp)
    subst e'
    rw [hK (by rw [q]; simp)] at e; cases e)
  have hM:Mod K mg (hidT s₁.heap H):=⟨hKb,nsK hns,⟨mb,nsK hb,hbb⟩,let ⟨mc,h1,h2⟩:=hlim; ⟨mc,nsK h1,h2⟩⟩
  have e0:Env0 P w K mg (hidT s₁.heap H) callerA [] s₁ H:=⟨rfl,hM,fun b o e=>Zpt e,Nat.le_of_eq (Znb _ _),trivial,fun b hb=>absurd (show b ∈ ([]:List Addr) from hb) (by simp),hok,.of_eq hg⟩
  refine codeAny_mono ((F _ hKb (nsK hns)).run callerA [] s₁ H ⟨[.ref a],[]⟩ [.ref a] [.ref a] _ _ hr e0 (hbind s₁ (.ref a)) (.cons rfl .nil) (hsp H hO hS)) fun r s' h=>?_
  cases r with
  | error e=>exact (hCX H e s' h).elim
  | ok fl=>
   cases fl with
   | next=>exact False.elim h
   | brk=>exact False.elim h
   | cont=>exact False.elim h
   | ret u=>
    obtain ⟨v,H',os,bare,un,hok',r',q⟩:=h
    have q':v=.bl true:=q
    subst q'
    obtain rfl:u=Value.bool true:=r'
    refine ⟨rfl,OldK.of_keep fun b o e=>?_,os,bare⟩
    cases q:H b with
    | none=>exact un.keep b o e q (by intro z; exact absurd (show b ∈ ([]:List Addr) from z) (by simp)) (by simp)
    | some u=>
     rcases hO b with z | ⟨ob,xs,z⟩
     ·rw [q] at z; cases z
     ·have z2:=un.frzs b ob _ z
      obtain ⟨e1,_⟩:=hok b _ z
      obtain ⟨e2,_⟩:=hok' b _ z2
      rw [e] at e1; cases e1
      exact e2
 cases hk:K.lookup a with
 | some o=>
  -- the script is one of the module's own objects
  have e:=KX a o hk
  rw [ha] at e
  cases e
  refine core (fun _=>none) (fun _=>.inl rfl) (.inr ⟨_,vs.toArray,_,hk,rfl,rfl,rfl,by rw [List.size_toArray,lenV]; exact hl,by simpa using rv⟩) (fun b u z=>by have z':(none:Option HO)=some u:=z; cases z') (fun b z=>absurd rfl z) fun z=>absurd rfl z
 | none=>
  refine core (fun b=>if b=a then some (.frz { cls:=.type "list",data:=.seq vs.toArray } (.lst (ns.map V.int))) else none) (fun b=>?_) (.inl (.inr ⟨{ cls:=.type "list",data:=.seq vs.toArray },if_pos rfl⟩)) (fun b u z=>?_) (fun b z=>?_) fun _=>hk
  ·by_cases hb:b=a
   ·exact .inr ⟨_,_,if_pos hb⟩
   ·exact .inl (if_neg hb)
  ·by_cases hb:b=a
   ·have z':=(if_pos hb).symm.trans z
    cases z'
    subst hb
    exact ⟨ha,by rw [List.length_map]; exact hl,vs,_,rv,ha⟩
   ·have z':=(if_neg hb).symm.trans z
    cases z'
  ·by_cases hb:b=a
   ·exact hb
   ·exact absurd (if_neg hb) z
end L2
namespace L2
open PySem PySem.Spec PyProof.Rows
theorem walk_of {l:PySem.W.OpenLaw} {n k:Nat} {q:Program} {loose:List Str} {XP:(Str->Option Value)->Heap->Prop} {YP:World->Heap->Prop} {d:DefRec} {K:Params->PySem.W.Frag} {CX:World->CXT} {sp:World->Sp} {x:Str}
  (hn:l.most=some n) (hn2:n<=sizeLine) (hdf:d.params.defaults=[]) (hr:Room k callerA)
  (hY:∀ (w:World) (h:Heap),YP w h->(K w.params).In h)
  (F:∀ (w:World) (mg:Str->Option Value) (fa:Addr) (h:Heap),(K w.params).In h->h.Ns mainGlobals mg->mg d.name=some (.ref fa) →
   ∃ fd:FuncData,(∀ (s:Shared) (u:Value),BindsTo s fd ⟨[u],[]⟩ [(x,u)]) ∧
    ∀ base:Heap,(K w.params).In base->base.Ns mainGlobals mg->FnOk l.prog w (K w.params) mg base (CX w) k fa fd [x] (sp w))
  (hsp:∀ (w:World) (H:Hp) (a:Addr) (ns:List Int),ns.length<=n->Only H->SqL (K w.params) H a (ns.map V.int)->sp w [.ref a] H (fun v _=>v=.bl true) fun _ _ _=>False)
  (hCX:∀ (w:World) (H:Hp) (s:Shared) (e:Value) (s':Shared),CX w [] H s (fun _ _ _=>False) e s' -> False) :
  PySem.W.WalkO q loose XP YP l.row.toRowW d [] (fun f vs=>PySem.call f vs):=by
 refine Att.attach_call hn hdf fun w s₀ s₁ mg mb fa o pm cd doc a vs ns G Y ho hd hcd hmg hobj hints hlen hg=>?_
 have KX:=hY w _ Y
 obtain ⟨fd,hb,hF⟩:=F w mg fa _ KX G.T.g hmg
 exact Zoc KX G.T.g G.T.b G.T.builtins G.T.nolimit hg hobj hints (Nat.le_trans hlen hn2) hr hF hb (fun H hO hS=>hsp w H a ns hlen hO hS) fun H e s'=>hCX w H s₁ e s'
end L2
namespace L2
open PySem PySem.Spec PyProof.Rows
def defArgs (s:Stmt):Arguments:=match s with
 | .FunctionDef _ a _ _ _ _ _ _ _ _=>a
 | _=>{ posonlyargs:=[],args:=[],vararg:=none,kwonlyargs:=[],kw_defaults:=[],kwarg:=none,defaults:=[] }
def defBody (s:Stmt):List Stmt:=match s with
 | .FunctionDef _ _ b _ _ _ _ _ _ _=>b
 | _=>[]
def defScope (s:Stmt):Scope:=match s with
 | .FunctionDef _ _ _ _ _ _ sc _ _ _=>sc
 | _=>{ kind:=.function,names:=[],isGenerator:=false,isCoroutine:=false }
abbrev CX0:CXT:=fun _ _ _ _ _ _=>False
abbrev E0:XK:=fun _ _ _=>False
theorem pass0 {X:Cx}:Passes CX0 X E0:=fun _ _ _ _ _ _ _ h=>h.elim
structure Fun (K:PySem.W.Frag) (x qual:Str) (st:Stmt) (f:Addr) (fd:FuncData):Prop where
 ex:∃ (oc:Value) (od:Option Addr) (kV doc pm:Value) (an:Option Addr) (cdv ct:Value) (osl:Array (Option Value)),
  fd=PySem.W.fnOf x qual (defArgs st) (defBody st) (defScope st) .none kV doc pm an cdv ct/\K.lookup f=some ⟨oc,od,.func fd,osl⟩ /\ PySem.W.codeIn K cdv qual=true
 kp:PySem.W.keepIn K (.ref f)=true
section
variable {P:Program} {w:World} {K:PySem.W.Frag} {mg:Str->Option Value} {base:Heap}
theorem Fun.ok {x qual:Str} {st:Stmt} {f:Addr} {fd:FuncData} {N ps:List Str} {k:Nat} {sp:Sp} (F:Fun K x qual st f fd) (S:FnScope N ps (defScope st)) (len:∀ vs H Q E,sp vs H Q E->vs.length=ps.length)
  (hbody:∀ (cdv:Value) (A:Around) (outer:List Env) (s:Shared) (H:Hp) (vs:List V) (Q:VK) (E:XK),Room k (A.deeper (envOfC qual (defScope st) s.heap.objs.size f cdv))->sp vs H Q E →
   ∃ t,PSs (cxOf CX0 P w K mg base N qual (defScope st) f cdv A outer s H E).nox (defBody st) t/\t { nx:=fun _ H'=>Q .non H',rt:=Q } (start N vs) H):FnOk P w K mg base CX0 (k + 1) f fd ps sp:=by
 obtain ⟨oc,od,kV,doc,pm,an,cdv,ct,osl,rfl,lk,hcd⟩:=F.ex
 refine Zt5 lk hcd S len fun A outer s H vs Q E hr hsp=>?_
 obtain ⟨t,h,q⟩:=hbody cdv A outer s H vs Q E hr hsp
 exact ⟨t,h.nox,q⟩
theorem Fun.binds {x qual:Str} {st:Stmt} {f:Addr} {fd:FuncData} {ps:List Str} (F:Fun K x qual st f fd)
  (h:∀ (kV doc pm:Value) (an:Option Addr) (cdv ct:Value) (us:List Value),us.length=ps.length->bindArgs (PySem.W.fnOf x qual (defArgs st) (defBody st) (defScope st) .none kV doc pm an cdv ct) ⟨us,[]⟩ = pure (ps.zip us)):Binds K fd ps []:=by
 obtain ⟨oc,od,kV,doc,pm,an,cdv,ct,osl,rfl,lk,hcd⟩:=F.ex
 exact .all (h kV doc pm an cdv ct)
theorem Zru {x qual:Str} {st:Stmt} {f:Addr} {oc:Value} {od an:Option Addr} {osl:Array (Option Value)} {kV doc pm cdv ct:Value} (l:K.lookup f=some ⟨oc,od,.func (PySem.W.fnOf x qual (defArgs st) (defBody st) (defScope st) .none kV doc pm an cdv ct),osl⟩)
  (c:PySem.W.codeIn K cdv qual=true) (k:PySem.W.keepIn K (.ref f)=true):Fun K x qual st f (PySem.W.fnOf x qual (defArgs st) (defBody st) (defScope st) .none kV doc pm an cdv ct):=⟨⟨oc,od,kV,doc,pm,an,cdv,ct,osl,rfl,l,c⟩,k⟩
end
theorem Zco {A:Around} {k:Nat} (hr:Room k A):A.units + 1 < cLine:=Nat.lt_of_le_of_lt (Nat.add_le_add_left (by decide:1<=64) _) hr.units
theorem small1000 {n:Nat} (h:n<=1000):n < sizeLine:=Nat.lt_of_le_of_lt h (by decide)
section
variable {X:Cx}
theorem pv (i:Nat) {x:Str} {pos:Pos} (hN:X.N[i]? = some x:=by rfl) (hv:Vis X.env.scope x:=by first | exact Or.inl rfl | exact Or.inr (Or.inl rfl) | exact Or.inr (Or.inr rfl)) (hd:(x == ("__debug__":Str))=false:=by decide)
  (hcd:(x == ("__classdict__":Str))=false:=by decide):PE X (.Name x pos) (tVar i):=Zsw hN hv hd hcd
end
theorem iteF {A B:Prop} (h:B):if false=true then A else B:=by
 rw [if_neg Bool.false_ne_true]
 exact h
theorem iteT {A B:Prop} (h:A):if true=true then A else B:=by
 rw [if_pos rfl]
 exact h
theorem ite2 {c A B:Prop} [Decidable c] (h1:c->A) (h2:¬ c->B):if c then A else B:=by
 by_cases h:c
 ·rw [if_pos h]
  exact h1 h
 ·rw [if_neg h]
  exact h2 h
def Same (H H':Hp):Prop:=∀ b o,H b=some o->H' b=some o
theorem Same.refl (H:Hp):Same H H:=fun _ _ h=>h
theorem Same.trans {H H1 H2:Hp} (a:Same H H1) (b:Same H1 H2):Same H H2:=fun c o h=>b c o (a c o h)
theorem Same.seq {K:PySem.W.Frag} {H H':Hp} {a:Addr} {xs:List V} (e:Same H H') (h:SqL K H a xs):SqL K H' a xs:=by
 rcases h with (h | ⟨o,h⟩) | h
 ·exact .inl (.inl (e _ _ h))
 ·exact .inl (.inr ⟨o,e _ _ h⟩)
 ·exact .inr h
end L2
namespace L2
open PySem PySem.Spec PyProof.Rows
section
variable {κ:Type} [DecidableEq κ]
def valV (kvs:List (κ × V)) (k:κ):Option V:=(kvs.find? fun kv=>decide (kv.1=k)).map (·.2)
def putK (kvs:List (κ × V)) (k:κ) (v:V):List (κ × V):=
 if (kvs.any fun kv=>decide (kv.1=k))=true then kvs.map (fun kv=>if kv.1=k then (kv.1,v) else kv) else kvs ++ [(k,v)]
theorem Zfg {p:κ × V} {r:List (κ × V)} {k:κ} (e:p.1=k):valV (p :: r) k=some p.2:=by simp [valV,List.find?_cons,e]
theorem Zfe {p:κ × V} {r:List (κ × V)} {k:κ} (e:¬ p.1=k):valV (p :: r) k=valV r k:=by simp [valV,List.find?_cons,e]
theorem Zjh (k:κ):∀ kvs:List (κ × V),(kvs.any fun kv=>decide (kv.1=k))=(valV kvs k).isSome
 | []=>rfl
 | p :: r=>by
  rw [List.any_cons]
  by_cases e:p.1=k
  ·simp only [Zfg e,decide_eq_true e,Bool.true_or,Option.isSome_some]
  ·rw [Zfe e,decide_eq_false e,Bool.false_or]; exact Zjh k r
theorem Zeb (kvs:List (κ × V)) (k:κ) (v:V):(putK kvs k v).length<=kvs.length + 1:=by
 unfold putK
 split
 ·rw [List.length_map]; omega
 ·rw [List.length_append,List.length_cons,List.length_nil]; omega
theorem RelO.isSome_eq {o:Option V} {u:Option Value} (r:RelO o u):o.isSome=u.isSome:=by
 cases o with
 | none=>cases u with
  | none=>rfl
  | some _=>exact (show False from r).elim
 | some _=>cases u with
  | none=>exact (show False from r).elim
  | some _=>rfl
theorem RelO.getD {o:Option V} {u:Option Value} {d:V} {d':Value} (r:RelO o u) (rd:RelV d d'):RelV (o.getD d) (u.getD d'):=by
 cases o with
 | none=>cases u with
  | none=>exact rd
  | some _=>exact (show False from r).elim
 | some _=>cases u with
  | none=>exact (show False from r).elim
  | some _=>exact r
theorem KV.val {kvs:List (κ × V)} {vs:List (κ × Value)} (r:KV kvs vs) (k:κ):RelO (valV kvs k) (valueAt vs k):=by
 unfold KV at r
 induction r with
 | nil=>exact True.intro
 | @cons p q ps qs h t ih=>
  obtain ⟨h1,h2⟩:=h
  by_cases e:p.1=k
  ·have e':q.1=k:=h1.symm.trans e
   have b:valueAt (q :: qs) k=some q.2:=by simp [valueAt,List.find?_cons,e']
   rw [Zfg e,b]; exact h2
  ·have e':¬ q.1=k:=fun z=>e (h1.trans z)
   have b:valueAt (q :: qs) k=valueAt qs k:=by simp [valueAt,List.find?_cons,e']
   rw [Zfe e,b]; exact ih
theorem KV.any {kvs:List (κ × V)} {vs:List (κ × Value)} (r:KV kvs vs) (k:κ):(kvs.any fun kv=>decide (kv.1=k))=vs.any fun kv=>decide (kv.1=k):=by
 unfold KV at r
 induction r with
 | nil=>rfl
 | cons h t ih=>rw [List.any_cons,List.any_cons,ih,h.1]
theorem KV.repl {kvs:List (κ × V)} {vs:List (κ × Value)} (r:KV kvs vs) (k:κ) {y:V} {u:Value} (ry:RelV y u) :
  KV (kvs.map fun kv=>if kv.1=k then (kv.1,y) else kv) (vs.map fun kv=>if kv.1=k then (kv.1,u) else kv):=by
 unfold KV at r ⊢
 induction r with
 | nil=>exact .nil
 | @cons p q ps qs h t ih=>
  rw [List.map_cons,List.map_cons]
  refine .cons ?_ ih
  obtain ⟨h1,h2⟩:=h
  by_cases e:p.1=k
  ·rw [if_pos e,if_pos (h1.symm.trans e)]; exact ⟨h1,ry⟩
  ·rw [if_neg e,if_neg (fun z=>e (h1.trans z))]; exact ⟨h1,h2⟩
theorem KV.put {kvs:List (κ × V)} {vs:List (κ × Value)} (r:KV kvs vs) (k:κ) {y:V} {u:Value} (ry:RelV y u):KV (putK kvs k y) (stored vs k u):=by
 unfold putK stored
 rw [r.any k]
 by_cases e:(vs.any fun kv=>decide (kv.1=k))=true
 ·rw [if_pos e,if_pos e]; exact r.repl k ry
 ·rw [if_neg e,if_neg e]; exact Paired.snoc r ⟨rfl,ry⟩
theorem KV.length {kvs:List (κ × V)} {vs:List (κ × Value)} (r:KV kvs vs):kvs.length=vs.length:=Paired.length r
end
theorem Zhl {P:Program} {w:World} {k:Key} {u:Value} (r:RelV (kV k) u):(mixKind P w).is k u=true:=by
 cases k with
 | inl i=>obtain ⟨t,e⟩:=(show ∃ t,u=Value.int i t from r); subst e; exact Zi7 P w i t
 | inr x=>obtain ⟨t,e⟩:=(show ∃ t,u=Value.str x t from r); subst e; exact Zi3 P w x t
theorem Zh2 {P:Program} {w:World}:∀ {ks:List Key} {us:List Value},Vals (ks.map kV) us->ItemsAre (mixKind P w) ks us
 | [],_,r=>by rw [List.map_nil] at r; cases r; exact .nil
 | k :: ks,_,r=>by
  rw [List.map_cons] at r
  cases r with
  | cons h t=>exact .cons (Zhl h) (Zh2 t)
abbrev KT (H:Hp):List (List Key × V)->List (List Key × Addr × Value)->Prop:=Paired fun p q=>p.1=q.1/\H q.2.1=some (.tup (p.1.map kV))/\RelV p.2 q.2.2
theorem KT.val {H:Hp} {kvs:List (List Key × V)} {xs:List (List Key × Addr × Value)} (r:KT H kvs xs) (k:List Key):RelO (valV kvs k) ((atKey xs k).map (·.2)):=by
 induction r with
 | nil=>exact True.intro
 | @cons p q ps qs h t ih=>
  obtain ⟨h1,_,h2⟩:=h
  by_cases e:p.1=k
  ·have e':q.1=k:=h1.symm.trans e
   have b:atKey (q :: qs) k=some q.2:=by simp [atKey,List.find?_cons,e']
   rw [Zfg e,b]; exact h2
  ·have e':¬ q.1=k:=fun z=>e (h1.trans z)
   have b:atKey (q :: qs) k=atKey qs k:=by simp [atKey,List.find?_cons,e']
   rw [Zfe e,b]; exact ih
theorem KT.repl {H:Hp} {kvs:List (List Key × V)} {xs:List (List Key × Addr × Value)} (r:KT H kvs xs) (k:List Key) {y:V} {u:Value} (ry:RelV y u) :
  KT H (kvs.map fun kv=>if kv.1=k then (kv.1,y) else kv) (xs.map (putAt k u)):=by
 induction r with
 | nil=>exact .nil
 | @cons p q ps qs h t ih=>
  rw [List.map_cons,List.map_cons]
  refine .cons ?_ ih
  obtain ⟨h1,h2,h3⟩:=h
  unfold putAt
  by_cases e:p.1=k
  ·rw [if_pos e,if_pos (h1.symm.trans e)]; exact ⟨h1,h2,ry⟩
  ·rw [if_neg e,if_neg (fun z=>e (h1.trans z))]; exact ⟨h1,h2,h3⟩
theorem KT.put {H:Hp} {kvs:List (List Key × V)} {xs:List (List Key × Addr × Value)} (r:KT H kvs xs) (k:List Key) {b:Addr} {y:V} {u:Value} (hb:H b=some (.tup (k.map kV))) (ry:RelV y u) :
  KT H (putK kvs k y) (storedH xs k b u):=by
 have e:(kvs.any fun kv=>decide (kv.1=k))=(atKey xs k).isSome:=by
  rw [Zjh,(r.val k).isSome_eq,Option.isSome_map]
 unfold putK storedH
 rw [e]
 by_cases q:(atKey xs k).isSome=true
 ·rw [if_pos q,if_pos q]; exact r.repl k ry
 ·rw [if_neg q,if_neg q]; exact Paired.snoc r ⟨rfl,hb,ry⟩
theorem KT.keeps {H H':Hp} {kvs:List (List Key × V)} {xs:List (List Key × Addr × Value)} (r:KT H kvs xs) (ht:∀ b ys,H b=some (.tup ys)->H' b=some (.tup ys)):KT H' kvs xs:=
 Paired.mapP r fun _ _ z=>⟨z.1,ht _ _ z.2.1,z.2.2⟩
section
variable {P:Program} {w:World} {H:Hp} {h:Heap} {a:Addr}
theorem Zs7 {u:HO} (ok:HOk P w H h) (e:Rd H a u):ObjOk P w H h a u:=e.ok ok
theorem Zh8 {kvs:List (Key × V)} (ok:HOk P w H h) (e:Rd H a (.dK kvs)):kvs.length<=sizeLine/\(a == sysModules)=false/\∃ vs,KV kvs vs/\h.DictOf (mixKind P w) a vs:=
 show ObjOk P w H h a (.dK kvs) from Zs7 ok e
theorem Znu {kvs:List (Key × V)} (ok:HOk P w H h) (e:H a=some (.dK kvs)):kvs.length<=sizeLine/\(a == sysModules)=false/\∃ vs,KV kvs vs/\h.DictOf (mixKind P w) a vs:=Zh8 ok (.inl e)
theorem Zgm {ks:List Key} (ok:HOk P w H h) (e:H a=some (.tup (ks.map kV))):(tupleKind (mixKind P w)).is h ks a:=by
 obtain ⟨_,its,r,o,h1,⟨h2,n,h3⟩,_⟩:=(show ObjOk P w H h a (.tup (ks.map kV)) from ok a _ e)
 exact ⟨o,its.toArray,n,h1,h2,h3,by simpa using Zh2 r⟩
theorem Zkw {kvs:List (List Key × V)} (ok:HOk P w H h) (e:Rd H a (.dT kvs)):kvs.length<=sizeLine/\(a == sysModules)=false ∧
  ∃ xs,KT H kvs xs/\h.DictOfH (tupleKind (mixKind P w)) a xs:=by
 obtain ⟨z,y,xs,r,o,es,ep,h1,h2,h3,h4,h5⟩:=(show ObjOk P w H h a (.dT kvs) from Zs7 ok e)
 refine ⟨z,y,xs,r,o,es,ep,h1,h2,h3,h4,fun x hx=>?_,h5⟩
 have all:∀ {l:List (List Key × V)} {m:List (List Key × Addr × Value)},KT H l m->∀ x ∈ m,(tupleKind (mixKind P w)).is h x.1 x.2.1:=by
  intro l m q
  induction q with
  | nil=>intro x hx; exact nomatch hx
  | @cons p q ps qs hq t ih=>
   intro x hx
   rcases List.mem_cons.mp hx with e | hx
   ·subst e
    exact Zgm ok (by rw [<- hq.1]; exact hq.2.1)
   ·exact ih x hx
 exact all r x hx
theorem Ztv {kvs:List (List Key × V)} (ok:HOk P w H h) (e:H a=some (.dT kvs)):kvs.length<=sizeLine/\(a == sysModules)=false ∧
  ∃ xs,KT H kvs xs/\h.DictOfH (tupleKind (mixKind P w)) a xs:=Zkw ok (.inl e)
end
def DGet (H:Hp) (a:Addr) (y:V) (r:Option V):Prop:=
 (∃ kvs k,Rd H a (.dK kvs)/\y=kV k/\r=valV kvs k)\/∃ kvs k b,Rd H a (.dT kvs)/\y=.ref b/\H b=some (.tup (k.map kV))/\r=valV kvs k
def DPut (H:Hp) (a:Addr) (y v:V) (H':Hp):Prop:=
 (∃ kvs k,H a=some (.dK kvs)/\y=kV k/\kvs.length < sizeLine/\H' = upd H a (.dK (putK kvs k v))) ∨
 ∃ kvs k b,H a=some (.dT kvs)/\y=.ref b/\H b=some (.tup (k.map kV))/\kvs.length < sizeLine/\H' = upd H a (.dT (putK kvs k v))
theorem DGet.k {H:Hp} {a:Addr} {kvs:List (Key × V)} {k:Key} (e:H a=some (.dK kvs)):DGet H a (kV k) (valV kvs k):=.inl ⟨kvs,k,.inl e,rfl,rfl⟩
theorem DPut.k {H:Hp} {a:Addr} {kvs:List (Key × V)} {k:Key} {v:V} (e:H a=some (.dK kvs)) (hl:kvs.length < sizeLine):DPut H a (kV k) v (upd H a (.dK (putK kvs k v))):=.inl ⟨kvs,k,e,rfl,hl,rfl⟩
section
variable {X:Cx} {pins:List (Addr × Obj)} {σ:St} {H:Hp} {s:Shared} {a:Addr} {y v:V} {u r:Value} {o:Option V} {A:Around} {E:Value->Shared->Prop}
theorem Inv.big (I:Inv X pins σ H s):sysModules < s.heap.objs.size:=by
 have h:mainGlobals < s.heap.objs.size:=(I.mod.glob.keeps I.bk).lt
 exact Nat.lt_trans (by decide) h
theorem Zmn {Q:Value->Shared->Prop} (hu:A.units + 1 < cLine) (I:Inv X pins σ H s) (g:DGet H a y (some v)) (ry:RelV y u) (h:∀ w' s',Inv X pins σ H s' -> RelV v w' -> Q w' s') :
  wpAny (model X.prog X.w) A (getItem (.ref a) u) Q E s:=by
 rcases g with ⟨kvs,k,e,ey,l⟩ | ⟨kvs,k,b,e,ey,eb,l⟩
 ·subst ey
  obtain ⟨z,hd,vs,rel,dd⟩:=Zh8 I.hok e
  obtain ⟨w',hw,rw'⟩:=RelO.some_of (v:=v) (o:=valueAt vs k) (by rw [l]; exact rel.val k)
  exact wpAny_getItem_of (Zhl ry) dd.mapOf hw (h w' _ (I.tok _) rw')
 ·subst ey
  cases (show u=Value.ref b from ry)
  obtain ⟨z,hd,xs,rel,dd⟩:=Zkw I.hok e
  obtain ⟨w',hw,rw'⟩:=RelO.some_of (v:=v) (o:=(atKey xs k).map (·.2)) (by rw [l]; exact rel.val k)
  obtain ⟨p,hp,hp2⟩:=Option.map_eq_some_iff.mp hw
  refine wpAny_getItem_heap (tupleKind_room_in1 hu) (Zgm I.hok eb) dd hp ?_
  rw [hp2]
  exact h w' _ (I.tok _) rw'
theorem d_in {Q:Value->Shared->Prop} (hu:A.units + 1 < cLine) (I:Inv X pins σ H s) (g:DGet H a y o) (ry:RelV y u) (h:∀ s',Inv X pins σ H s' -> Q (.bool o.isSome) s') :
  wpAny (model X.prog X.w) A (compareOp .In u (.ref a)) Q E s:=by
 rcases g with ⟨kvs,k,e,ey,l⟩ | ⟨kvs,k,b,e,ey,eb,l⟩
 ·subst ey
  obtain ⟨z,hd,vs,rel,dd⟩:=Zh8 I.hok e
  refine wpAny_in_of (Zhl ry) hd dd.mapOf ?_
  rw [<- (rel.val k).isSome_eq,<- l]
  exact h _ (I.tok _)
 ·subst ey
  cases (show u=Value.ref b from ry)
  obtain ⟨z,hd,xs,rel,dd⟩:=Zkw I.hok e
  refine wpAny_in_heap (tupleKind_room_in1 hu) (Zgm I.hok eb) hd dd ?_
  have q:=(rel.val k).isSome_eq
  rw [Option.isSome_map] at q
  rw [<- q,<- l]
  exact h _ (I.tok _)
theorem Zqq {Q:Value->Shared->Prop} (hu:A.units + 1 < cLine) (I:Inv X pins σ H s) (g:DGet H a y o) (ry:RelV y u) (h:∀ s',Inv X pins σ H s' -> Q (.bool (!o.isSome)) s') :
  wpAny (model X.prog X.w) A (compareOp .NotIn u (.ref a)) Q E s:=by
 rcases g with ⟨kvs,k,e,ey,l⟩ | ⟨kvs,k,b,e,ey,eb,l⟩
 ·subst ey
  obtain ⟨z,hd,vs,rel,dd⟩:=Zh8 I.hok e
  refine wpAny_notIn_of (Zhl ry) hd dd.mapOf ?_
  rw [<- (rel.val k).isSome_eq,<- l]
  exact h _ (I.tok _)
 ·subst ey
  cases (show u=Value.ref b from ry)
  obtain ⟨z,hd,xs,rel,dd⟩:=Zkw I.hok e
  refine wpAny_notIn_heap (tupleKind_room_in1 hu) (Zgm I.hok eb) hd dd ?_
  have q:=(rel.val k).isSome_eq
  rw [Option.isSome_map] at q
  rw [<- q,<- l]
  exact h _ (I.tok _)
theorem Ziu {h':Heap} {t':Nat} {ob:HO} (I:Inv X pins σ H s) (mu:Mut (H a)) (hs:Heap.SameBut a s.heap h') (he:∃ q,h'.get? a=some q) (new:ObjOk X.prog X.w (upd H a ob) h' a ob) :
  Inv X pins σ (upd H a ob) { s with heap:=h',toks:=t' }:=
 I.write (x:=a) (e:=a) mu (.inl rfl) (fun b q hb z=>(hs.2 b hb).trans z) he new
theorem Zo9 {P:Program} {w:World} {H':Hp} {h':Heap} {kvs:List (Key × V)} {vs:List (Key × Value)} (z:kvs.length<=sizeLine) (hd:(a == sysModules)=false) (rel:KV kvs vs) (dd:h'.DictOf (mixKind P w) a vs) :
  ObjOk P w H' h' a (.dK kvs):=⟨z,hd,vs,rel,dd⟩
theorem Zl9 {H':Hp} {Q:Unit->Shared->Prop} (hu:A.units + 1 < cLine) (I:Inv X pins σ H s) (g:DPut H a y v H') (ry:RelV y u) (rv:RelV v r) (h:∀ s',Inv X pins σ H' s' -> Q () s') :
  wpAny (model X.prog X.w) A (setItem (.ref a) u r) Q E s:=by
 rcases g with ⟨kvs,k,e,ey,l,eH⟩ | ⟨kvs,k,b,e,ey,eb,l,eH⟩
 ·subst ey eH
  obtain ⟨z,hd,vs,rel,dd⟩:=Znu I.hok e
  have hz:vs.length<=sizeLine:=by rw [<- rel.length]; exact z
  have hl:(putK kvs k v).length<=sizeLine:=by have:=Zeb kvs k v; omega
  refine wpAny_setItem_pairs (hsz:=hz) (Zhl ry) dd fun h' dd' hs=>h _ ?_
  have he:∃ q,h'.get? a=some q:=let ⟨q,_,_,hq,_⟩:=dd'; ⟨q,hq⟩
  exact Ziu I (by rw [e]; exact True.intro) hs he (Zo9 hl hd (rel.put k rv) dd')
 ·subst ey eH
  cases (show u=Value.ref b from ry)
  obtain ⟨z,hd,xs,rel,dd⟩:=Ztv I.hok e
  have hz:xs.length<=sizeLine:=by rw [<- Paired.length rel]; exact z
  have hl:(putK kvs k v).length<=sizeLine:=by have:=Zeb kvs k v; omega
  refine wpAny_setItem_heap (hsz:=hz) (tupleKind_room_in1 hu) (Zgm I.hok eb) dd fun h' dd' hs=>h _ ?_
  obtain ⟨q,es,ep,hq,h2,h3,h4,_,h5⟩:=dd'
  refine Ziu I (by rw [e]; exact True.intro) hs ⟨q,hq⟩ ⟨hl,hd,_,(rel.put k eb rv).keeps fun c ys ec=>?_,q,es,ep,hq,h2,h3,h4,h5⟩
  rw [Zao (Ztx ec e (fun z=>nomatch z))]
  exact ec
end
section
variable {X:Cx} {pins:List (Addr × Obj)} {σ:St} {H:Hp} {s:Shared} {a:Addr} {kvs:List (Key × V)} {k:Key} {u:Value} {A:Around} {E:Value->Shared->Prop}
theorem Zt2 {Q:Value->Shared->Prop} (I:Inv X pins σ H s) (e:Rd H a (.dK kvs)) (h:∀ t s',Inv X pins σ H s' -> Q (.int kvs.length t) s'):wpAny (model X.prog X.w) A (call (.builtin "len") [.ref a]) Q E s:=by
 obtain ⟨z,hd,vs,rel,dd⟩:=Zh8 I.hok e
 refine call_len_dict hd dd (by rw [<- rel.length]; rw [sizeLine_eq] at z; omega) ?_
 rw [<- rel.length]
 exact h _ _ (I.tok _)
end
theorem Zi5 {X:Cx} {pins:List (Addr × Obj)} {σ:St} {H:Hp} {s:Shared} {a:Addr} {y:V} {o:Option V} (I:Inv X pins σ H s) (g:DGet H a y o):s.TypeIs (.ref a) "dict":=by
 rcases g with ⟨kvs,k,e,_,_⟩ | ⟨kvs,k,b,e,_,_,_⟩
 ·obtain ⟨_,_,vs,_,dd⟩:=Zh8 I.hok e
  exact dd.typeIs
 ·obtain ⟨_,_,xs,_,dd⟩:=Zkw I.hok e
  exact dd.typeIs
theorem Zjt {P:Program} {w:World} {H:Hp} (h:Heap) (hb:sysModules < h.objs.size):ObjOk P w H (h.push { cls:=.type "dict",data:=.dict #[] }) h.objs.size (.dK []):=
 ⟨Nat.zero_le _,beq_eq_false_iff_ne.mpr (Ne.symm (Nat.ne_of_lt hb)),[],.nil,Heap.DictOf.new h⟩
def tDNewK:TE:=fun _ H Q=>∀ p,H p=none->Q (.ref p) (upd H p (.dK []))
section
variable {X:Cx} {pos:Pos}
theorem Zjy:PE X (.Dict [] [] pos) tDNewK:=fun pins s σ H Q I h=>
 wpAny_Dict_empty ⟨.ref s.heap.objs.size,_,I.laid (a:=s.heap.objs.size) (o:=.dK []) (t':=s.toks) (fun _ _ q=>Heap.get?_push_of_some _ q) (Nat.le_refl _) (Zjt s.heap I.big),rfl,h _ (I.hok.fresh (Nat.le_refl _))⟩
end
def tPairs:List (TE × TE)->St->Hp->(List (V × V)->Hp->Prop)->Prop
 | [],_,H,Q=>Q [] H
 | (tk,tv) :: r,σ,H,Q=>tk σ H fun x H1=>tv σ H1 fun y H2=>tPairs r σ H2 fun ps H3=>Q ((x,y) :: ps) H3
abbrev VV:List (V × V)->List (Value × Value)->Prop:=Paired fun p q=>RelV p.1 q.1/\RelV p.2 q.2
def PPs (X:Cx) (pos:Pos) (keys:List (Option Expr)) (values:List Expr) (trs:List (TE × TE)):Prop:=
 ∀ (pins:List (Addr × Obj)) (s:Shared) (σ:St) (H:Hp) (Q:List (V × V)->Hp->Prop),Inv X pins σ H s->tPairs trs σ H Q →
  wpAny (model X.prog X.w) X.A (evalPairs (pairTrees keys values X.env pos)) (fun vs s'=>∃ ps H',Inv X pins σ H' s' /\ VV ps vs/\Q ps H') X.xe s
theorem Zp5 {X:Cx} {pos:Pos}:PPs X pos [] [] []:=fun pins s σ H Q I h=>pairTrees_nil_walk ⟨[],H,I,.nil,h⟩
theorem Znv {X:Cx} {pos:Pos} {k v:Expr} {ks:List (Option Expr)} {vs:List Expr} {tk tv:TE} {trs:List (TE × TE)} (hk:PE X k tk) (hv:PE X v tv) (hr:PPs X pos ks vs trs) :
  PPs X pos (some k :: ks) (v :: vs) ((tk,tv) :: trs):=fun pins s σ H Q I h=>
 pairTrees_cons_walk (thn (hk pins s σ H _ I h) fun u s1 ⟨x,H1,I1,rx,q1⟩=>thn (hv pins s1 σ H1 _ I1 q1) fun w2 s2 ⟨y,H2,I2,ry,q2⟩=>
  thn (hr pins s2 σ H2 _ I2 q2) fun ws s3 ⟨ps,H3,I3,rel,q3⟩=>⟨(x,y) :: ps,H3,I3,.cons ⟨rx,ry⟩ rel,q3⟩)
def mergeK (kvs more:List (Key × V)):List (Key × V):=more.foldl (fun acc kv=>putK acc kv.1 kv.2) kvs
theorem KV.merge:∀ {more:List (Key × V)} {rs:List (Key × Value)} {kvs:List (Key × V)} {vs:List (Key × Value)},KV more rs->KV kvs vs->KV (mergeK kvs more) (merged vs rs):=by
 intro more rs kvs vs r
 unfold KV at r
 induction r generalizing kvs vs with
 | nil=>intro q; exact q
 | @cons p q ps qs h t ih=>
  intro r0
  have e:KV (putK kvs p.1 p.2) (stored vs q.1 q.2):=by
   have:=r0.put p.1 h.2
   rw [<- h.1]; exact this
  exact ih e
theorem Zee:∀ (more kvs:List (Key × V)),(mergeK kvs more).length<=kvs.length + more.length
 | [],kvs=>by show kvs.length<=kvs.length + 0; omega
 | p :: r,kvs=>by
  have h1:=Zee r (putK kvs p.1 p.2)
  have h2:=Zeb kvs p.1 p.2
  show (mergeK (putK kvs p.1 p.2) r).length<=_
  rw [List.length_cons]; omega
theorem Zgi {P:Program} {w:World}:∀ {kvs:List (Key × V)} {ws:List (Value × Value)},VV (kvs.map fun kv=>(kV kv.1,kv.2)) ws->∃ rs,Carries (mixKind P w) ws rs/\KV kvs rs
 | [],_,r=>by rw [List.map_nil] at r; cases r; exact ⟨[],True.intro,.nil⟩
 | p :: kvs,_,r=>by
  rw [List.map_cons] at r
  cases r with
  | @cons a b as bs h t=>
   obtain ⟨rs,c,q⟩:=Zgi (P:=P) (w:=w) t
   obtain ⟨b1,b2⟩:=b
   exact ⟨(p.1,b2) :: rs,⟨Zhl h.1,rfl,c⟩,.cons ⟨rfl,h.2⟩ q⟩
def tDisp (trs:List (TE × TE)):TE:=fun σ H Q=>∀ p,H p=none->tPairs trs σ (upd H p (.dK [])) fun ps H2=>H2 p=some (.dK [])/\∃ kvs:List (Key × V),ps=kvs.map (fun kv=>(kV kv.1,kv.2))/\kvs.length<=15/\Q (.ref p) (upd H2 p (.dK (mergeK [] kvs)))
theorem Zra {X:Cx} {pos:Pos} {keys:List (Option Expr)} {values:List Expr} {trs:List (TE × TE)} (h:PPs X pos keys values trs) (hall:keys.all (·.isSome)=true) (hl:keys.length=values.length) (h0:keys ≠ [])
  (h15:keys.length<=15):PE X (.Dict keys values pos) (tDisp trs):=by
 intro pins s σ H Q I q
 have hn:=I.hok.fresh (Nat.le_refl s.heap.objs.size)
 have I1:=I.laid (a:=s.heap.objs.size) (o:=.dK []) (h':=s.heap.push { cls:=.type "dict",data:=.dict #[] }) (t':=s.toks) (fun _ _ q=>Heap.get?_push_of_some _ q) (Nat.le_refl _) (Zjt s.heap I.big)
 refine wpAny_Dict_walk (knd:=mixKind X.prog X.w) hall hl h0 h15 (thn (h pins _ σ _ _ I1 (q _ hn)) fun ws s2 ⟨ps,H2,I2,rel,e,kvs,ep,lk,q2⟩=>?_)
 subst ep
 obtain ⟨rs,c,rk⟩:=Zgi (P:=X.prog) (w:=X.w) rel
 obtain ⟨z,hd,vs0,r0,dd⟩:=Znu I2.hok e
 cases r0
 refine ⟨rs,c,dd,fun h' dd' hs=>⟨.ref s.heap.objs.size,_,?_,rfl,q2⟩⟩
 have hz:(mergeK [] kvs).length<=sizeLine:=by
  have h1:=Zee kvs []
  rw [List.length_nil] at h1
  rw [sizeLine_eq]; omega
 have he:∃ q,h'.get? s.heap.objs.size=some q:=let ⟨q,_,_,hq,_⟩:=dd'; ⟨q,hq⟩
 exact Ziu I2 (by rw [e]; exact True.intro) hs he (Zo9 hz hd (rk.merge .nil) dd')
section
variable {X:Cx} {pins:List (Addr × Obj)} {σ:St} {H:Hp} {s:Shared} {a:Addr} {y d:V} {u r:Value} {o:Option V} {A:Around} {E:Value->Shared->Prop}
theorem Zts {Q:Value->Shared->Prop} (hu:A.units + 1 < cLine) (I:Inv X pins σ H s) (g:DGet H a y o) (ry:RelV y u) (rd:RelV d r) (h:∀ w' s',Inv X pins σ H s' -> RelV (o.getD d) w' -> Q w' s') :
  wpAny (model X.prog X.w) A (call (.builtin "dict.get") [.ref a,u,r]) Q E s:=by
 rcases g with ⟨kvs,k,e,ey,l⟩ | ⟨kvs,k,b,e,ey,eb,l⟩
 ·subst ey
  obtain ⟨z,hd,vs,rel,dd⟩:=Zh8 I.hok e
  refine call_meetsIn PySem.F.slot_dict_get dd.typeIs PySem.F.entry_dict_get (PySem.F.args_dict_get_3 _ _ _) (meets_dict_get_default (mixKind X.prog X.w) a (Zhl ry) hd r) ⟨_,dd.mapOf,h _ _ (I.tok _) ?_⟩
  rw [l]
  exact (rel.val k).getD rd
 ·subst ey
  cases (show u=Value.ref b from ry)
  obtain ⟨z,hd,xs,rel,dd⟩:=Zkw I.hok e
  refine call_meetsIn PySem.F.slot_dict_get dd.typeIs PySem.F.entry_dict_get (PySem.F.args_dict_get_3 _ _ _) (meetsH_dict_get_default (tupleKind (mixKind X.prog X.w)) a b hd r) ⟨tupleKind_room_in1 hu,k,xs,Zgm I.hok eb,dd,h _ _ (I.tok _) ?_⟩
  rw [l]
  exact (rel.val k).getD rd
end
section
variable {X:Cx} {pins:List (Addr × Obj)} {σ:St} {H:Hp} {s:Shared} {a:Addr} {kvs:List (Key × V)} {A:Around} {E:Value->Shared->Prop}
end
end L2
namespace L2
open PySem PySem.Spec PyProof.Rows
section
variable {X:Cx}
theorem Zmp:CallR X (.builtin "len") (fun xs H Q=>∃ a kvs,xs=[V.ref a]/\H a=some (.dK kvs)/\Q (.int kvs.length) H):=by
 intro pins s σ H xs us Q I r h
 obtain ⟨a,kvs,rfl,ha,q⟩:=h
 obtain ⟨u,rfl,ru⟩:=vals1 r
 cases ru
 exact Zt2 I (.inl ha) fun t s' I'=>⟨.int kvs.length,H,I',⟨t,rfl⟩,q⟩
end
end L2
set_option Elab.async false
set_option linter.all false
set_option maxRecDepth 100000
namespace L2
open PySem PySem.Spec PyProof.Rows
def clOf (env:Env):List (Str × NameKind)->List (Str × Addr)->List (Str × Addr)
 | [],cs=>cs
 | (n,k) :: r,cs=>if k == .free then (match env.cells.lookup n with
     | some a=>clOf env r ((n,a) :: cs)
     | none=>clOf env r cs) else clOf env r cs
theorem Zf8 {env:Env}:∀ (names:List (Str × NameKind)) (cs:List (Str × Addr)),(∀ n,(n,NameKind.free) ∈ names->∃ a,env.cells.lookup n=some a) →
  (forIn names cs fun (x:Str × NameKind) (cs:List (Str × Addr))=>if (x.2 == .free)=true then (do let a ← cellOf env x.1; pure (ForInStep.yield ((x.1,a) :: cs))) else pure (ForInStep.yield cs):Sem (List (Str × Addr)))=pure (clOf env names cs)
 | [],cs,_=>rfl
 | (n,k) :: r,cs,h=>by
  rw [List.forIn_cons]
  have hr:∀ m,(m,NameKind.free) ∈ r->∃ a,env.cells.lookup m=some a:=fun m hm=>h m (List.mem_cons_of_mem _ hm)
  cases hk:k == NameKind.free with
  | false=>
   have e:clOf env ((n,k) :: r) cs=clOf env r cs:=by simp [clOf,hk]
   rw [e,<- Zf8 r cs hr]
   simp only [hk,Bool.false_eq_true,if_false]
   rfl
  | true=>
   have hk':k=.free:=by simpa using hk
   subst hk'
   obtain ⟨a,ha⟩:=h n List.mem_cons_self
   have e:clOf env ((n,.free) :: r) cs=clOf env r ((n,a) :: cs):=by simp [clOf,ha]
   have ec:cellOf env n=pure a:=by simp [cellOf,ha]
   rw [e,<- Zf8 r ((n,a) :: cs) hr]
   simp only [hk,if_true,ec]
   rfl
theorem Zcf {env:Env} {scope:Scope} (h:∀ n,(n,NameKind.free) ∈ scope.names->∃ a,env.cells.lookup n=some a):closureFor scope env=pure (clOf env scope.names []):=by
 rw [<- Zf8 scope.names [] h]
 simp only [closureFor]
 exact Eq.trans (bind_pure _) rfl
theorem Zbu {env:Env}:∀ (names:List (Str × NameKind)) (cs:List (Str × Addr)) {x:Str} {c:Addr},(∀ y d,cs.lookup y=some d->env.cells.lookup y=some d)->(clOf env names cs).lookup x=some c->env.cells.lookup x=some c
 | [],cs,x,c,h,e=>h x c e
 | (n,k) :: r,cs,x,c,h,e=>by
  unfold clOf at e
  split at e
  ·split at e
   ·rename_i a ha
    refine Zbu r ((n,a) :: cs) (fun y d q=>?_) e
    rw [List.lookup_cons] at q
    split at q
    ·rename_i hy
     have hy':y=n:=by simpa using hy
     cases q
     rw [hy']; exact ha
    ·exact h y d q
   ·exact Zbu r cs h e
  ·exact Zbu r cs h e
theorem Zeo {env:Env}:∀ (names:List (Str × NameKind)) (cs:List (Str × Addr)) {x:Str},(∃ c,cs.lookup x=some c)->∃ c,(clOf env names cs).lookup x=some c
 | [],cs,x,h=>h
 | (n,k) :: r,cs,x,h=>by
  have h2:∀ a,∃ c,((n,a) :: cs).lookup x=some c:=fun a=>by
   rw [List.lookup_cons]
   split
   ·exact ⟨_,rfl⟩
   ·exact h
  unfold clOf
  split
  ·split
   ·exact Zeo r _ (h2 _)
   ·exact Zeo r cs h
  ·exact Zeo r cs h
theorem Zdl {env:Env}:∀ (names:List (Str × NameKind)) (cs:List (Str × Addr)) {x:Str},(x,NameKind.free) ∈ names->(∃ a,env.cells.lookup x=some a)->∃ c,(clOf env names cs).lookup x=some c
 | [],_,_,h,_=>by simp at h
 | (n,k) :: r,cs,x,h,⟨a,ha⟩=>by
  rcases List.mem_cons.mp h with e | hm
  ·have e1:n=x:=(congrArg Prod.fst e).symm
   have e2:k=.free:=(congrArg Prod.snd e).symm
   subst e1; subst e2
   have e:clOf env ((n,.free) :: r) cs=clOf env r ((n,a) :: cs):=by simp [clOf,ha]
   rw [e]
   exact Zeo r _ ⟨a,by simp⟩
  ·unfold clOf
   split
   ·split
    ·exact Zdl r _ hm ⟨a,ha⟩
    ·exact Zdl r _ hm ⟨a,ha⟩
   ·exact Zdl r _ hm ⟨a,ha⟩
def relab (osc scope:Scope):Scope:=
 { scope with names:=scope.names.map fun (n,k)=>if (k == .free && osc.kind == .function && osc.names.lookup n == some .cell) then (n,.cell) else (n,k) }
theorem Zhq {osc scope:Scope} {x:Str} {k:NameKind} (hk:k=.cell\/k=.free) (hc:∀ y ∈ scope.names,y.2 ≠ .cell) (h:(relab osc scope).names.lookup x=some k):(x,NameKind.free) ∈ scope.names:=by
 have hm:=PySem.mem_of_lookup h
 obtain ⟨⟨n,j⟩,hy,e⟩:=List.mem_map.mp hm
 dsimp only at e
 split at e
 ·rename_i hj
  have e1:n=x:=congrArg Prod.fst e
  have hj':j=.free:=by
   simp only [Bool.and_eq_true,beq_iff_eq] at hj
   exact hj.1.1
  rw [<- e1,<- hj']; exact hy
 ·have e1:n=x:=congrArg Prod.fst e
  have e2:j=k:=congrArg Prod.snd e
  rcases hk with z | z
  ·exact absurd (show ((n,j):Str × NameKind).2=.cell from e2.trans z) (hc _ hy)
  ·rw [<- e1,<- z,<- e2]; exact hy
theorem Zey {osc:Scope} {x:Str}:∀ {names:List (Str × NameKind)},names.lookup x=some .free →
  (names.map fun (n,k)=>if (k == NameKind.free && osc.kind == .function && osc.names.lookup n == some .cell) then (n,NameKind.cell) else (n,k)).lookup x=some .cell ∨
  (names.map fun (n,k)=>if (k == NameKind.free && osc.kind == .function && osc.names.lookup n == some .cell) then (n,NameKind.cell) else (n,k)).lookup x=some .free
 | [],h=>by simp at h
 | (n,k) :: r,h=>by
  have ih:=@Zey osc x r
  rw [List.map_cons]
  cases hx:x == n with
  | true=>
   simp only [List.lookup_cons,hx] at h
   cases h
   dsimp only
   split
   ·left; simp [List.lookup_cons,hx]
   ·right; simp [List.lookup_cons,hx]
  | false=>
   simp only [List.lookup_cons,hx] at h
   dsimp only
   split
   ·simpa only [List.lookup_cons,hx] using ih h
   ·simpa only [List.lookup_cons,hx] using ih h
structure CompSc (osc:Scope) (oN:List Str) (scope:Scope) (fvs:List Str) (sel:List Nat):Prop where
 kind:scope.kind=.function
 nocell:∀ y ∈ scope.names,y.2 ≠ .cell
 names:∀ y ∈ scope.names,y.2=.local->scope.names.lookup y.1=some .local
 free:∀ y ∈ scope.names,y.2=.free->osc.names.lookup y.1=some .cell\/osc.names.lookup y.1=some .free
 len:fvs.length=sel.length
 fv:∀ p ∈ fvs.zip sel,oN[p.2]? = some p.1/\scope.names.lookup p.1=some .free
def compCx (X:Cx) (scope:Scope) (N:List Str) (C:Addr) (s:Shared) (H:Hp) (ex:List Addr) (pn:List (Addr × Obj)):Cx where
 prog:=X.prog
 w:=X.w
 K:=X.K
 mg:=X.mg
 base:=X.base
 A:=X.A
 N:=N
 s₀:=s
 H₀:=H
 env:=compEnvC scope (clOf X.env scope.names []) C X.env
 outer:=X.stack
 stack:=X.stack
 ex:=ex
 fn:=fun _=>false
 calm:=X.calm
 pn:=pn
 xe:=fun _ _=>False
def compSt (n:Nat) (sel:List Nat) (σ:St):St:=List.replicate n none ++ sel.map fun i=>(σ[i]?).getD none
section
variable {X:Cx} {pins:List (Addr × Obj)} {σ:St} {H:Hp} {s:Shared} {fp:List Addr} {scope:Scope} {tgs fvs:List Str} {sel:List Nat}
theorem Zet (S:CompSc X.env.scope X.N scope fvs sel) (ok:X.Ok):∀ n,(n,NameKind.free) ∈ scope.names->∃ a,X.env.cells.lookup n=some a:=fun n hn=>
 ok.has n (S.free _ hn rfl)
theorem Zqd (S:CompSc X.env.scope X.N scope fvs sel) (N:List Str) (I:Inv X pins σ H s) (hf:∀ b ∈ fp,FpOk X pins H b) (hlt:∀ b ∈ fp,b < s.heap.objs.size):(compCx X scope N s.heap.objs.size s H fp (X.pn ++ pins)).Ok where
 mod:=I.ok.mod
 kind:=S.kind
 glob:=I.ok.glob
 blt:=I.ok.blt
 above:=Nat.le_refl _
 inj:=fun x y c h1 h2=>I.ok.inj x y c (Zbu _ _ (fun _ _ z=>by simp at z) h1) (Zbu _ _ (fun _ _ z=>by simp at z) h2)
 has:=fun x hx=>by
  have hm:(x,NameKind.free) ∈ scope.names:=by
   rcases hx with z | z
   ·exact Zhq (osc:=X.env.scope) (.inl rfl) S.nocell z
   ·exact Zhq (osc:=X.env.scope) (.inr rfl) S.nocell z
  exact Zdl scope.names [] hm (Zet S I.ok x hm)
 cab:=fun x c h _=>by cases h
 hd:=I.ok.hd
 frames:=I.ok.frames
 stk:=.inl rfl
 exf:=fun b hb=>⟨Nat.ne_of_lt (hlt b hb),fun x c e=>(hf b hb).2.2.2.2.1 x c (Zbu _ _ (fun _ _ z=>by simp at z) e)⟩
 bs:=I.bs
 bsz:=Nat.le_trans I.ok.bsz I.sz
 noex:=fun b o e hb=>by
  rcases (hf b hb).2.2.2.1 with z | z
  ·exact I.ok.noex b o e z
  ·exact absurd (Nat.lt_of_lt_of_le (Heap.lt_size e) (Nat.le_trans I.ok.bsz z)) (Nat.lt_irrefl _)
 exfs:=fun b hb z=>by
  rcases List.mem_cons.mp (I.stkSub b z) with e | z
  ·exact (hf b hb).2.1 e
  ·exact (hf b hb).2.2.1 z
 funs:=I.stack
 frf:=I.stkFree
theorem Zos (S:CompSc X.env.scope X.N scope fvs sel) (I:Inv X pins σ H s) (hf:∀ b ∈ fp,FpOk X pins H b) (hlt:∀ b ∈ fp,b < s.heap.objs.size) {h':Heap} {tk:Nat} {m:Str->Option Value}
  (hns:h'.Ns s.heap.objs.size m) (old:∀ b o,s.heap.get? b=some o->h'.get? b=some o) :
  Inv (compCx X scope (tgs ++ fvs) s.heap.objs.size s H fp (X.pn ++ pins)) [] (compSt tgs.length sel σ) H { s with heap:=h',toks:=tk } where
 ok:=Zqd S _ I hf hlt
 os:=rfl
 bare:=I.bare
 base:=Un.kept old
 loc:=by
  refine ⟨m,hns,fun i x v h1 h2 h3=>?_⟩
  have h1:(tgs ++ fvs)[i]? = some x:=h1
  unfold compSt at h2
  by_cases hi:i < tgs.length
  ·rw [List.getElem?_append_left (by simpa using hi),List.getElem?_replicate,if_pos hi] at h2
   cases h2
  ·have hi':tgs.length<=i:=Nat.le_of_not_lt hi
   rw [List.getElem?_append_right (by simpa using hi'),List.getElem?_map,List.length_replicate] at h2
   rw [List.getElem?_append_right hi'] at h1
   cases hj:sel[i - tgs.length]? with
   | none=>rw [hj] at h2; cases h2
   | some j=>
    rw [hj] at h2
    have h2:(σ[j]?).getD none=some v:=by simpa using h2
    have hz:(x,j) ∈ fvs.zip sel:=by
     refine List.mem_of_getElem? (i:=i - tgs.length) ?_
     rw [List.getElem?_zip_eq_some]
     exact ⟨h1,hj⟩
    obtain ⟨hN,hfr⟩:=S.fv _ hz
    have hσ:σ[j]? = some (some v):=by
     cases q:σ[j]? with
     | none=>rw [q] at h2; cases h2
     | some o=>rw [q] at h2; exact congrArg some h2
    have hko:X.env.scope.names.lookup x=some .cell\/X.env.scope.names.lookup x=some .free:=S.free (x,.free) (PySem.mem_of_lookup hfr) rfl
    obtain ⟨m0,hn0,hl0⟩:=I.loc
    obtain ⟨u,r,l⟩:=hl0 j x v hN hσ (.inr hko)
    refine ⟨u,r,.inr ⟨Zey hfr,?_⟩⟩
    rcases l with ⟨hk,_⟩ | ⟨_,c,hc,hcell⟩
    ·have hk:X.env.scope.names.lookup x=some .local:=hk
     rcases hko with z | z <;> (rw [hk] at z; cases z)
    ·obtain ⟨c',hc'⟩:=Zdl scope.names [] (PySem.mem_of_lookup hfr) ⟨c,hc⟩
     have e:=Zbu scope.names [] (fun _ _ z=>by simp at z) hc'
     rw [hc] at e; cases e
     obtain ⟨o,ho,hd⟩:=hcell
     exact ⟨c,hc',o,old _ _ ho,hd⟩
 cell:=fun x c e=>by
  obtain ⟨v,o,ho,hd⟩:=I.cell x c (Zbu _ _ (fun _ _ z=>by simp at z) e)
  exact ⟨v,o,old _ _ ho,hd⟩
 free:=I.hok.fresh (Nat.le_refl _)
 freeC:=fun x c e=>I.freeC x c (Zbu _ _ (fun _ _ z=>by simp at z) e)
 pin:=fun p hp=>by
  have hp:p ∈ (X.pn ++ pins) ++ []:=hp
  rw [List.append_nil] at hp
  obtain ⟨e,n,ne,nf,d⟩:=I.pin p hp
  refine ⟨old _ _ e,n,Nat.ne_of_lt (Heap.lt_size e),fun z=>?_,d⟩
  rcases List.mem_cons.mp (I.stkSub p.1 z) with q | q
  ·exact ne q
  ·exact nf q
 hok:=I.hok.kept old
 len:=by
  unfold compSt
  show _=(tgs ++ fvs).length
  rw [List.length_append,List.length_append,List.length_replicate,List.length_map,S.len]
theorem Zms {N:List Str} {σ':St} {H':Hp} {s':Shared} {h':Heap} (I:Inv X pins σ H s) (hf:∀ b ∈ fp,FpOk X pins H b)
  (J:Inv (compCx X scope N s.heap.objs.size s H fp (X.pn ++ pins)) [] σ' H' s') (sb:Heap.SameBut s.heap.objs.size s'.heap h'):Inv X pins σ H' { s' with heap:=h' }:=by
 have B:Un (frs X.stack) fp H H' s.heap s'.heap:=J.base
 have ne:∀ b o,s.heap.get? b=some o->b ≠ s.heap.objs.size:=fun b o e=>Nat.ne_of_lt (Heap.lt_size e)
 have fr:H' s.heap.objs.size=none:=J.free
 refine I.call' (s':={ s' with heap:=h' }) (ch:=fp) J.os ⟨fun b o e n h1 h2=>?_,fun b o e n h1 h2=>?_,B.free,fun b o e h2=>?_,B.tups,B.frzs,B.tbls⟩ (fun b ob e=>?_) J.bare fun b hb=>?_
 ·exact (sb.2 b (ne b o e)).trans (B.keep b o e n h1 h2)
 ·obtain ⟨sl,q⟩:=B.slot b o e n h1 h2
  exact ⟨sl,(sb.2 b (ne b o e)).trans q⟩
 ·obtain ⟨o',q⟩:=B.there b o e h2
  exact ⟨o',(sb.2 b (ne b o e)).trans q⟩
 ·refine (J.hok b ob e).stay (fun c w' hc q=>(sb.2 c ?_).trans q) (fun _ q=>q) fun _ _ q=>q
  intro z
  rcases hc with hc | hc
  ·rw [<- hc,z,fr] at e; cases e
  ·rw [z,fr] at hc; cases hc
 ·exact ⟨(hf b hb).2.2.2.1,(hf b hb).2.1,(hf b hb).2.2.2.2.1,(hf b hb).2.2.2.2.2⟩
end
def PTs (X:Cx) (ifs:List Expr) (t:TT):Prop:=
 ∀ (pins:List (Addr × Obj)) (s:Shared) (σ:St) (H:Hp) (Q:Bool->Hp->Prop),Inv X pins σ H s->t σ H Q →
  wpAny (model X.prog X.w) X.A (forIn ifs true fun c r=>if r=true then do let ok ← isTrue c X.env (eval c X.env); pure (ForInStep.yield ok) else pure (ForInStep.yield r)) (TP X pins σ Q) X.xe s
def tTrue:TT:=fun _ H Q=>Q true H
theorem Zb8 {X:Cx}:PTs X [] tTrue:=fun pins s σ H Q I h=>wpAny_tests_nil ⟨H,I,h⟩
theorem Zha {X:Cx} {c:Expr} {t:TT} (h:PT X c t):PTs X [c] t:=fun pins s σ H Q I hq=>wpAny_tests_one (h pins s σ H Q I hq)
def tComp (n:Nat) (sel:List Nat) (wi:TI) (g:TG) (tc:TT) (te:TE):TE:=fun σ H Q=>wi σ H fun J H1=>∀ acc,H1 acc=none->∃ W:Nat->Nat->St->Hp->Prop,
 (∃ m,W 0 m (compSt n sel σ) (upd H1 acc (.lst [])))/\∀ i m σ' H',W i m σ' H' →
  (J.stop i H' /\ Q (.ref acc) H')\/(J.go i H' /\ ∃ N:St->Hp->Prop,(∀ σ2 H2,N σ2 H2->∃ m',m' < m/\W (i + 1) m' σ2 H2) ∧
   ∀ x H2,J.yld i H' x H2->g x σ' H2 fun σ2 H3=>tc σ2 H3 fun b H4=>if b=true then te σ2 H4 fun y H5=>∃ ys,H5 acc=some (.lst ys)/\ys.length < sizeLine/\N σ2 (upd H5 acc (.lst (ys ++ [y]))) else N σ2 H4)
section
variable {X:Cx}
theorem Zht {elt tg iter:Expr} {ifs:List Expr} {scope:Scope} {pos:Pos} {tgs fvs:List Str} {sel:List Nat} {g:TG} {tc:TT} {te:TE} (S:CompSc X.env.scope X.N scope fvs sel) {Cm:Cx->Prop} (hc:∀ C s H ex pn,Cm (compCx X scope (tgs ++ fvs) C s H ex pn))
  (hg:∀ C s H ex pn,PG (compCx X scope (tgs ++ fvs) C s H ex pn) tg g) (ht:∀ C s H ex pn,PTs (compCx X scope (tgs ++ fvs) C s H ex pn) ifs tc) (he:∀ C s H ex pn,PE (compCx X scope (tgs ++ fvs) C s H ex pn) elt te)
  {pins:List (Addr × Obj)} {σ:St} {s:Shared} {itv:Value} {Q:VK} {E:Value->Shared->Prop} {RR:Value->Addr->Result->Shared->Prop}
  (h2:PIEG Cm X pins σ tg (fun J H1=>∀ acc,H1 acc=none->∃ W:Nat->Nat->St->Hp->Prop,
   (∃ m,W 0 m (compSt tgs.length sel σ) (upd H1 acc (.lst [])))/\∀ i m σ' H',W i m σ' H' →
   (J.stop i H' /\ Q (.ref acc) H')\/(J.go i H' /\ ∃ N:St->Hp->Prop,(∀ σ2 H2,N σ2 H2->∃ m',m' < m/\W (i + 1) m' σ2 H2) ∧
   ∀ x H2,J.yld i H' x H2->g x σ' H2 fun σ2 H3=>tc σ2 H3 fun b H4=>if b=true then te σ2 H4 fun y H5=>∃ ys,H5 acc=some (.lst ys)/\ys.length < sizeLine/\N σ2 (upd H5 acc (.lst (ys ++ [y]))) else N σ2 H4)) itv s)
  (fin:∀ (s':Shared) (C acc:Addr) (H':Hp) (m:Str->Option Value),s'.heap.Ns C m->FpOk X pins H' C->(∀ h',Heap.SameBut C s'.heap h' -> Inv X pins σ H' { s' with heap:=h' })->Q (.ref acc) H' -> RR (.ref acc) C (.ok .next) s') :
  wpAny (model X.prog X.w) X.A (newList []) (fun acc s3=>wpAny (model X.prog X.w) X.A (newFunctionEnv scope X.env.globals (clOf X.env scope.names []) [] X.env.qual none .none (some X.env)) (fun cenv s4=>
   codeAny (model X.prog X.w) X.A (.compStart (.ListComp elt [⟨tg,iter,ifs,0⟩] scope pos) 0 itv acc { cenv with scope:=relabel scope X.env }) (RR acc cenv.locals) s4) E s3) E s:=by
 obtain ⟨it,fp,tn,J,H1,e,I,T,st,f2,h2⟩:=h2
 subst e
 have hlt:∀ b ∈ fp,b < s.heap.objs.size:=fun b hb=>let ⟨o,ho,_⟩:=T.obj 0 _ st b hb; Heap.lt_size ho
 refine wpAny_newObj_type (wpAny_newFunctionEnv S.nocell (by intro y hy; simp at hy) (fun h1 hns hsb=>?_) S.kind)
 dsimp only at hns hsb ⊢
 have I3:Inv X pins σ (upd H1 s.heap.objs.size (.lst [])) { s with heap:=s.heap.push { cls:=.type "list",data:=.seq ([]:List Value).toArray },toks:=s.toks }:=I.lnew (its:=[]) .nil (by decide)
 have hacc:H1 s.heap.objs.size=none:=I.hok.fresh (Nat.le_refl _)
 obtain ⟨W,⟨m0,w0⟩,turn⟩:=h2 s.heap.objs.size hacc
 generalize hs3:({ s with heap:=s.heap.push { cls:=.type "list",data:=.seq ([]:List Value).toArray },toks:=s.toks }:Shared)=s3 at I3
 have hh3:s3.heap=s.heap.push { cls:=.type "list",data:=.seq ([]:List Value).toArray }:=by rw [<- hs3]
 have old3:∀ b o,s.heap.get? b=some o->s3.heap.get? b=some o:=fun b o q=>by rw [hh3]; exact Heap.get?_push_of_some _ q
 have hf3:∀ b ∈ fp,FpOk X pins (upd H1 s.heap.objs.size (.lst [])) b:=fun b hb=>⟨by rw [Zao (Nat.ne_of_lt (hlt b hb))]; exact (f2 b hb).1,(f2 b hb).2⟩
 have hlt3:∀ b ∈ fp,b < s3.heap.objs.size:=fun b hb=>by rw [hh3,Heap.size_push]; exact Nat.lt_succ_of_lt (hlt b hb)
 have tn3:tn 0 s3.heap:=T.keep 0 _ _ st fun b hb o q=>old3 b o q
 have old4:∀ b o,s3.heap.get? b=some o->h1.get? b=some o:=fun b o q=>by
  have hb:b ≠ s3.heap.objs.size:=Nat.ne_of_lt (Heap.lt_size q)
  rw [hh3] at hb q
  exact (hsb.2 b hb).trans (Heap.get?_push_of_some _ q)
 have tn4:tn 0 h1:=T.keep 0 _ _ tn3 fun b hb o q=>old4 b o q
 have hC:(s.heap.push { cls:=.type "list",data:=.seq ([]:List Value).toArray }).objs.size=s3.heap.objs.size:=by rw [hh3]
 rw [hC] at hns
 have J0:=Zos (tgs:=tgs) (tk:=s.toks + ([]:List (Str × Value)).length) S I3 hf3 hlt3 hns old4
 have es:({ s3 with heap:=h1,toks:=s.toks + ([]:List (Str × Value)).length }:Shared) = { s with heap:=h1,toks:=s.toks + ([]:List (Str × Value)).length }:=by rw [<- hs3]
 rw [es] at J0
 generalize hY:compCx X scope (tgs ++ fvs) s3.heap.objs.size s3 (upd H1 s.heap.objs.size (.lst [])) fp (X.pn ++ pins)=Y at J0
 have hYp:Y.prog=X.prog:=by rw [<- hY]; rfl
 have hYw:Y.w=X.w:=by rw [<- hY]; rfl
 have hYK:Y.K=X.K:=by rw [<- hY]; rfl
 have hYA:Y.A=X.A:=by rw [<- hY]; rfl
 have hYc:Cm Y:=by rw [<- hY]; exact hc _ _ _ _ _
 have hYx:Y.xe=fun _ _=>False:=by rw [<- hY]; rfl
 have hYe:Y.env=compEnvC scope (clOf X.env scope.names []) s3.heap.objs.size X.env:=by rw [<- hY]; rfl
 have stat:∀ {H':Hp},(∀ b ∈ fp,H' b=none)->∀ b ∈ fp,FpOk Y [] H' b:=fun hn b hb=>by
  rw [<- hY]
  refine ⟨hn b hb,Nat.ne_of_lt (hlt3 b hb),fun z=>?_,.inl hb,fun x c e=>?_,fun p hp z=>?_⟩
  ·rcases List.mem_cons.mp (I3.stkSub b z) with q | q
   ·exact (hf3 b hb).2.1 q
   ·exact (hf3 b hb).2.2.1 q
  ·exact (hf3 b hb).2.2.2.2.1 x c (Zbu _ _ (fun _ _ z=>by simp at z) e)
  ·have hp:p ∈ (X.pn ++ pins) ++ []:=hp
   rw [List.append_nil] at hp
   exact (hf3 b hb).2.2.2.2.2 p hp z
 have loop:codeAny (model X.prog X.w) X.A (.compLoop (.ListComp elt [⟨tg,iter,ifs,0⟩] scope pos) 0 (.ref it) (.ref s.heap.objs.size) Y.env) (RR (.ref s.heap.objs.size) s3.heap.objs.size)
   { s with heap:=h1,toks:=s.toks + ([]:List (Str × Value)).length }:=by
  refine codeAny_loop rfl (fun n s'=>∃ i σ' H',Inv Y [] σ' H' s' /\ tn i s'.heap/\(∀ b ∈ fp,H' b=none)/\W i n σ' H') ?_ m0 ⟨0,_,_,J0,tn4,fun b hb=>(hf3 b hb).1,w0⟩
  rintro n s5 ⟨i,σ5,H5,I5,st5,fr5,w5⟩
  show wpAny _ X.A ((compTurn (.ListComp elt [⟨tg,iter,ifs,0⟩] scope pos) 0 (.ref it) (.ref s.heap.objs.size) Y.env).onRaise (fun x=>do noteFrame x Y.env; theTreesLotGoes x)) _ _ s5
  refine wpAny_noted (wpAny_mono (E:=fun _ _=>False) ?_ (fun _ _ q=>q) fun _ _ z=>z.elim)
  rw [compTurn_list]
  refine wpAny_bind (wpAny_standAt (wpAny_bind ?_))
  rcases turn i n σ5 H5 w5 with ⟨stop,qn⟩ | ⟨go,N,hN,step⟩
  ·have D:=T.done Y hYp hYw hYK hYc i [] s5 σ5 H5 (fun _ _=>False) I5 (stat fr5) st5 stop
   rw [hYA] at D
   refine thn D fun r s6 ⟨hr,I6⟩=>?_
   subst hr
   refine wpAny_pure ?_
   obtain ⟨m6,hn6,_⟩:=I6.loc
   rw [hYe] at hn6
   refine fin s6 _ _ H5 m6 hn6 (I3.fpOk (Nat.le_refl _) (by have z:=I6.free; rw [hYe] at z; exact z)) (fun h' sb=>?_) qn
   have I6':Inv (compCx X scope (tgs ++ fvs) s3.heap.objs.size s3 (upd H1 s.heap.objs.size (.lst [])) fp (X.pn ++ pins)) [] σ5 H5 s6:=by rw [hY]; exact I6
   exact Zms I3 hf3 I6' sb
  ·have D:=T.item Y hYp hYw hYK hYc i [] s5 σ5 H5 (fun _ _=>False) I5 (stat fr5) st5 go
   rw [hYA] at D
   refine thn D fun r s6 ⟨u,hr,h6⟩=>?_
   subst hr
   refine wpAny_bind (thn h6 fun _ s7 ⟨x,H7,I7,r7,y7,st7,fr7⟩=>?_)
   have I7':=I7.pinned (stat fr7) (T.obj _ _ st7)
   have G:=hg s3.heap.objs.size s3 (upd H1 s.heap.objs.size (.lst [])) fp (X.pn ++ pins)
   have TT:=ht s3.heap.objs.size s3 (upd H1 s.heap.objs.size (.lst [])) fp (X.pn ++ pins)
   have EE:=he s3.heap.objs.size s3 (upd H1 s.heap.objs.size (.lst [])) fp (X.pn ++ pins)
   rw [hY] at G TT EE
   have G1:=G _ s7 σ5 H7 x u _ I7' r7 (step x H7 y7)
   rw [hYp,hYw,hYA,hYx] at G1
   refine wpAny_bind (thn G1 fun _ s8 ⟨σ8,H8,I8,q8⟩=>?_)
   have T1:=TT _ s8 σ8 H8 _ I8 q8
   rw [hYp,hYw,hYA,hYx] at T1
   refine wpAny_bind (thn T1 fun ok s9 ⟨H9,I9,q9⟩=>?_)
   have again:∀ {s':Shared} {σ':St} {H':Hp},Inv Y ([] ++ pinsAt fp s7.heap) σ' H' s' -> N σ' H' -> ∃ m,m < n/\∃ i σ' H',Inv Y [] σ' H' s' /\ tn i s'.heap/\(∀ b ∈ fp,H' b=none)/\W i m σ' H':=fun {s' σ' H'} K7 n7=>by
    obtain ⟨m',hm,w7⟩:=hN σ' H' n7
    refine ⟨m',hm,i + 1,σ',H',K7.unpinned,T.keep _ _ _ st7 fun b hb o e=>(K7.pin (b,o) (List.mem_append_right _ (List.mem_append_right _ (Zct hb e)))).1,fun b hb=>?_,w7⟩
    obtain ⟨o,e,d⟩:=T.obj _ _ st7 b hb
    exact (K7.pin (b,o) (List.mem_append_right _ (List.mem_append_right _ (Zct hb e)))).2.1
   cases ok with
   | false=>
    have q9:N σ8 H9:=q9
    exact wpAny_pure ⟨by rw [hYe],again I9 q9⟩
   | true=>
    have q9:te σ8 H9 fun y H5=>∃ ys,H5 s.heap.objs.size=some (.lst ys)/\ys.length < sizeLine/\N σ8 (upd H5 s.heap.objs.size (.lst (ys ++ [y]))):=q9
    have E1:=EE _ s9 σ8 H9 _ I9 q9
    rw [hYp,hYw,hYA,hYx] at E1
    refine wpAny_bind (wpAny_bind (thn E1 fun v sa ⟨y,Ha,Ia,ra,ys,ea,za,na⟩=>?_))
    have M:=Zdb (X:=Y) _ sa σ8 Ha (.ref s.heap.objs.size) [y] (.ref s.heap.objs.size) [v] (fun _ H=>N σ8 H) Ia rfl (.cons ra .nil) ⟨_,ys,y,rfl,rfl,ea,za,na⟩
    rw [hYp,hYw,hYA,hYx] at M
    refine wpAny_bind (thn M fun _ sb ⟨_,Hb,Ib,_,nb⟩=>wpAny_pure (wpAny_pure ⟨by rw [hYe],again Ib nb⟩))
 have hcs:(relabel scope X.env)=(relabel scope X.env):=rfl
 have loop':=loop
 rw [hYe] at loop'
 show codeAny (model X.prog X.w) X.A (.compStart (.ListComp elt [⟨tg,iter,ifs,0⟩] scope pos) 0 (.ref it) (.ref s.heap.objs.size) (compEnvC scope (clOf X.env scope.names []) (s.heap.push { cls:=.type "list",data:=.seq ([]:List Value).toArray }).objs.size X.env)) (RR (.ref s.heap.objs.size) (s.heap.push { cls:=.type "list",data:=.seq ([]:List Value).toArray }).objs.size) _
 rw [hC]
 exact codeAny_compStart_list loop' (T.self _ 0 _ _ _ tn4 loop')
theorem Zbn {elt tg iter:Expr} {ifs:List Expr} {scope:Scope} {pos:Pos} {fvs:List Str} {sel:List Nat} {wi:TI} {g:TG} {tc:TT} {te:TE} (tgs:List Str) (S:CompSc X.env.scope X.N scope fvs sel) (hc:X.calm=true)
  (hi:PI X tg iter wi) (hg:∀ C s H ex pn,PG (compCx X scope (tgs ++ fvs) C s H ex pn) tg g) (ht:∀ C s H ex pn,PTs (compCx X scope (tgs ++ fvs) C s H ex pn) ifs tc) (he:∀ C s H ex pn,PE (compCx X scope (tgs ++ fvs) C s H ex pn) elt te)
  (hs:∀ x,foldedSetIterable iter X.env x=pure x:=by intro _; rfl) :
  PE X (.ListComp elt [⟨tg,iter,ifs,0⟩] scope pos) (tComp tgs.length sel wi g tc te):=by
 intro pins s σ H Q I h
 rw [eval_ListComp]
 refine wpAny_comprehension_free (use:=none) rfl hs (Zcf (Zet S I.ok)) S.kind S.names (thn (hi pins s σ H _ I h) fun v s1 h1=>thn h1 fun itv s2 h2=>?_)
 refine Zht (Cm:=fun X=>X.calm=true) S (fun _ _ _ _ _=>hc) hg ht he (RR:=fun acc C=>compPost (model X.prog X.w) X.A X.xe none (EP X pins σ Q) acc C) (Q:=Q) h2 ?_
 intro s' C acc H' m hn _ hI q
 exact ⟨m,hn,fun h' sb=>⟨.ref acc,H',hI h' sb,rfl,q⟩⟩
theorem Zjg {elt tg iter:Expr} {ifs:List Expr} {scope:Scope} {pos spos py:Pos} {fvs:List Str} {sel:List Nat} {wi:TI} {g:TG} {tc:TT} {te:TE} {i:Nat} {y:Str} (tgs:List Str) (S:CompSc X.env.scope X.N scope fvs sel) (hc:X.calm=true)
  (hN:X.N.Nodup) (hiy:X.N[i]? = some y) (hx:Loc X.env.scope y)
  (hi:PI X tg iter wi) (hg:∀ C s H ex pn,PG (compCx X scope (tgs ++ fvs) C s H ex pn) tg g) (ht:∀ C s H ex pn,PTs (compCx X scope (tgs ++ fvs) C s H ex pn) ifs tc) (he:∀ C s H ex pn,PE (compCx X scope (tgs ++ fvs) C s H ex pn) elt te)
  (hs:∀ x,foldedSetIterable iter X.env x=pure x:=by intro _; rfl) (hsw:swapsWith (.ListComp elt [⟨tg,iter,ifs,0⟩] scope pos) (some (.Name y py)) spos.line X.env=pure true:=by rfl)
  (hf:X.fn y=true\/X.env.scope.names.lookup y=some .local:=by first | exact .inl rfl | exact .inr rfl | assumption) :
  PS X (.Assign [.Name y py] (.ListComp elt [⟨tg,iter,ifs,0⟩] scope pos) spos) (tAsg (tComp tgs.length sel wi g tc te) (gName i)):=by
 intro pins s σ H D I h
 rw [exec_Assign_Name_used _ _ _ _ hsw]
 refine wpAny_bind (wpAny_standAt (wpAny_bind ?_))
 show wpAny _ X.A (do let _ ← comprehension (.ListComp elt [⟨tg,iter,ifs,0⟩] scope pos) scope X.env _ (newList []) false (eval iter X.env) (some (assign (.Name y py) X.env))) _ _ s
 refine wpAny_bind (wpAny_mono (wpAny_comprehension_free (use:=some (assign (.Name y py) X.env)) (Q:=fun _ s'=>SP X pins D .next s') rfl hs (Zcf (Zet S I.ok)) S.kind S.names
  (thn (hi pins s σ H _ I h) fun v s1 h1=>thn h1 fun itv s2 h2=>?_)) (fun _ s' hq=>wpAny_pure (wpAny_pure hq)) fun _ _ e=>e)
 refine Zht (Cm:=fun X=>X.calm=true) S (fun _ _ _ _ _=>hc) hg ht he (RR:=fun acc C=>compPost (model X.prog X.w) X.A X.xe (some (assign (.Name y py) X.env)) (fun _ s'=>SP X pins D .next s') acc C) (Q:=fun v H'=>D.nx (σ.set i (some v)) H') h2 ?_
 intro s' C acc H' m hn fp hI q
 have I0:Inv X pins σ H' s':=hI s'.heap (.refl ..)
 show wpAny _ X.A (assign (.Name y py) X.env (.ref acc)) _ _ _
 refine wpAny_assign_Name (Zgf (v:=.ref acc) I0 hN hiy hx rfl (fun s2 I2 hsb=>?_) hf)
 obtain ⟨a,sb,ha⟩:=hsb
 have hCa:C ≠ a:=by
  rcases ha with z | z
  ·rw [z]; exact fp.2.1
  ·exact Ne.symm (fp.2.2.2.2.1 y a z)
 refine ⟨m,hn.sameBut sb hCa,fun h' sb'=>?_⟩
 obtain ⟨f0,f1,f2,f3,f4,f5⟩:=fp
 exact ⟨_,H',I2.turned (t':=s2.toks) (it:=C) (fun b o hb e=>(sb'.2 b hb).trans e) f0 f1 f3 f4 f5,q⟩
end
end L2
set_option Elab.async false
set_option linter.all false
set_option maxRecDepth 100000
namespace L2
open PySem PySem.Spec PyProof.Rows
def InsC (a C:Addr) (h:Heap):Prop:=∃ ox vs,h.get? a=some ox/\ox.cls=.ref C/\ox.data=.fields vs/\vs[2]? = some .none
inductive D where
 | non | bl (b:Bool) | int (i:Int) | str (x:Str) | ty (n:String) | tup (ds:List D) | lst (ds:List D) | scr (ds:List D) | adr (a:Addr) | dct (ks:List Key) (ds:List D) | exc (a C:Addr)
mutual
inductive Rep (K:PySem.W.Frag) (G:Hp):V->D->Prop
 | non:Rep K G .non .non
 | bl (b:Bool):Rep K G (.bl b) (.bl b)
 | int (i:Int):Rep K G (.int i) (.int i)
 | str (x:Str):Rep K G (.str x) (.str x)
 | ty (n:String):Rep K G (.ty n) (.ty n)
 | tup {a:Addr} {vs:List V} {ds:List D}:G a=some (.tup vs)->Reps K G vs ds->Rep K G (.ref a) (.tup ds)
 | lst {a:Addr} {vs:List V} {ds:List D}:G a=some (.lst vs)->Reps K G vs ds->Rep K G (.ref a) (.lst ds)
 | scr {a:Addr} {vs:List V} {ds:List D}:SqL K G a vs->Reps K G vs ds->Rep K G (.ref a) (.scr ds)
 | adr (a:Addr):Rep K G (.ref a) (.adr a)
 | dct {a:Addr} {ks:List Key} {vs:List V} {ds:List D}:G a=some (.dK (ks.zip vs))->ks.length=vs.length->Reps K G vs ds->Rep K G (.ref a) (.dct ks ds)
 | exc {a C:Addr}:G a=some (.ext (InsC a C))->Rep K G (.ref a) (.exc a C)
inductive Reps (K:PySem.W.Frag) (G:Hp):List V->List D->Prop
 | nil:Reps K G [] []
 | cons {v:V} {d:D} {vs:List V} {ds:List D}:Rep K G v d->Reps K G vs ds->Reps K G (v :: vs) (d :: ds)
end
def RepI (K:PySem.W.Frag) (G:Hp) (v:V):D->Prop
 | .non=>v=.non
 | .bl b=>v=.bl b
 | .int i=>v=.int i
 | .str x=>v=.str x
 | .ty n=>v=.ty n
 | .tup ds=>∃ a vs,v=.ref a/\G a=some (.tup vs)/\Reps K G vs ds
 | .lst ds=>∃ a vs,v=.ref a/\G a=some (.lst vs)/\Reps K G vs ds
 | .scr ds=>∃ a vs,v=.ref a/\SqL K G a vs/\Reps K G vs ds
 | .adr a=>v=.ref a
 | .dct ks ds=>∃ a vs,v=.ref a/\G a=some (.dK (ks.zip vs))/\ks.length=vs.length/\Reps K G vs ds
 | .exc a C=>v=.ref a/\G a=some (.ext (InsC a C))
theorem Rep.inv {K:PySem.W.Frag} {G:Hp} {v:V} {d:D} (r:Rep K G v d):RepI K G v d:=by
 cases r with
 | tup h r=>exact ⟨_,_,rfl,h,r⟩
 | lst h r=>exact ⟨_,_,rfl,h,r⟩
 | scr h r=>exact ⟨_,_,rfl,h,r⟩
 | dct h l r=>exact ⟨_,_,rfl,h,l,r⟩
 | exc h=>exact ⟨rfl,h⟩
 | _=>rfl
def RepsI (K:PySem.W.Frag) (G:Hp) (vs:List V):List D->Prop
 | []=>vs=[]
 | d :: ds=>∃ v ws,vs=v :: ws/\Rep K G v d/\Reps K G ws ds
theorem Reps.inv {K:PySem.W.Frag} {G:Hp} {vs:List V} {ds:List D} (r:Reps K G vs ds):RepsI K G vs ds:=by
 cases r with
 | nil=>rfl
 | cons a b=>exact ⟨_,_,rfl,a,b⟩
section
variable {K:PySem.W.Frag} {G G' H H':Hp}
mutual
theorem Rep.mono (s:Same G G'):∀ {v:V} {d:D},Rep K G v d->Rep K G' v d
 | _,_,.non=>.non
 | _,_,.bl b=>.bl b
 | _,_,.int i=>.int i
 | _,_,.str x=>.str x
 | _,_,.ty n=>.ty n
 | _,_,.tup h r=>.tup (s _ _ h) (Reps.mono s r)
 | _,_,.lst h r=>.lst (s _ _ h) (Reps.mono s r)
 | _,_,.scr h r=>.scr (s.seq h) (Reps.mono s r)
 | _,_,.adr a=>.adr a
 | _,_,.dct h l r=>.dct (s _ _ h) l (Reps.mono s r)
 | _,_,.exc h=>.exc (s _ _ h)
theorem Reps.mono (s:Same G G'):∀ {vs:List V} {ds:List D},Reps K G vs ds->Reps K G' vs ds
 | _,_,.nil=>.nil
 | _,_,.cons h r=>.cons (Rep.mono s h) (Reps.mono s r)
end
theorem Reps.length:∀ {vs:List V} {ds:List D},Reps K G vs ds->vs.length=ds.length
 | _,_,.nil=>rfl
 | _,_,.cons _ r=>by rw [List.length_cons,List.length_cons,r.length]
theorem Reps.get:∀ {vs:List V} {ds:List D} {i:Nat} {d:D},Reps K G vs ds->ds[i]? = some d->∃ v,vs[i]? = some v/\Rep K G v d
 | _,_,_,_,.nil,e=>by simp at e
 | _,_,0,_,.cons r _,e=>by simp at e; subst e; exact ⟨_,rfl,r⟩
 | _,_,i + 1,d,.cons _ t,e=>by
  obtain ⟨u,h1,h2⟩:=Reps.get (i:=i) (d:=d) t (by simpa using e)
  exact ⟨u,by simpa using h1,h2⟩
theorem Reps.append:∀ {vs ws:List V} {ds es:List D},Reps K G vs ds->Reps K G ws es->Reps K G (vs ++ ws) (ds ++ es)
 | _,_,_,_,.nil,s=>s
 | _,_,_,_,.cons r t,s=>.cons r (Reps.append t s)
theorem Reps.take:∀ {vs:List V} {ds:List D} (n:Nat),Reps K G vs ds->Reps K G (vs.take n) (ds.take n)
 | _,_,0,_=>.nil
 | _,_,_ + 1,.nil=>.nil
 | _,_,n + 1,.cons r t=>.cons r (Reps.take n t)
theorem Reps.drop:∀ {vs:List V} {ds:List D} (n:Nat),Reps K G vs ds->Reps K G (vs.drop n) (ds.drop n)
 | _,_,0,r=>r
 | _,_,_ + 1,.nil=>.nil
 | _,_,n + 1,.cons _ t=>Reps.drop n t
theorem Reps.reverse {vs:List V} {ds:List D} (h:Reps K G vs ds):Reps K G vs.reverse ds.reverse:=by
 induction vs generalizing ds with
 | nil=>cases h; exact .nil
 | cons v vs ih=>
  cases h with
  | cons r t=>rw [List.reverse_cons,List.reverse_cons]; exact (ih t).append (.cons r .nil)
theorem Reps.set:∀ {vs:List V} {ds:List D} {v:V} {d:D} (i:Nat),Reps K G vs ds->Rep K G v d->Reps K G (vs.set i v) (ds.set i d)
 | _,_,_,_,_,.nil,_=>.nil
 | _,_,_,_,0,.cons _ t,q=>.cons q t
 | _,_,_,_,i + 1,.cons r t,q=>.cons r (Reps.set i t q)
theorem Reps.ints {vs:List V}:∀ {ns:List Int},Reps K G vs (ns.map D.int)->vs=ns.map V.int:=by
 induction vs with
 | nil=>intro ns h; cases ns with
  | nil=>rfl
  | cons n ns=>cases h
 | cons v vs ih=>intro ns h; cases ns with
  | nil=>cases h
  | cons n ns=>
   cases h with
   | cons r t=>cases r.inv; rw [ih t]; rfl
theorem Reps.ofInts:∀ (ns:List Int),Reps K G (ns.map V.int) (ns.map D.int)
 | []=>.nil
 | n :: ns=>.cons (.int n) (Reps.ofInts ns)
theorem Zg0 {vs:List V} {ds:List D} {i:Int} {d:D} (r:Reps K G vs ds) (h:atI ds i=some d):∃ v,atI vs i=some v/\Rep K G v d:=by
 unfold atI at h ⊢
 rw [<- r.length] at h
 cases e:ixN vs.length i with
 | none=>rw [e] at h; cases h
 | some j=>rw [e] at h; exact r.get h
end
inductive OD where
 | lst (ds:List D) | dct (kvs:List (Key × D)) | set (S:Int->Bool) (n:Nat) | dtt (kvs:List (List Key × D)) | ext (R:Hp->(Heap->Prop)->Prop)
def OwnRep (K:PySem.W.Frag) (G:Hp):HO->OD->Prop
 | .lst vs,.lst ds=>Reps K G vs ds
 | .dK kvs,.dct kds=>Paired (fun (p:Key × V) (q:Key × D)=>p.1=q.1/\Rep K G p.2 q.2) kvs kds
 | .set S n,.set S' n'=>S=S' /\ n=n'
 | .dT kvs,.dtt kds=>Paired (fun (p:List Key × V) (q:List Key × D)=>p.1=q.1/\Rep K G p.2 q.2) kvs kds
 | .ext φ,.ext R=>∃ G0,Same G0 G/\R G0 φ
 | _,_=>False
theorem OwnRep.mono {K:PySem.W.Frag} {G G':Hp} (s:Same G G') {o:HO} {od:OD} (h:OwnRep K G o od):OwnRep K G' o od:=by
 cases o <;> cases od <;> first
  | exact h.elim
  | exact Reps.mono s h
  | exact Paired.mapP h fun _ _ z=>⟨z.1,z.2.mono s⟩
  | exact (let ⟨g0,s0,r⟩:=h; ⟨g0,s0.trans s,r⟩)
  | exact h
inductive Slot where
 | any | val (d:D) | own (o:OD) | bor (o:OD) | ownA (a:Addr) (o:OD)
abbrev Evt:=List Slot
def Slot.od:Slot->Option OD
 | .own o=>some o
 | .bor o=>some o
 | .ownA _ o=>some o
 | _=>none
structure Gm where
 B:Addr->Prop
 F:Hp
 Hz:Hp
 Xo:Hp
def SlotAt (g:Gm) (x:Slot) (a:Addr):Prop:=match x with
 | .own _=>g.Hz a=none
 | .bor _=>g.B a
 | .ownA b _=>b=a/\g.Hz a=none
 | _=>True
structure Ok (K:PySem.W.Frag) (g:Gm) (G H:Hp) (σ:St) (Δ:Evt):Prop where
 same:∀ b o,¬ g.B b->g.Hz b=some o->H b=some o
 lent:∀ b,g.B b->H b ≠ none
 sub:Same g.F G
 frz:∀ b o,G b=some o->H b=some o/\(g.Hz b=none\/g.F b=some o)
 ext:∀ b o,g.Xo b=some o->H b=some o/\G b=none/\∀ (i:Nat) x od,Δ[i]? = some x->x.od=some od -> σ[i]? ≠ some (some (.ref b))
 len:Δ.length = σ.length
 val:∀ (i:Nat) d,Δ[i]? = some (.val d)->∃ v,σ[i]? = some (some v)/\Rep K G v d
 own:∀ (i:Nat) x od,Δ[i]? = some x->x.od=some od->∃ a o,σ[i]? = some (some (.ref a))/\H a=some o/\OwnRep K G o od/\G a=none/\SlotAt g x a
 dis:∀ (i j:Nat) x y od od' a,Δ[i]? = some x->x.od=some od -> Δ[j]? = some y->y.od=some od' -> σ[i]? = some (some (.ref a)) -> σ[j]? = some (some (.ref a))->i=j
section
variable {K:PySem.W.Frag} {g:Gm} {G H G' H':Hp} {σ:St} {Δ:Evt}
theorem Ok.live (k:Ok K g G H σ Δ):Same G H:=fun b o e=>(k.frz b o e).1
theorem Ok.there (k:Ok K g G H σ Δ) {b:Addr} (h:H b=none):g.Hz b=none:=by
 cases e:g.Hz b with
 | none=>rfl
 | some o=>
  by_cases hb:g.B b
  ·exact absurd h (k.lent b hb)
  ·have:=k.same b o hb e
   rw [h] at this; cases this
theorem Ok.grow (k:Ok K g G H σ Δ) (sg:Same G G') (sh:Same H H') (hg:∀ b o,G' b=some o->H' b=some o/\(G b=some o\/H b=none)):Ok K g G' H' σ Δ where
 same:=fun b o hb e=>sh b o (k.same b o hb e)
 lent:=fun b hb z=>by
  cases e:H b with
  | none=>exact k.lent b hb e
  | some o=>rw [sh b o e] at z; cases z
 sub:=k.sub.trans sg
 frz:=fun b o e=>by
  obtain ⟨h1,h2⟩:=hg b o e
  refine ⟨h1,?_⟩
  rcases h2 with z | z
  ·exact (k.frz b o z).2
  ·exact .inl (k.there z)
 ext:=fun b o e=>by
  obtain ⟨h1,h2,h3⟩:=k.ext b o e
  refine ⟨sh b o h1,?_,h3⟩
  cases q:G' b with
  | none=>rfl
  | some o'=>
   rcases (hg b o' q).2 with z | z
   ·rw [h2] at z; cases z
   ·rw [h1] at z; cases z
 len:=k.len
 val:=fun i d e=>by
  obtain ⟨v,h1,h2⟩:=k.val i d e
  exact ⟨v,h1,h2.mono sg⟩
 own:=fun i x od e1 e2=>by
  obtain ⟨a,o,h1,h2,h3,h4,h5⟩:=k.own i x od e1 e2
  refine ⟨a,o,h1,sh a o h2,h3.mono sg,?_,h5⟩
  cases q:G' a with
  | none=>rfl
  | some o'=>
   rcases (hg a o' q).2 with z | z
   ·rw [h4] at z; cases z
   ·rw [h2] at z; cases z
 dis:=k.dis
theorem Ok.laid (k:Ok K g G H σ Δ) {p:Addr} (hp:H p=none) (o:HO):Ok K g (upd G p o) (upd H p o) σ Δ /\ Same G (upd G p o):=by
 have hG:G p=none:=by
  cases e:G p with
  | none=>rfl
  | some u=>rw [k.live p u e] at hp; cases hp
 have sg:Same G (upd G p o):=fun b u e=>by rw [Zao (Zaq e hG)]; exact e
 refine ⟨k.grow sg (fun b u e=>by rw [Zao (Zaq e hp)]; exact e) fun b u e=>?_,sg⟩
 by_cases hb:b=p
 ·subst hb; rw [Zat] at e ⊢; exact ⟨e,.inr hp⟩
 ·rw [Zao hb] at e ⊢; exact ⟨k.live b u e,.inl e⟩
theorem Ok.lt (k:Ok K g G H σ Δ) {i:Nat} {x:Slot} (h:Δ[i]? = some x):i < σ.length:=by
 rw [<- k.len]; exact (List.getElem?_eq_some_iff.mp h).1
def Pend (K:PySem.W.Frag) (g:Gm) (G H:Hp) (σ:St) (Δ:Evt) (a:Addr) (od:OD):Prop:=
 ∃ o,H a=some o/\OwnRep K G o od/\G a=none/\g.Hz a=none/\g.Xo a=none/\∀ (i:Nat) x od',Δ[i]? = some x->x.od=some od' -> σ[i]? ≠ some (some (.ref a))
theorem Ok.setVal (k:Ok K g G H σ Δ) {v:V} {d:D} {i:Nat} (hi:i < Δ.length) (r:Rep K G v d):Ok K g G H (σ.set i (some v)) (Δ.set i (.val d)):=by
 have hs:i < σ.length:=by rw [<- k.len]; exact hi
 have old:∀ (j:Nat) x od,(Δ.set i (.val d))[j]? = some x->x.od=some od->j ≠ i /\ Δ[j]? = some x/\(σ.set i (some v))[j]? = σ[j]?:=fun j x od e1 e2=>by
  by_cases hj:j=i
  ·subst hj
   rw [List.getElem?_set_self hi] at e1
   cases e1; cases e2
  ·rw [List.getElem?_set_ne (Ne.symm hj)] at e1
   exact ⟨hj,e1,List.getElem?_set_ne (Ne.symm hj)⟩
 refine ⟨k.same,k.lent,k.sub,k.frz,fun b o e=>?_,by simp [k.len],fun j e h=>?_,fun j x od e1 e2=>?_,fun j l x y od od' a e1 e2 e3 e4 e5 e6=>?_⟩
 ·obtain ⟨h1,h2,h3⟩:=k.ext b o e
  refine ⟨h1,h2,fun j x od e1 e2=>?_⟩
  obtain ⟨_,q1,q2⟩:=old j x od e1 e2
  rw [q2]; exact h3 j x od q1 e2
 ·by_cases hj:j=i
  ·subst hj
   rw [List.getElem?_set_self hi] at h
   cases h
   exact ⟨v,List.getElem?_set_self hs,r⟩
  ·rw [List.getElem?_set_ne (Ne.symm hj)] at h ⊢
   exact k.val j e h
 ·obtain ⟨_,q1,q2⟩:=old j x od e1 e2
  rw [q2]; exact k.own j x od q1 e2
 ·obtain ⟨_,q1,q2⟩:=old j x od e1 e2
  obtain ⟨_,q3,q4⟩:=old l y od' e3 e4
  rw [q2] at e5; rw [q4] at e6
  exact k.dis j l x y od od' a q1 e2 q3 e4 e5 e6
theorem Ok.setOwn (k:Ok K g G H σ Δ) {a:Addr} {od:OD} {i:Nat} (hi:i < Δ.length) (p:Pend K g G H σ Δ a od):Ok K g G H (σ.set i (some (.ref a))) (Δ.set i (.own od)):=by
 obtain ⟨o,p1,p2,p3,p4,p5,p6⟩:=p
 have hs:i < σ.length:=by rw [<- k.len]; exact hi
 have old:∀ (j:Nat) x,j ≠ i->(Δ.set i (.own od))[j]? = some x -> Δ[j]? = some x/\(σ.set i (some (.ref a)))[j]? = σ[j]?:=fun j x hj e1=>by
  rw [List.getElem?_set_ne (Ne.symm hj)] at e1
  exact ⟨e1,List.getElem?_set_ne (Ne.symm hj)⟩
 refine ⟨k.same,k.lent,k.sub,k.frz,fun b ob e=>?_,by simp [k.len],fun j e h=>?_,fun j x od' e1 e2=>?_,fun j l x y od1 od2 c e1 e2 e3 e4 e5 e6=>?_⟩
 ·obtain ⟨h1,h2,h3⟩:=k.ext b ob e
  refine ⟨h1,h2,fun j x od' e1 e2=>?_⟩
  by_cases hj:j=i
  ·subst hj
   rw [List.getElem?_set_self hs]
   intro z
   cases z
   rw [p5] at e; cases e
  ·obtain ⟨q1,q2⟩:=old j x hj e1
   rw [q2]; exact h3 j x od' q1 e2
 ·by_cases hj:j=i
  ·subst hj
   rw [List.getElem?_set_self hi] at h
   cases h
  ·rw [List.getElem?_set_ne (Ne.symm hj)] at h ⊢
   exact k.val j e h
 ·by_cases hj:j=i
  ·subst hj
   rw [List.getElem?_set_self hi] at e1
   cases e1
   cases e2
   exact ⟨a,o,List.getElem?_set_self hs,p1,p2,p3,p4⟩
  ·obtain ⟨q1,q2⟩:=old j x hj e1
   rw [q2]; exact k.own j x od' q1 e2
 ·by_cases hj:j=i
  ·by_cases hl:l=i
   ·rw [hj,hl]
   ·obtain ⟨q3,q4⟩:=old l y hl e3
    rw [q4] at e6
    rw [hj,List.getElem?_set_self hs] at e5
    cases e5
    exact absurd e6 (p6 l y od2 q3 e4)
  ·obtain ⟨q1,q2⟩:=old j x hj e1
   rw [q2] at e5
   by_cases hl:l=i
   ·rw [hl,List.getElem?_set_self hs] at e6
    cases e6
    exact absurd e5 (p6 j x od1 q1 e2)
   ·obtain ⟨q3,q4⟩:=old l y hl e3
    rw [q4] at e6
    exact k.dis j l x y od1 od2 c q1 e2 q3 e4 e5 e6
def Slot.put:Slot->OD->Slot
 | .own _,o=>.own o
 | .bor _,o=>.bor o
 | .ownA a _,o=>.ownA a o
 | x,_=>x
theorem SlotAt.put {g:Gm} {x:Slot} {a:Addr} {o:OD} (h:SlotAt g x a):SlotAt g (x.put o) a:=by cases x <;> exact h
theorem SlotAt.free {g:Gm} {x:Slot} {a:Addr} {od:OD} (h:SlotAt g x a) (ho:x.od=some od):g.Hz a=none\/g.B a:=by
 cases x with
 | any=>cases ho
 | val d=>cases ho
 | own o=>exact .inl h
 | bor o=>exact .inr h
 | ownA b o=>exact .inl h.2
theorem Slot.put_od {x:Slot} {od o:OD} (h:x.od=some od):(x.put o).od=some o:=by cases x <;> cases h <;> rfl
theorem Ok.write (k:Ok K g G H σ Δ) {a:Addr} {od od':OD} {x:Slot} {i:Nat} {o':HO} (hx:Δ[i]? = some x) (hod:x.od=some od) (ha:σ[i]? = some (some (.ref a))) (r:OwnRep K G o' od'):Ok K g G (upd H a o') σ (Δ.set i (x.put od')):=by
 obtain ⟨a',o,q1,q2,q3,q4,q5⟩:=k.own i x od hx hod
 rw [ha] at q1; cases q1
 have hi:i < Δ.length:=(List.getElem?_eq_some_iff.mp hx).1
 have other:∀ (j:Nat) y od2,(Δ.set i (x.put od'))[j]? = some y->y.od=some od2->j ≠ i -> Δ[j]? = some y:=fun j y od2 e1 e2 hj=>by
  rw [List.getElem?_set_ne (Ne.symm hj)] at e1; exact e1
 have anyOd:∀ (j:Nat) y od2,(Δ.set i (x.put od'))[j]? = some y->y.od=some od2->∃ y' od3,Δ[j]? = some y' /\ y'.od=some od3:=fun j y od2 e1 e2=>by
  by_cases hj:j=i
  ·subst hj; exact ⟨x,od,hx,hod⟩
  ·exact ⟨y,od2,other j y od2 e1 e2 hj,e2⟩
 refine ⟨fun b u hb e=>?_,fun b hb=>?_,k.sub,fun b u e=>?_,fun b u e=>?_,by simp [k.len],fun j e h=>?_,fun j y od2 e1 e2=>?_,fun j l y z od1 od2 c e1 e2 e3 e4 e5 e6=>?_⟩
 ·have hba:b ≠ a:=by
   intro z; subst z
   rcases q5.free hod with z | z
   ·rw [z] at e; cases e
   ·exact hb z
  rw [Zao hba]; exact k.same b u hb e
 ·by_cases hba:b=a
  ·subst hba; rw [Zat]; intro z; cases z
  ·rw [Zao hba]; exact k.lent b hb
 ·have hba:b ≠ a:=by intro z; subst z; rw [q4] at e; cases e
  rw [Zao hba]; exact k.frz b u e
 ·obtain ⟨h1,h2,h3⟩:=k.ext b u e
  have hba:b ≠ a:=by intro z; subst z; exact h3 i x od hx hod ha
  rw [Zao hba]
  refine ⟨h1,h2,fun j y od2 e1 e2=>?_⟩
  obtain ⟨y',od3,z1,z2⟩:=anyOd j y od2 e1 e2
  exact h3 j y' od3 z1 z2
 ·by_cases hj:j=i
  ·subst hj
   rw [List.getElem?_set_self hi] at h
   cases x <;> cases hod <;> cases h
  ·rw [List.getElem?_set_ne (Ne.symm hj)] at h
   exact k.val j e h
 ·by_cases hj:j=i
  ·subst hj
   rw [List.getElem?_set_self hi] at e1
   cases e1
   rw [Slot.put_od hod] at e2; cases e2
   exact ⟨a,o',ha,Zat,r,q4,q5.put⟩
  ·have e1':=other j y od2 e1 e2 hj
   obtain ⟨c,oc,w1,w2,w3,w4,w5⟩:=k.own j y od2 e1' e2
   have hca:c ≠ a:=by
    intro z; subst z
    exact hj (k.dis j i y x od2 od c e1' e2 hx hod w1 ha)
   exact ⟨c,oc,w1,by rw [Zao hca]; exact w2,w3,w4,w5⟩
 ·obtain ⟨y',od3,z1,z2⟩:=anyOd j y od1 e1 e2
  obtain ⟨y'',od4,z3,z4⟩:=anyOd l z od2 e3 e4
  exact k.dis j l y' y'' od3 od4 c z1 z2 z3 z4 e5 e6
theorem Ok.freeze (k:Ok K g G H σ Δ) {a:Addr} {ds:List D} {vs:List V} (p:Pend K g G H σ Δ a (.lst ds)) (hv:H a=some (.lst vs)):Ok K g (upd G a (.lst vs)) H σ Δ /\ Same G (upd G a (.lst vs))/\Rep K (upd G a (.lst vs)) (.ref a) (.lst ds):=by
 obtain ⟨o,p1,p2,p3,p4,p5,p6⟩:=p
 rw [hv] at p1; cases p1
 have p2:Reps K G vs ds:=p2
 have sg:Same G (upd G a (.lst vs)):=fun b u e=>by rw [Zao (Zaq e p3)]; exact e
 refine ⟨⟨k.same,k.lent,k.sub.trans sg,fun b u e=>?_,fun b u e=>?_,k.len,fun j d h=>?_,fun j x od e1 e2=>?_,k.dis⟩,sg,.lst Zat (p2.mono sg)⟩
 ·by_cases hb:b=a
  ·subst hb; rw [Zat] at e; cases e; exact ⟨hv,.inl p4⟩
  ·rw [Zao hb] at e; exact k.frz b u e
 ·obtain ⟨h1,h2,h3⟩:=k.ext b u e
  have hb:b ≠ a:=by intro z; subst z; rw [p5] at e; cases e
  exact ⟨h1,by rw [Zao hb]; exact h2,h3⟩
 ·obtain ⟨v,h1,h2⟩:=k.val j d h
  exact ⟨v,h1,h2.mono sg⟩
 ·obtain ⟨c,o,w1,w2,w3,w4,w5⟩:=k.own j x od e1 e2
  have hc:c ≠ a:=by intro z; subst z; exact p6 j x od e1 e2 w1
  exact ⟨c,o,w1,w2,w3.mono sg,by rw [Zao hc]; exact w4,w5⟩
theorem Ok.drop (k:Ok K g G H σ Δ) (i:Nat):Ok K g G H σ (Δ.set i .any):=by
 have old:∀ (j:Nat) x,(Δ.set i .any)[j]? = some x->x=.any\/(Δ[j]? = some x/\j ≠ i):=fun j x e1=>by
  by_cases hj:j=i
  ·subst hj
   rw [List.getElem?_set] at e1
   simp at e1
   exact .inl e1.2.symm
  ·rw [List.getElem?_set_ne (Ne.symm hj)] at e1
   exact .inr ⟨e1,hj⟩
 have oldO:∀ (j:Nat) x od,(Δ.set i .any)[j]? = some x->x.od=some od -> Δ[j]? = some x:=fun j x od e1 e2=>by
  rcases old j x e1 with z | z
  ·subst z; cases e2
  ·exact z.1
 refine ⟨k.same,k.lent,k.sub,k.frz,fun b o e=>?_,by simp [k.len],fun j e h=>?_,fun j x od e1 e2=>k.own j x od (oldO j x od e1 e2) e2,fun j l x y od od' a e1 e2 e3 e4=>k.dis j l x y od od' a (oldO j x od e1 e2) e2 (oldO l y od' e3 e4) e4⟩
 ·obtain ⟨h1,h2,h3⟩:=k.ext b o e
  exact ⟨h1,h2,fun j x od e1 e2=>h3 j x od (oldO j x od e1 e2) e2⟩
 ·rcases old j _ h with z | z
  ·cases z
  ·exact k.val j e z.1
theorem Ok.take (k:Ok K g G H σ Δ) {i:Nat} {od:OD} (h:Δ[i]? = some (.own od)):∃ a,σ[i]? = some (some (.ref a))/\Pend K g G H σ (Δ.set i .any) a od:=by
 obtain ⟨a,o,h1,h2,h3,h4,h5⟩:=k.own i _ od h rfl
 have h5:g.Hz a=none:=h5
 refine ⟨a,h1,o,h2,h3,h4,h5,?_,fun j x od' e1 e2 e3=>?_⟩
 ·cases q:g.Xo a with
  | none=>rfl
  | some u=>exact absurd h1 ((k.ext a u q).2.2 i _ od h rfl)
 ·by_cases hj:j=i
  ·subst hj
   rw [List.getElem?_set] at e1
   simp at e1
   obtain ⟨_,e1⟩:=e1
   subst e1
   cases e2
  ·rw [List.getElem?_set_ne (Ne.symm hj)] at e1
   exact hj (k.dis j i x _ od' od a e1 e2 h rfl e3 h1)
end
end L2
set_option Elab.async false
set_option linter.all false
set_option maxRecDepth 100000
namespace L2
open PySem PySem.Spec PyProof.Rows
def Cont (K:PySem.W.Frag) (g:Gm) (G:Hp) (σ:St) (P:D->Evt->Prop) (Q:VK):Prop:=
 ∀ v d G' H' Δ',Ok K g G' H' σ Δ' -> Same G G' -> Rep K G' v d->P d Δ' -> Q v H'
def JE (K:PySem.W.Frag) (t:TE) (Δ:Evt) (P:D->Evt->Prop):Prop:=
 ∀ g G H σ Q,Ok K g G H σ Δ -> Cont K g G σ P Q->t σ H Q
def JT (K:PySem.W.Frag) (t:TT) (Δ:Evt) (P:Bool->Evt->Prop):Prop:=
 ∀ g G H σ Q,Ok K g G H σ Δ -> (∀ b G' H' Δ',Ok K g G' H' σ Δ' -> Same G G' -> P b Δ' -> Q b H')->t σ H Q
def JA (K:PySem.W.Frag) (t:TA) (Δ:Evt) (P:List D->Evt->Prop):Prop:=
 ∀ g G H σ Q,Ok K g G H σ Δ -> (∀ vs ds G' H' Δ',Ok K g G' H' σ Δ' -> Same G G' -> Reps K G' vs ds->P ds Δ' -> Q vs H')->t σ H Q
def JO (K:PySem.W.Frag) (t:TE) (Δ:Evt) (P:OD->Evt->Prop):Prop:=
 ∀ g G H σ Q,Ok K g G H σ Δ -> (∀ a od G' H' Δ',Ok K g G' H' σ Δ' -> Same G G' -> Pend K g G' H' σ Δ' a od->P od Δ' -> Q (.ref a) H')->t σ H Q
def JR2 (K:PySem.W.Frag) (r:R2) (d e:D) (Δ:Evt) (P:D->Evt->Prop):Prop:=
 ∀ g G H σ Q x y,Ok K g G H σ Δ -> Rep K G x d->Rep K G y e->Cont K g G σ P Q->r x y H Q
def JR1 (K:PySem.W.Frag) (r:V->Hp->VK->Prop) (d:D) (Δ:Evt) (P:D->Evt->Prop):Prop:=
 ∀ g G H σ Q x,Ok K g G H σ Δ -> Rep K G x d->Cont K g G σ P Q->r x H Q
def JC (K:PySem.W.Frag) (r:List V->Hp->VK->Prop) (ds:List D) (Δ:Evt) (P:D->Evt->Prop):Prop:=
 ∀ g G H σ Q vs,Ok K g G H σ Δ -> Reps K G vs ds->Cont K g G σ P Q->r vs H Q
structure Pst where
 nx:Evt->Prop
 rt:D->Evt->Prop
 bk:Evt->Prop:=fun _=>False
 ct:Evt->Prop:=fun _=>False
 ro:OD->Evt->Prop:=fun _ _=>False
structure SCont (K:PySem.W.Frag) (g:Gm) (P:Pst) (E:Ends):Prop where
 nx:∀ σ G H Δ,Ok K g G H σ Δ -> P.nx Δ -> E.nx σ H
 rt:∀ v d σ G H Δ,Ok K g G H σ Δ -> Rep K G v d->P.rt d Δ -> E.rt v H
 bk:∀ σ G H Δ,Ok K g G H σ Δ -> P.bk Δ -> E.bk σ H
 ct:∀ σ G H Δ,Ok K g G H σ Δ -> P.ct Δ -> E.ct σ H
 ro:∀ a od σ G H Δ,Ok K g G H σ Δ -> Pend K g G H σ Δ a od->P.ro od Δ -> E.rt (.ref a) H
def JS (K:PySem.W.Frag) (t:TS) (Δ:Evt) (P:Pst):Prop:=
 ∀ g G H σ E,Ok K g G H σ Δ -> SCont K g P E->t E σ H
def JG (K:PySem.W.Frag) (t:TG) (d:D) (Δ:Evt) (P:Evt->Prop):Prop:=
 ∀ g G H σ v (R:St->Hp->Prop),Ok K g G H σ Δ -> Rep K G v d->(∀ σ' G' H' Δ',Ok K g G' H' σ' Δ' -> Same G G' -> P Δ' -> R σ' H')->t v σ H R
def JGs (K:PySem.W.Frag) (t:TGs) (ds:List D) (Δ:Evt) (P:Evt->Prop):Prop:=
 ∀ g G H σ vs (R:St->Hp->Prop),Ok K g G H σ Δ -> Reps K G vs ds->(∀ σ' G' H' Δ',Ok K g G' H' σ' Δ' -> Same G G' -> P Δ' -> R σ' H')->t vs σ H R
section
variable {K:PySem.W.Frag} {Δ:Evt}
theorem Cont.up {g:Gm} {G G1:Hp} {σ:St} {P:D->Evt->Prop} {Q:VK} (c:Cont K g G σ P Q) (s:Same G G1):Cont K g G1 σ P Q:=
 fun v d G' H' Δ' k s' r p=>c v d G' H' Δ' k (s.trans s') r p
theorem JE.mono {t:TE} {P P':D->Evt->Prop} (h:JE K t Δ P) (hp:∀ d Δ,P d Δ -> P' d Δ):JE K t Δ P':=
 fun g G H σ Q k c=>h g G H σ Q k fun v d G' H' Δ' k' s r p=>c v d G' H' Δ' k' s r (hp d Δ' p)
theorem JS.mono {t:TS} {P P':Pst} (h:JS K t Δ P) (hn:∀ Δ,P.nx Δ -> P'.nx Δ) (hr:∀ d Δ,P.rt d Δ -> P'.rt d Δ) (hb:∀ Δ,P.bk Δ -> P'.bk Δ) (hc:∀ Δ,P.ct Δ -> P'.ct Δ) (ho:∀ od Δ,P.ro od Δ -> P'.ro od Δ):JS K t Δ P':=
 fun g G H σ E k c=>h g G H σ E k ⟨fun σ' G' H' Δ' k' p=>c.nx σ' G' H' Δ' k' (hn _ p),fun v d σ' G' H' Δ' k' r p=>c.rt v d σ' G' H' Δ' k' r (hr _ _ p),fun σ' G' H' Δ' k' p=>c.bk σ' G' H' Δ' k' (hb _ p),fun σ' G' H' Δ' k' p=>c.ct σ' G' H' Δ' k' (hc _ p),fun a od σ' G' H' Δ' k' r p=>c.ro a od σ' G' H' Δ' k' r (ho _ _ p)⟩
theorem Zad {i:Nat} {d:D} {P:D->Evt->Prop} (h:Δ[i]? = some (.val d)) (p:P d Δ):JE K (tVar i) Δ P:=fun g G H σ Q k c=>by
 obtain ⟨v,h1,h2⟩:=k.val i d h
 exact ⟨v,h1,c v d G H Δ k (Same.refl _) h2 p⟩
theorem Zf1 {i:Nat} {ds:List D} {P:D->Evt->Prop} (h:Δ[i]? = some (.own (.lst ds))) (p:P (.lst ds) (Δ.set i (.val (.lst ds)))):JE K (tVar i) Δ P:=fun g G H σ Q k c=>by
 obtain ⟨a,h1,pd⟩:=k.take h
 obtain ⟨o,q1,q2,_⟩:=id pd
 cases o with
 | lst vs=>
  obtain ⟨k2,sg,r⟩:=(k.drop i).freeze pd q1
  have k3:=k2.setVal (i:=i) (by simpa using (List.getElem?_eq_some_iff.mp h).1) r
  have e1:σ.set i (some (.ref a)) = σ:=by
   apply List.ext_getElem?
   intro j
   by_cases hj:j=i
   ·subst hj; rw [List.getElem?_set_self (k.lt h),h1]
   ·rw [List.getElem?_set_ne (Ne.symm hj)]
  rw [e1,List.set_set] at k3
  exact ⟨.ref a,h1,c _ _ _ H _ k3 sg r p⟩
 | _=>exact absurd q2 (fun z=>z)
theorem Zay {i:Int} {P:D->Evt->Prop} (p:P (.int i) Δ):JE K (tC (.int i)) Δ P:=fun g G H σ Q k c=>c _ _ G H Δ k (Same.refl _) (.int i) p
theorem Zcg {b:Bool} {P:D->Evt->Prop} (p:P (.bl b) Δ):JE K (tC (.bl b)) Δ P:=fun g G H σ Q k c=>c _ _ G H Δ k (Same.refl _) (.bl b) p
theorem Zjn {P:D->Evt->Prop} (p:P .non Δ):JE K (tC .non) Δ P:=fun g G H σ Q k c=>c _ _ G H Δ k (Same.refl _) .non p
theorem Zs9 {x:Str} {P:D->Evt->Prop} (p:P (.str x) Δ):JE K (tC (.str x)) Δ P:=fun g G H σ Q k c=>c _ _ G H Δ k (Same.refl _) (.str x) p
theorem Zcp {x:String} {P:D->Evt->Prop} (p:P (.ty x) Δ):JE K (tC (.ty x)) Δ P:=fun g G H σ Q k c=>c _ _ G H Δ k (Same.refl _) (.ty x) p
theorem Zaz {r:R2} {ta tb:TE} {P:D->Evt->Prop} (h:JE K ta Δ fun d Δ1=>JE K tb Δ1 fun e Δ2=>JR2 K r d e Δ2 P):JE K (tOp r ta tb) Δ P:=fun g G H σ Q k c=>
 h g G H σ _ k fun x d G1 H1 Δ1 k1 s1 r1 p1=>p1 g G1 H1 σ _ k1 fun y e G2 H2 Δ2 k2 s2 r2 p2=>p2 g G2 H2 σ Q x y k2 (r1.mono s2) r2 (c.up (s1.trans s2))
theorem Ztj {r:V->Hp->VK->Prop} {ta:TE} {P:D->Evt->Prop} (h:JE K ta Δ fun d Δ1=>JR1 K r d Δ1 P):JE K (tUn r ta) Δ P:=fun g G H σ Q k c=>
 h g G H σ _ k fun x d G1 H1 Δ1 k1 s1 r1 p1=>p1 g G1 H1 σ Q x k1 r1 (c.up s1)
theorem Zah {P:List D->Evt->Prop} (p:P [] Δ):JA K tNil Δ P:=fun g G H σ Q k c=>c [] [] G H Δ k (Same.refl _) .nil p
theorem Zab {ta:TE} {tr:TA} {P:List D->Evt->Prop} (h:JE K ta Δ fun d Δ1=>JA K tr Δ1 fun ds Δ2=>P (d :: ds) Δ2):JA K (tCons ta tr) Δ P:=fun g G H σ Q k c=>
 h g G H σ _ k fun x d G1 H1 Δ1 k1 s1 r1 p1=>p1 g G1 H1 σ _ k1 fun vs ds G2 H2 Δ2 k2 s2 r2 p2=>c _ _ G2 H2 Δ2 k2 (s1.trans s2) (.cons (r1.mono s2) r2) p2
theorem Za4 {r:List V->Hp->VK->Prop} {ta:TA} {P:D->Evt->Prop} (h:JA K ta Δ fun ds Δ1=>JC K r ds Δ1 P):JE K (tCB r ta) Δ P:=fun g G H σ Q k c=>
 h g G H σ _ k fun vs ds G1 H1 Δ1 k1 s1 r1 p1=>p1 g G1 H1 σ Q vs k1 r1 (c.up s1)
theorem Zdf {ta:TA} {P:D->Evt->Prop} (h:JA K ta Δ fun ds Δ1=>ds.length<=sizeLine/\P (.tup ds) Δ1):JE K (tTup ta) Δ P:=fun g G H σ Q k c=>
 h g G H σ _ k fun vs ds G1 H1 Δ1 k1 s1 r1 ⟨z,p1⟩=>⟨by rw [r1.length]; exact z,fun p hp=>by
  obtain ⟨k2,sg⟩:=k1.laid hp (.tup vs)
  exact c _ _ _ _ Δ1 k2 (s1.trans sg) (.tup Zat (r1.mono sg)) p1⟩
theorem Zjr {ta:TA} {P:D->Evt->Prop} (h:JA K ta Δ fun ds Δ1=>ds.length<=sizeLine/\P (.lst ds) Δ1):JE K (tLst ta) Δ P:=fun g G H σ Q k c=>
 h g G H σ _ k fun vs ds G1 H1 Δ1 k1 s1 r1 ⟨z,p1⟩=>⟨by rw [r1.length]; exact z,fun p hp=>by
  obtain ⟨k2,sg⟩:=k1.laid hp (.lst vs)
  exact c _ _ _ _ Δ1 k2 (s1.trans sg) (.lst Zat (r1.mono sg)) p1⟩
theorem Ok.fresh {g:Gm} {G H:Hp} {σ:St} (k:Ok K g G H σ Δ) {p:Addr} {o:HO} {od:OD} (hp:H p=none) (r:OwnRep K G o od):Ok K g G (upd H p o) σ Δ /\ Pend K g G (upd H p o) σ Δ p od:=by
 have hG:G p=none:=by
  cases e:G p with
  | none=>rfl
  | some u=>rw [k.live p u e] at hp; cases hp
 refine ⟨k.grow (Same.refl _) (fun b u e=>by rw [Zao (Zaq e hp)]; exact e) fun b u e=>⟨?_,.inl e⟩,o,Zat,r,hG,k.there hp,?_,fun j x od' e1 e2 e3=>?_⟩
 ·have hb:b ≠ p:=by intro z; subst z; rw [hG] at e; cases e
  rw [Zao hb]; exact k.live b u e
 ·cases q:g.Xo p with
  | none=>rfl
  | some u=>have z:=(k.ext p u q).1; rw [hp] at z; cases z
 ·obtain ⟨a,oo,w1,w2,_⟩:=k.own j x od' e1 e2
  rw [e3] at w1; cases w1
  rw [hp] at w2; cases w2
theorem Zhx {ta:TA} {P:OD->Evt->Prop} (h:JA K ta Δ fun ds Δ1=>ds.length<=sizeLine/\P (.lst ds) Δ1):JO K (tLst ta) Δ P:=fun g G H σ Q k c=>
 h g G H σ _ k fun vs ds G1 H1 Δ1 k1 s1 r1 ⟨z,p1⟩=>⟨by rw [r1.length]; exact z,fun p hp=>by
  obtain ⟨k2,pd⟩:=k1.fresh (od:=.lst ds) hp (show OwnRep K G1 (.lst vs) (.lst ds) from r1)
  exact c p _ G1 _ Δ1 k2 s1 pd p1⟩
theorem Zcs {t:TE} {P:D->Evt->Prop} (h:JO K t Δ fun od Δ1=>∃ ds,od=.lst ds/\P (.lst ds) Δ1):JE K t Δ P:=fun g G H σ Q k c=>
 h g G H σ Q k fun a od G1 H1 Δ1 k1 s1 pd hq_=>by
  obtain ⟨ds,e,p1⟩:=hq_
  subst e
  obtain ⟨o,q1,q2,_⟩:=id pd
  cases o with
  | lst vs=>
   obtain ⟨k2,sg,r⟩:=k1.freeze pd q1
   exact c _ _ _ H1 Δ1 k2 (s1.trans sg) r p1
  | _=>exact absurd q2 (fun z=>z)
theorem Zjx {c:TT} {ta tb:TE} {P:D->Evt->Prop} (h:JT K c Δ fun b Δ1=>if b=true then JE K ta Δ1 P else JE K tb Δ1 P):JE K (tIf c ta tb) Δ P:=fun g G H σ Q k q=>
 h g G H σ _ k fun b G1 H1 Δ1 k1 s1 p1=>by
  cases b with
  | true=>exact (show JE K ta Δ1 P from p1) g G1 H1 σ Q k1 (q.up s1)
  | false=>exact (show JE K tb Δ1 P from p1) g G1 H1 σ Q k1 (q.up s1)
theorem Za0 {t:TE} {P:Bool->Evt->Prop} (h:JE K t Δ fun d Δ1=>∃ b,d=.bl b/\P b Δ1):JT K (tTest t) Δ P:=fun g G H σ Q k c=>
 h g G H σ _ k fun v d G1 H1 Δ1 k1 s1 r1 hq_=>by obtain ⟨b,e,p1⟩:=hq_; subst e; cases r1.inv; exact ⟨b,rfl,c b G1 H1 Δ1 k1 s1 p1⟩
theorem Zf0 {a b:TT} {P:Bool->Evt->Prop} (h:JT K a Δ fun x Δ1=>if x=true then JT K b Δ1 P else P false Δ1):JT K (tAnd a b) Δ P:=fun g G H σ Q k c=>
 h g G H σ _ k fun x G1 H1 Δ1 k1 s1 p1=>by
  cases x with
  | true=>exact (show JT K b Δ1 P from p1) g G1 H1 σ _ k1 fun y G2 H2 Δ2 k2 s2 p2=>c y G2 H2 Δ2 k2 (s1.trans s2) p2
  | false=>exact c false G1 H1 Δ1 k1 s1 p1
theorem Ze0 {a b:TT} {P:Bool->Evt->Prop} (h:JT K a Δ fun x Δ1=>if x=true then P true Δ1 else JT K b Δ1 P):JT K (tOr a b) Δ P:=fun g G H σ Q k c=>
 h g G H σ _ k fun x G1 H1 Δ1 k1 s1 p1=>by
  cases x with
  | true=>exact c true G1 H1 Δ1 k1 s1 p1
  | false=>exact (show JT K b Δ1 P from p1) g G1 H1 σ _ k1 fun y G2 H2 Δ2 k2 s2 p2=>c y G2 H2 Δ2 k2 (s1.trans s2) p2
theorem Zdv {a:TT} {P:Bool->Evt->Prop} (h:JT K a Δ fun x Δ1=>P (!x) Δ1):JT K (tNot a) Δ P:=fun g G H σ Q k c=>
 h g G H σ _ k fun x G1 H1 Δ1 k1 s1 p1=>c (!x) G1 H1 Δ1 k1 s1 p1
theorem Zb7 {P:Bool->Evt->Prop} (p:P true Δ):JT K tTrue Δ P:=fun g G H σ Q k c=>c true G H Δ k (Same.refl _) p
theorem Zps {P:Pst} (p:P.nx Δ):JS K tNext Δ P:=fun g G H σ E k c=>c.nx σ G H Δ k p
theorem Zpa {t u:TS} {P:Pst} (h:JS K t Δ { P with nx:=fun Δ1=>JS K u Δ1 P }):JS K (tSeq t u) Δ P:=fun g G H σ E k c=>
 h g G H σ _ k ⟨fun σ1 G1 H1 Δ1 k1 p1=>p1 g G1 H1 σ1 E k1 c,c.rt,c.bk,c.ct,c.ro⟩
theorem Ztn {te:TE} {P:Pst} (h:JE K te Δ P.rt):JS K (tRet te) Δ P:=fun g G H σ E k c=>
 h g G H σ _ k fun v d G1 H1 Δ1 k1 s1 r1 p1=>c.rt v d σ G1 H1 Δ1 k1 r1 p1
theorem Zp4 {te:TE} {P:Pst} (h:JO K te Δ P.ro):JS K (tRet te) Δ P:=fun g G H σ E k c=>
 h g G H σ _ k fun a od G1 H1 Δ1 k1 s1 pd p1=>c.ro a od σ G1 H1 Δ1 k1 pd p1
theorem Zpj {i:Nat} {od:OD} {P:OD->Evt->Prop} (h:Δ[i]? = some (.own od)) (p:P od (Δ.set i .any)):JO K (tVar i) Δ P:=fun g G H σ Q k c=>by
 obtain ⟨a,h1,pd⟩:=k.take h
 exact ⟨.ref a,h1,c a od G H _ (k.drop i) (Same.refl _) pd p⟩
theorem Zq2 {te:TE} {P:Pst} (h:JE K te Δ fun _ Δ1=>P.nx Δ1):JS K (tDrop te) Δ P:=fun g G H σ E k c=>
 h g G H σ _ k fun v d G1 H1 Δ1 k1 s1 r1 p1=>c.nx σ G1 H1 Δ1 k1 p1
theorem Ztu {c:TT} {t u:TS} {P:Pst} (h:JT K c Δ fun b Δ1=>if b=true then JS K t Δ1 P else JS K u Δ1 P):JS K (tIfS c t u) Δ P:=fun g G H σ E k q=>
 h g G H σ _ k fun b G1 H1 Δ1 k1 s1 p1=>by
  cases b with
  | true=>exact (show JS K t Δ1 P from p1) g G1 H1 σ E k1 q
  | false=>exact (show JS K u Δ1 P from p1) g G1 H1 σ E k1 q
theorem Zrw {te:TE} {t:TG} {P:Pst} (h:JE K te Δ fun d Δ1=>JG K t d Δ1 P.nx):JS K (tAsg te t) Δ P:=fun g G H σ E k c=>
 h g G H σ _ k fun v d G1 H1 Δ1 k1 s1 r1 p1=>p1 g G1 H1 σ v _ k1 r1 fun σ2 G2 H2 Δ2 k2 s2 p2=>c.nx σ2 G2 H2 Δ2 k2 p2
theorem Zck {P:Evt->Prop} (p:P Δ):JGs K gNil [] Δ P:=fun g G H σ vs R k r c=>by cases r; exact ⟨rfl,c σ G H Δ k (Same.refl _) p⟩
theorem Zba {t:TG} {u:TGs} {d:D} {ds:List D} {P:Evt->Prop} (h:JG K t d Δ fun Δ1=>JGs K u ds Δ1 P):JGs K (gCons t u) (d :: ds) Δ P:=fun g G H σ vs R k r c=>by
 obtain ⟨_,_,rfl,r1,rr⟩:=r.inv
 next=>exact ⟨_,_,rfl,h g G H σ _ _ k r1 fun σ1 G1 H1 Δ1 k1 s1 p1=>p1 g G1 H1 σ1 _ R k1 (rr.mono s1) fun σ2 G2 H2 Δ2 k2 s2 p2=>c σ2 G2 H2 Δ2 k2 (s1.trans s2) p2⟩
theorem Zdd {n:Nat} {t:TGs} {ds:List D} {P:Evt->Prop} (hl:ds.length=n) (h:JGs K t ds Δ P):JG K (gTup K n t) (.tup ds) Δ P:=fun g G H σ v R k r c=>by
 obtain ⟨_,_,rfl,ha,rs⟩:=r.inv
 next=>exact ⟨_,_,rfl,SqT.of (k.live _ _ ha),by rw [rs.length]; exact hl,h g G H σ _ R k rs c⟩
def ItOk (K:PySem.W.Frag) (G:Hp) (J:It) (ds:List D):Prop:=
 ∀ G1 H1,Same G G1->Same G1 H1->J.stop ds.length H1/\∀ (i:Nat) d,ds[i]? = some d->J.go i H1/\∀ x H2,J.yld i H1 x H2->∃ G2,Same G1 G2/\Same H1 H2/\(∀ b o,G2 b=some o->H2 b=some o/\(G1 b=some o\/H1 b=none))/\Rep K G2 x d
def JI (K:PySem.W.Frag) (wi:TI) (Δ:Evt) (P:List D->Evt->Prop):Prop:=
 ∀ g G H σ (R:It->Hp->Prop),Ok K g G H σ Δ -> (∀ J ds G' H' Δ',Ok K g G' H' σ Δ' -> Same G G' -> ItOk K G' J ds->P ds Δ' -> R J H')->wi σ H R
theorem Ztf {tl:TE} {P:List D->Evt->Prop} (h:JE K tl Δ fun d Δ1=>∃ ds,d=.tup ds/\P ds Δ1):JI K (iTup K tl) Δ P:=fun g G H σ R k c=>
 h g G H σ _ k fun v d G1 H1 Δ1 k1 s1 r1 hq_=>by
  obtain ⟨ds,e,p1⟩:=hq_
  subst e
  obtain ⟨a,vs,rfl,ha,rs⟩:=r1.inv
  next=>
   refine ⟨a,rfl,⟨vs,SqT.of (k1.live _ _ ha)⟩,c _ ds G1 H1 Δ1 k1 s1 (fun G2 H2 sg sh=>⟨⟨vs,SqT.of (sh _ _ (sg _ _ ha)),by rw [rs.length]; exact Nat.le_refl _⟩,fun i d e=>?_⟩) p1⟩
   obtain ⟨v,hv,rv⟩:=rs.get e
   refine ⟨⟨vs,v,SqT.of (sh _ _ (sg _ _ ha)),hv⟩,fun x H3 ⟨e3,y3⟩=>⟨G2,Same.refl _,by rw [e3]; exact Same.refl _,fun b o q=>⟨by rw [e3]; exact sh b o q,.inl q⟩,?_⟩⟩
   have:=y3 vs (SqT.of (sh _ _ (sg _ _ ha)))
   rw [hv] at this; cases this
   exact rv.mono sg
theorem Zp3 {tl:TE} {P:List D->Evt->Prop} (h:JE K tl Δ fun d Δ1=>∃ ds,(d=.lst ds\/d=.scr ds)/\P ds Δ1):JI K (iList K tl) Δ P:=fun g G H σ R k c=>
 h g G H σ _ k fun v d G1 H1 Δ1 k1 s1 r1 hq_=>by
  obtain ⟨ds,e,p1⟩:=hq_
  obtain ⟨a,vs,ea,hs,rs⟩:∃ a vs,v=.ref a/\SqL K G1 a vs/\Reps K G1 vs ds:=by
   rcases e with e | e
   ·subst e; cases r1 with | lst ha rs=>exact ⟨_,_,rfl,SqL.of ha,rs⟩
   ·subst e; cases r1 with | scr ha rs=>exact ⟨_,_,rfl,ha,rs⟩
  subst ea
  refine ⟨a,rfl,⟨vs,k1.live.seq hs⟩,c _ ds G1 H1 Δ1 k1 s1 (fun G2 H2 sg sh=>⟨⟨vs,sh.seq (sg.seq hs),by rw [rs.length]; exact Nat.le_refl _⟩,fun i d e=>?_⟩) p1⟩
  obtain ⟨v,hv,rv⟩:=rs.get e
  refine ⟨⟨vs,v,sh.seq (sg.seq hs),hv⟩,fun x H3 ⟨e3,y3⟩=>⟨G2,Same.refl _,by rw [e3]; exact Same.refl _,fun b o q=>⟨by rw [e3]; exact sh b o q,.inl q⟩,?_⟩⟩
  have:=y3 vs (sh.seq (sg.seq hs))
  rw [hv] at this; cases this
  exact rv.mono sg
def rngD (lo:Int) (n:Nat):List D:=(List.range n).map fun i:Nat=>D.int (lo + (i:Int))
theorem Zbm (lo:Int) (n:Nat):(rngD lo n).length=n:=by simp [rngD]
theorem Zb3 {lo:Int} {n i:Nat} {d:D} (h:(rngD lo n)[i]? = some d):i < n/\d=.int (lo + (i:Int)):=by
 unfold rngD at h
 rw [List.getElem?_map] at h
 cases e:(List.range n)[i]? with
 | none=>rw [e] at h; cases h
 | some j=>
  rw [e] at h
  obtain ⟨h1,h2⟩:=List.getElem?_eq_some_iff.mp e
  rw [List.getElem_range] at h2
  subst h2
  exact ⟨by simpa using h1,(Option.some.inj h).symm⟩
theorem Zja {G:Hp} (lo:Int) (n:Nat):ItOk K G (Itr lo n) (rngD lo n):=fun G1 H1 sg sh=>by
 refine ⟨by show n<=(rngD lo n).length; rw [Zbm]; exact Nat.le_refl _,fun i d e=>?_⟩
 obtain ⟨h1,h2⟩:=Zb3 e
 subst h2
 refine ⟨h1,fun x H2 ⟨e2,y2⟩=>⟨G1,Same.refl _,by rw [e2]; exact Same.refl _,fun b o q=>⟨by rw [e2]; exact sh b o q,.inl q⟩,?_⟩⟩
 subst y2
 exact .int _
theorem Zb1 {ta:TA} {P:List D->Evt->Prop} (h:JA K ta Δ fun ds Δ1=>∃ n:Int,ds=[.int n] /\ -(2 ^ 62)<=n/\n < 2 ^ 62/\P (rngD 0 n.toNat) Δ1):JI K (iRng1 ta) Δ P:=fun g G H σ R k c=>
 h g G H σ _ k fun vs ds G1 H1 Δ1 k1 s1 r1 hq_=>by
  obtain ⟨n,e,h1,h2,p1⟩:=hq_
  subst e
  obtain ⟨_,_,rfl,ra,rr⟩:=r1.inv
  next=>
   cases rr.inv; cases ra.inv
   exact ⟨n,rfl,h1,h2,c _ _ G1 H1 Δ1 k1 s1 (Zja 0 _) p1⟩
theorem Zia {ta:TA} {P:List D->Evt->Prop} (h:JA K ta Δ fun ds Δ1=>∃ m n:Int,ds=[.int m,.int n]/\(-(2 ^ 62)<=m/\m < 2 ^ 62 /\ -(2 ^ 62)<=n/\n < 2 ^ 62)/\P (rngD m (n - m).toNat) Δ1):JI K (iRng2 ta) Δ P:=fun g G H σ R k c=>
 h g G H σ _ k fun vs ds G1 H1 Δ1 k1 s1 r1 hq_=>by
  obtain ⟨m,n,e,h1,p1⟩:=hq_
  subst e
  obtain ⟨_,_,rfl,ra,rr⟩:=r1.inv
  next=>
   obtain ⟨_,_,rfl,rb,rr⟩:=rr.inv
   next=>
    cases rr.inv; cases ra.inv; cases rb.inv
    exact ⟨m,n,rfl,h1,c _ _ G1 H1 Δ1 k1 s1 (Zja m _) p1⟩
theorem Zrt {wi:TI} {t:TG} {tb:TS} {P:Pst} (h:JI K wi Δ fun ds Δ1=>∃ I:Nat->Evt->Prop,I 0 Δ1/\(∀ i d Δ2,ds[i]? = some d->I i Δ2->JG K t d Δ2 fun Δ3=>JS K tb Δ3 ⟨I (i + 1),P.rt,P.nx,I (i + 1),P.ro⟩)/\∀ Δ2,I ds.length Δ2->P.nx Δ2) :
  JS K (tFor wi t tb) Δ P:=fun g G H σ E k c=>
 h g G H σ _ k fun J ds G1 H1 Δ1 k1 s1 it hq_=>by
  obtain ⟨I,h0,ht,he⟩:=hq_
  refine ⟨fun i m σ H=>m=ds.length - i/\i<=ds.length/\∃ G Δ,Ok K g G H σ Δ /\ Same G1 G/\I i Δ,⟨ds.length,by simp,Nat.zero_le _,G1,Δ1,k1,Same.refl _,h0⟩,?_⟩
  rintro i m σ2 H2 ⟨rfl,hi,G2,Δ2,k2,s2,h2⟩
  obtain ⟨stop,go⟩:=it G2 H2 s2 k2.live
  by_cases hlt:i < ds.length
  ·obtain ⟨g1,g2⟩:=go i _ (List.getElem?_eq_getElem hlt)
   refine .inr ⟨g1,fun σ' H'=>i + 1<=ds.length/\∃ G Δ,Ok K g G H' σ' Δ /\ Same G1 G/\I (i + 1) Δ,fun σ' H' p'=>⟨ds.length - (i + 1),by omega,rfl,p'.1,p'.2⟩,fun x H3 y=>?_⟩
   obtain ⟨G3,a1,a2,a3,a4⟩:=g2 x H3 y
   have k3:=k2.grow a1 a2 a3
   refine ht i _ Δ2 (List.getElem?_eq_getElem hlt) h2 { g with F:=G3,Xo:=g.Xo } G3 H3 σ2 x _ ?_ a4 fun σ4 G4 H4 Δ4 k4 s4 p4=>?_
   ·exact ⟨k3.same,k3.lent,Same.refl _,fun b o q=>⟨(k3.frz b o q).1,.inr q⟩,k3.ext,k3.len,k3.val,k3.own,k3.dis⟩
   ·have cv:∀ {G5 H5:Hp} {σ5:St} {Δ5:Evt},Ok K { g with F:=G3,Xo:=g.Xo } G5 H5 σ5 Δ5->Ok K g G5 H5 σ5 Δ5/\Same G1 G5:=fun {G5 H5 σ5 Δ5} k5=>
     ⟨⟨k5.same,k5.lent,k3.sub.trans k5.sub,fun b o q=>by
      obtain ⟨q1,q2⟩:=k5.frz b o q
      refine ⟨q1,?_⟩
      rcases q2 with z | z
      ·exact .inl z
      ·exact (k3.frz b o z).2,k5.ext,k5.len,k5.val,k5.own,k5.dis⟩,s2.trans (a1.trans k5.sub)⟩
    refine p4 _ G4 H4 σ4 _ k4 ⟨fun σ5 G5 H5 Δ5 k5 p5=>?_,fun v d σ5 G5 H5 Δ5 k5 r5 p5=>?_,fun σ5 G5 H5 Δ5 k5 p5=>?_,fun σ5 G5 H5 Δ5 k5 p5=>?_,fun a od σ5 G5 H5 Δ5 k5 pd5 p5=>?_⟩
    ·exact ⟨hlt,G5,Δ5,(cv k5).1,(cv k5).2,p5⟩
    ·exact c.rt v d σ5 G5 H5 Δ5 (cv k5).1 r5 p5
    ·exact c.nx σ5 G5 H5 Δ5 (cv k5).1 p5
    ·exact ⟨hlt,G5,Δ5,(cv k5).1,(cv k5).2,p5⟩
    ·exact c.ro a od σ5 G5 H5 Δ5 (cv k5).1 pd5 p5
  ·have e:i=ds.length:=by omega
   subst e
   exact .inl ⟨stop,c.nx σ2 G2 H2 Δ2 k2 (he Δ2 h2)⟩
theorem Znr {c:TT} {tb:TS} {P:Pst} (I:Nat->Evt->Prop) (h0:∃ m,I m Δ) (ht:∀ m Δ1,I m Δ1->JT K c Δ1 fun b Δ2=>if b=true then JS K tb Δ2 ⟨fun Δ3=>∃ m',m' < m/\I m' Δ3,P.rt,P.nx,fun Δ3=>∃ m',m' < m/\I m' Δ3,P.ro⟩ else P.nx Δ2) :
  JS K (tWhile c tb) Δ P:=fun g G H σ E k q=>by
 obtain ⟨m,h0⟩:=h0
 refine ⟨fun m σ H=>∃ G Δ,Ok K g G H σ Δ /\ I m Δ,⟨m,G,Δ,k,h0⟩,?_⟩
 rintro m σ1 H1 ⟨G1,Δ1,k1,h1⟩
 refine ht m Δ1 h1 g G1 H1 σ1 _ k1 fun b G2 H2 Δ2 k2 s2 p2=>?_
 cases b with
 | true=>
  refine ⟨fun σ' H'=>∃ m',m' < m/\∃ G Δ,Ok K g G H' σ' Δ /\ I m' Δ,fun σ' H' ⟨m',hm,z⟩=>⟨m',hm,z⟩,?_⟩
  refine (show JS K tb Δ2 _ from p2) g G2 H2 σ1 _ k2 ⟨fun σ5 G5 H5 Δ5 k5 ⟨m',hm,p5⟩=>⟨m',hm,G5,Δ5,k5,p5⟩,q.rt,q.nx,fun σ5 G5 H5 Δ5 k5 ⟨m',hm,p5⟩=>⟨m',hm,G5,Δ5,k5,p5⟩,q.ro⟩
 | false=>exact q.nx σ1 G2 H2 Δ2 k2 p2
end
end L2
set_option Elab.async false
set_option linter.all false
set_option maxRecDepth 100000
namespace L2
open PySem PySem.Spec PyProof.Rows
section
variable {K:PySem.W.Frag} {Δ:Evt} {P:D->Evt->Prop}
theorem jr_I {C:Int->Int->Prop} {f:Int->Int->Int} {i j:Int} (hc:C i j) (p:P (.int (f i j)) Δ):JR2 K (rI C fun i j=>.int (f i j)) (.int i) (.int j) Δ P:=fun g G H σ Q x y k rx ry c=>by
 cases rx.inv; cases ry.inv
 exact ⟨i,j,rfl,rfl,hc,c _ _ G H Δ k (Same.refl _) (.int _) p⟩
theorem Zkh {f:Int->Int->Int} {i j:Int} (p:P (.int (f i j)) Δ):JR2 K (rI0 fun i j=>.int (f i j)) (.int i) (.int j) Δ P:=fun g G H σ Q x y k rx ry c=>by
 cases rx.inv; cases ry.inv
 exact ⟨i,j,rfl,rfl,c _ _ G H Δ k (Same.refl _) (.int _) p⟩
theorem Zfa {f:Int->Int->Bool} {i j:Int} (p:P (.bl (f i j)) Δ):JR2 K (rI0 fun i j=>.bl (f i j)) (.int i) (.int j) Δ P:=fun g G H σ Q x y k rx ry c=>by
 cases rx.inv; cases ry.inv
 exact ⟨i,j,rfl,rfl,c _ _ G H Δ k (Same.refl _) (.bl _) p⟩
theorem Zdu {i j:Int} (p:P (.bl (decide (i=j))) Δ):JR2 K rEq (.int i) (.int j) Δ P:=fun g G H σ Q x y k rx ry c=>by
 cases rx.inv; cases ry.inv
 refine ⟨rfl,?_⟩
 have e:decide (V.int i=V.int j)=decide (i=j):=by rw [Zhh]; exact (Bool.beq_eq_decide_eq i j)
 rw [e]
 exact c _ _ G H Δ k (Same.refl _) (.bl _) p
theorem Zga {i j:Int} (p:P (.bl (!decide (i=j))) Δ):JR2 K rNe (.int i) (.int j) Δ P:=fun g G H σ Q x y k rx ry c=>by
 cases rx.inv; cases ry.inv
 refine ⟨rfl,?_⟩
 have e:decide (V.int i=V.int j)=decide (i=j):=by rw [Zhh]; exact (Bool.beq_eq_decide_eq i j)
 rw [e]
 exact c _ _ G H Δ k (Same.refl _) (.bl _) p
theorem Ztp {ds:List D} {i:Int} {d:D} (h:atI ds i=some d) (p:P d Δ):JR2 K (rIxT K) (.tup ds) (.int i) Δ P:=fun g G H σ Q x y k rx ry c=>by
 obtain ⟨_,_,rfl,ha,rs⟩:=rx.inv
 next=>
  cases ry.inv
  obtain ⟨v,h1,h2⟩:=Zg0 rs h
  exact ⟨_,_,i,v,rfl,rfl,SqT.of (k.live _ _ ha),h1,c v d G H Δ k (Same.refl _) h2 p⟩
theorem Zr6 {ds:List D} {i:Int} {d:D} (h:atI ds i=some d) (p:P d Δ):JR2 K (rIxL K) (.lst ds) (.int i) Δ P:=fun g G H σ Q x y k rx ry c=>by
 obtain ⟨_,_,rfl,ha,rs⟩:=rx.inv
 next=>
  cases ry.inv
  obtain ⟨v,h1,h2⟩:=Zg0 rs h
  exact ⟨_,_,i,v,rfl,rfl,SqL.of (k.live _ _ ha),h1,c v d G H Δ k (Same.refl _) h2 p⟩
theorem Zmg {n:Nat} {te:TE} {Pp:Pst} {x:Slot} {od:OD} (hx:Δ[n]? = some x) (ho:x.od=some od) (hod:∃ ds,od=.lst ds)
  (h:JE K te Δ fun d Δ1=>∃ y ds,Δ1[n]? = some y/\y.od=some (.lst ds)/\ds.length < sizeLine/\Pp.nx (Δ1.set n (y.put (.lst (ds ++ [d]))))) :
  JS K (tDrop (tBM K "list" rAppend (tVar n) (tCons te tNil))) Δ Pp:=fun g G H σ E k c=>by
 obtain ⟨a,o,h1,h2,h3,h4,h5⟩:=k.own n x _ hx ho
 obtain ⟨ds0,hod⟩:=hod
 subst hod
 cases o with
 | lst vs0=>
  refine ⟨.ref a,h1,.inl ⟨rfl,_,SqL.of h2⟩,h g G H σ _ k fun v d G1 H1 Δ1 k1 s1 r1 ⟨y,ds,q1,q2,q3,p⟩=>?_⟩
  obtain ⟨a',o',w1,w2,w3,w4,w5⟩:=k1.own n y _ q1 q2
  rw [h1] at w1; cases w1
  cases o' with
  | lst vs=>
   have w3:Reps K G1 vs ds:=w3
   exact ⟨a,vs,v,rfl,rfl,w2,by rw [w3.length]; exact q3,c.nx σ G1 _ _ (k1.write q1 q2 h1 (show OwnRep K G1 (.lst (vs ++ [v])) (.lst (ds ++ [d])) from w3.append (.cons r1 .nil))) p⟩
  | _=>exact absurd w3 (fun z=>z)
 | _=>exact absurd h3 (fun z=>z)
theorem Zsh {ds es:List D} (he:ds=[.lst es]\/ds=[.tup es]) (p:P (.int es.length) Δ) :
  JC K (fun xs H Q=>∃ p ys,xs=[.ref p]/\(SqL K H p ys\/SqT K H p ys)/\Q (.int ys.length) H) ds Δ P:=fun g G H σ Q vs k rs c=>by
 rcases he with he | he <;> subst he
 ·obtain ⟨_,_,rfl,r,t⟩:=rs.inv
  next=>
   cases t.inv
   obtain ⟨_,_,rfl,ha,rs⟩:=r.inv
   next=>
    refine ⟨_,_,rfl,.inl (SqL.of (k.live _ _ ha)),?_⟩
    rw [rs.length]; exact c _ _ G H Δ k (Same.refl _) (.int _) p
 ·obtain ⟨_,_,rfl,r,t⟩:=rs.inv
  next=>
   cases t.inv
   obtain ⟨_,_,rfl,ha,rs⟩:=r.inv
   next=>
    refine ⟨_,_,rfl,.inr (SqT.of (k.live _ _ ha)),?_⟩
    rw [rs.length]; exact c _ _ G H Δ k (Same.refl _) (.int _) p
theorem Zpx {n:Nat} {x:Slot} {ds:List D} (hx:Δ[n]? = some x) (ho:x.od=some (.lst ds)) (p:P (.int ds.length) Δ) :
  JE K (tCB (fun xs H Q=>∃ p ys,xs=[.ref p]/\(SqL K H p ys\/SqT K H p ys)/\Q (.int ys.length) H) (tCons (tVar n) tNil)) Δ P:=fun g G H σ Q k c=>by
 obtain ⟨a,o,h1,h2,h3,h4,h5⟩:=k.own n x _ hx ho
 cases o with
 | lst vs=>
  have h3:Reps K G vs ds:=h3
  refine ⟨.ref a,h1,a,vs,rfl,.inl (SqL.of h2),?_⟩
  rw [h3.length]; exact c _ _ G H Δ k (Same.refl _) (.int _) p
 | _=>exact absurd h3 (fun z=>z)
theorem Zl5 {i:Int} (p:P (.int (if i < 0 then -i else i)) Δ):JC K (fun xs H Q=>∃ i,xs=[.int i]/\Q (.int (if i < 0 then -i else i)) H) [.int i] Δ P:=fun g G H σ Q vs k rs c=>by
 obtain ⟨_,_,rfl,r,t⟩:=rs.inv
 next=>cases t.inv; cases r.inv; exact ⟨i,rfl,c _ _ G H Δ k (Same.refl _) (.int _) p⟩
theorem Zc2 {f:Int->Int->Int} {i j:Int} (p:P (.int (f i j)) Δ):JC K (fun xs H Q=>∃ i j,xs=[.int i,.int j]/\Q (.int (f i j)) H) [.int i,.int j] Δ P:=fun g G H σ Q vs k rs c=>by
 obtain ⟨_,_,rfl,r,t⟩:=rs.inv
 next=>
  obtain ⟨_,_,rfl,r',t⟩:=t.inv
  next=>cases t.inv; cases r.inv; cases r'.inv; exact ⟨i,j,rfl,c _ _ G H Δ k (Same.refl _) (.int _) p⟩
theorem Znp {ds es:List D} (he:ds=[.lst es]\/ds=[.tup es]) (p:P (.tup es) Δ) :
  JC K (fun xs H Q=>∃ p ys,xs=[.ref p]/\((SqL K H p ys/\∀ l,H l=none->Q (.ref l) (upd H l (.tup ys)))\/(SqT K H p ys/\Q (.ref p) H))) ds Δ P:=fun g G H σ Q vs k rs c=>by
 rcases he with he | he <;> subst he
 ·obtain ⟨_,_,rfl,r,t⟩:=rs.inv
  next=>
   cases t.inv
   obtain ⟨_,_,rfl,ha,rs⟩:=r.inv
   next=>
    refine ⟨_,_,rfl,.inl ⟨SqL.of (k.live _ _ ha),fun l hl=>?_⟩⟩
    obtain ⟨k2,sg⟩:=k.laid hl (.tup _)
    exact c _ _ _ _ Δ k2 sg (.tup Zat (rs.mono sg)) p
 ·obtain ⟨_,_,rfl,r,t⟩:=rs.inv
  next=>
   cases t.inv
   obtain ⟨_,_,rfl,ha,rs⟩:=r.inv
   next=>exact ⟨_,_,rfl,.inr ⟨SqT.of (k.live _ _ ha),c _ _ G H Δ k (Same.refl _) (.tup ha rs) p⟩⟩
def glue (F H H':Hp):Hp:=fun b=>match H b with
 | none=>H' b
 | some _=>F b
theorem Zef {F H H':Hp} {b:Addr} (h:H b=none):glue F H H' b=H' b:=by unfold glue; rw [h]
theorem Zdp {F H H':Hp} {b:Addr} {o:HO} (h:H b=some o):glue F H H' b=F b:=by unfold glue; rw [h]
theorem Zfj {G H H':Hp} (l:Same G H):Same G (glue G H H'):=fun b o e=>by rw [Zdp (l b o e)]; exact e
theorem Zg3 {G H H':Hp} (l:Same G H) (sh:∀ b o,G b=some o->H b=some o->H' b=some o):∀ b o,glue G H H' b=some o->H' b=some o/\(G b=some o\/H b=none):=fun b o e=>by
 cases q:H b with
 | none=>rw [Zef q] at e; exact ⟨e,.inr rfl⟩
 | some u=>rw [Zdp q] at e; exact ⟨sh b o e (l b o e),.inl e⟩
abbrev DSp:=List D->(D->Prop)->Prop
def spD (K:PySem.W.Frag) (f:DSp):Sp:=fun vs H Q _=>∃ F ds Post,Same F H/\Reps K F vs ds/\f ds Post/\∀ r H' d,Same H H' -> Rep K (glue F H H') r d->Post d->Q r H'
theorem Zbi {f:DSp} {ta:TA} {E:XK} (h:JA K ta Δ fun ds Δ1=>f ds fun d=>P d Δ1):JE K (tCall (spD K f) [] E ta) Δ P:=fun g G H σ Q k c=>
 h g G H σ _ k fun vs ds G1 H1 Δ1 k1 s1 r1 p1=>by
  show spD K f (vs ++ []) H1 Q E
  rw [List.append_nil]
  refine ⟨G1,ds,_,k1.live,r1,p1,fun r H' d sh rr pd=>?_⟩
  have sg:=Zfj (H':=H') k1.live
  exact c r d _ H' Δ1 (k1.grow sg sh (Zg3 k1.live fun b o _ e=>sh b o e)) (s1.trans sg) rr pd
abbrev BSp:=List D->List D->(D->List D->Prop)->Prop
def spB (K:PySem.W.Frag) (f:BSp):Sp:=fun vs H Q _=>∃ F a us ws ps ds Post,vs=.ref a :: ws/\Same F H/\F a=none/\H a=some (.lst us)/\Reps K F us ps/\Reps K F ws ds/\f ps ds Post ∧
 ∀ r H' us' ps' d,(∀ b o,b ≠ a->H b=some o->H' b=some o)->H' a=some (.lst us')->Reps K (glue F H H') us' ps' -> Rep K (glue F H H') r d->Post d ps' -> Q r H'
theorem Ok.lend {g:Gm} {G H H':Hp} {σ:St} (k:Ok K g G H σ Δ) {i:Nat} {x:Slot} {ps ps':List D} {us':List V} {a:Addr} (hx:Δ[i]? = some x) (ho:x.od=some (.lst ps)) (ha:σ[i]? = some (some (.ref a)))
  (sh:∀ b o,b ≠ a->H b=some o->H' b=some o) (hn:H' a=some (.lst us')) (r:Reps K (glue G H H') us' ps'):Ok K g (glue G H H') H' σ (Δ.set i (x.put (.lst ps')))/\Same G (glue G H H'):=by
 obtain ⟨a',o,h1,h2,h3,h4,h5⟩:=k.own i x _ hx ho
 rw [ha] at h1; cases h1
 have sg:=Zfj (H':=H') k.live
 have k2:Ok K g (glue G H H') (upd H' a o) σ Δ:=by
  refine k.grow sg (fun b u e=>?_) fun b u e=>?_
  ·by_cases hb:b=a
   ·subst hb; rw [Zat,<- h2]; exact e
   ·rw [Zao hb]; exact sh b u hb e
  ·have hb:b ≠ a:=by intro z; subst z; rw [Zdp h2,h4] at e; cases e
   rw [Zao hb]
   exact Zg3 k.live (fun c w e1 e2=>sh c w (fun z=>by subst z; rw [h4] at e1; cases e1) e2) b u e
 have k3:=k2.write hx ho ha (show OwnRep K (glue G H H') (.lst us') (.lst ps') from r)
 rw [Zp6] at k3
 have e:upd H' a (.lst us')=H':=by
  funext b
  by_cases hb:b=a
  ·subst hb; rw [Zat,hn]
  ·rw [Zao hb]
 rw [e] at k3
 exact ⟨k3,sg⟩
theorem Zmr {f:BSp} {ta:TA} {E:XK} {i:Nat} {x:Slot} {od:OD} (hx:Δ[i]? = some x) (ho:x.od=some od) (h:JA K ta Δ fun ds Δ1=>∃ y ps,Δ1[i]? = some y/\y.od=some (.lst ps)/\f ps ds fun d ps'=>P d (Δ1.set i (y.put (.lst ps')))) :
  JE K (tCall (spB K f) [] E (tCons (tVar i) ta)) Δ P:=fun g G H σ Q k c=>by
 obtain ⟨a,o,h1,h2,h3,h4,h5⟩:=k.own i x _ hx ho
 refine ⟨.ref a,h1,h g G H σ _ k fun vs ds G1 H1 Δ1 k1 s1 r1 ⟨y,ps,q1,q2,p1⟩=>?_⟩
 show spB K f ((.ref a :: vs) ++ []) H1 Q E
 rw [List.append_nil]
 obtain ⟨a',o',w1,w2,w3,w4,w5⟩:=k1.own i y _ q1 q2
 rw [h1] at w1; cases w1
 cases o' with
 | lst us=>
  refine ⟨G1,a,us,vs,ps,ds,_,rfl,k1.live,w4,w2,w3,r1,p1,fun r H' us' ps' d sh hn rr rd pd=>?_⟩
  obtain ⟨k2,sg⟩:=k1.lend q1 q2 h1 sh hn rr
  exact c r d _ H' _ k2 (s1.trans sg) rd pd
 | _=>exact absurd w3 (fun z=>z)
abbrev NSp:=List D->(List D->Prop)->Prop
def spN (K:PySem.W.Frag) (f:NSp):Sp:=fun vs H Q _=>∃ F ds Post,Same F H/\Reps K F vs ds/\f ds Post ∧
 ∀ a H' us ps,Same H H' -> H a=none->H' a=some (.lst us)->Reps K (fun b=>if b=a then none else glue F H H' b) us ps->Post ps->Q (.ref a) H'
theorem Zes {f:NSp} {ta:TA} {E:XK} {Po:OD->Evt->Prop} (h:JA K ta Δ fun ds Δ1=>f ds fun ps=>Po (.lst ps) Δ1):JO K (tCall (spN K f) [] E ta) Δ Po:=fun g G H σ Q k c=>
 h g G H σ _ k fun vs ds G1 H1 Δ1 k1 s1 r1 p1=>by
  show spN K f (vs ++ []) H1 Q E
  rw [List.append_nil]
  refine ⟨G1,ds,_,k1.live,r1,p1,fun a H' us ps sh ha hn rr pd=>?_⟩
  have sg:Same G1 (fun b=>if b=a then none else glue G1 H1 H' b):=fun b o e=>by
   have hb:b ≠ a:=by intro z; subst z; rw [k1.live _ _ e] at ha; cases ha
   try dsimp only
   rw [if_neg hb]
   exact Zfj k1.live b o e
  have k2:Ok K g (fun b=>if b=a then none else glue G1 H1 H' b) H' σ Δ1:=k1.grow sg sh fun b o e=>by
   try dsimp only at e
   by_cases hb:b=a
   ·rw [if_pos hb] at e; cases e
   ·rw [if_neg hb] at e; exact Zg3 k1.live (fun b o _ e=>sh b o e) b o e
  refine c a _ _ H' Δ1 k2 (s1.trans sg) ⟨.lst us,hn,(show OwnRep K _ (.lst us) (.lst ps) from rr),by simp,k1.there ha,?_,fun j x od' e1 e2 e3=>?_⟩ pd
  ·cases q:g.Xo a with
   | none=>rfl
   | some u=>have z:=(k1.ext a u q).1; rw [ha] at z; cases z
  ·obtain ⟨b,oo,w1,w2,_⟩:=k1.own j x od' e1 e2
   rw [e3] at w1; cases w1
   rw [ha] at w2; cases w2
end
def startD (N:List Str) (ds:List D):Evt:=ds.map .val ++ List.replicate (N.length - ds.length) .any
section
variable {K:PySem.W.Frag}
theorem Zfi {g:Gm} {G H:Hp} {N:List Str} {vs:List V} {ds:List D} (rs:Reps K G vs ds) (hl:ds.length<=N.length) (same:∀ b o,¬ g.B b->g.Hz b=some o->H b=some o) (lent:∀ b,g.B b->H b ≠ none) (sub:Same g.F G)
  (frz:∀ b o,G b=some o->H b=some o/\(g.Hz b=none\/g.F b=some o)) (ext:∀ b,g.Xo b=none):Ok K g G H (start N vs) (startD N ds):=by
 have noOd:∀ (i:Nat) x od,(startD N ds)[i]? = some x->x.od=some od->False:=fun i x od e1 e2=>by
  have hm:=List.mem_of_getElem? e1
  rcases List.mem_append.mp hm with z | z
  ·obtain ⟨d,_,rfl⟩:=List.mem_map.mp z; cases e2
  ·rw [List.mem_replicate] at z; rw [z.2] at e2; cases e2
 refine ⟨same,lent,sub,frz,fun b o e=>(by rw [ext b] at e; cases e),?_,fun i d e=>?_,fun i x od e1 e2=>(noOd i x od e1 e2).elim,fun i j x y od od' a e1 e2=>(noOd i x od e1 e2).elim⟩
 ·unfold start startD
  rw [List.length_append,List.length_append,List.length_map,List.length_map,List.length_replicate,List.length_replicate,rs.length]
 ·unfold startD at e
  unfold start
  by_cases hi:i < ds.length
  ·rw [List.getElem?_append_left (by simpa using hi),List.getElem?_map] at e
   cases q:ds[i]? with
   | none=>rw [q] at e; cases e
   | some d'=>
    rw [q] at e
    have e:Slot.val d' = Slot.val d:=by simpa using e
    cases e
    obtain ⟨v,h1,h2⟩:=rs.get q
    refine ⟨v,?_,h2⟩
    rw [List.getElem?_append_left (by rw [List.length_map,rs.length]; exact hi),List.getElem?_map,h1]
    rfl
  ·rw [List.getElem?_append_right (by simpa using hi),List.getElem?_replicate] at e
   split at e <;> cases e
theorem Zdy {f:DSp} {t:TS} {N:List Str} {vs:List V} {H:Hp} {Q:VK} {E:XK} (ht:∀ ds Post,f ds Post->ds.length<=N.length/\JS K t (startD N ds) ⟨fun _=>Post .non,fun d _=>Post d,fun _=>False,fun _=>False,fun _ _=>False⟩) (h:spD K f vs H Q E) :
  t { nx:=fun _ H'=>Q .non H',rt:=Q } (start N vs) H:=by
 obtain ⟨F,ds,Post,l,rs,hf,q⟩:=h
 obtain ⟨hl,hj⟩:=ht ds Post hf
 have fin:∀ {v:V} {d:D} {σ:St} {G H':Hp} {Δ:Evt},Ok K ⟨fun _=>False,F,H,fun _=>none⟩ G H' σ Δ -> Rep K G v d->Post d->Q v H':=fun {v d σ G H' Δ} k r p=>by
  refine q v H' d (fun b o e=>k.same b o (fun z=>z) e) (r.mono fun b o e=>?_) p
  obtain ⟨e1,e2⟩:=k.frz b o e
  rcases e2 with z | z
  ·rw [Zef z]; exact e1
  ·rw [Zdp (l b o z)]; exact z
 refine hj ⟨fun _=>False,F,H,fun _=>none⟩ F H (start N vs) _ (Zfi rs hl (fun _ _ _ e=>e) (fun _ z=>z.elim) (Same.refl _) (fun b o e=>⟨l b o e,.inr e⟩) fun _=>rfl) ⟨fun σ G H' Δ k p=>fin k .non p,fun v d σ G H' Δ k r p=>fin k r p,fun _ _ _ _ _ z=>z.elim,fun _ _ _ _ _ z=>z.elim,fun _ _ _ _ _ _ _ _ z=>z.elim⟩
theorem Zp2 {f:NSp} {t:TS} {N:List Str} {vs:List V} {H:Hp} {Q:VK} {E:XK} (ht:∀ ds Post,f ds Post->ds.length<=N.length/\JS K t (startD N ds) ⟨fun _=>False,fun _ _=>False,fun _=>False,fun _=>False,fun od _=>∃ ps,od=.lst ps/\Post ps⟩) (h:spN K f vs H Q E) :
  t { nx:=fun _ H'=>Q .non H',rt:=Q } (start N vs) H:=by
 obtain ⟨F,ds,Post,l,rs,hf,q⟩:=h
 obtain ⟨hl,hj⟩:=ht ds Post hf
 refine hj ⟨fun _=>False,F,H,fun _=>none⟩ F H (start N vs) _ (Zfi rs hl (fun _ _ _ e=>e) (fun _ z=>z.elim) (Same.refl _) (fun b o e=>⟨l b o e,.inr e⟩) fun _=>rfl) ⟨fun _ _ _ _ _ z=>z.elim,fun _ _ _ _ _ _ _ _ z=>z.elim,fun _ _ _ _ _ z=>z.elim,fun _ _ _ _ _ z=>z.elim,fun a od σ G H' Δ k pd ⟨ps,e,p⟩=>?_⟩
 subst e
 obtain ⟨o,h1,h2,h3,h4,h5,h6⟩:=pd
 cases o with
 | lst us=>
  refine q a H' us ps (fun b o e=>k.same b o (fun z=>z) e) h4 h1 (Reps.mono (fun b o e=>?_) (show Reps K G us ps from h2)) p
  have hb:b ≠ a:=by intro z; subst z; rw [h3] at e; cases e
  try dsimp only
  rw [if_neg hb]
  obtain ⟨e1,e2⟩:=k.frz b o e
  rcases e2 with z | z
  ·rw [Zef z]; exact e1
  ·rw [Zdp (l b o z)]; exact z
 | _=>exact absurd h2 (fun z=>z)
theorem Zk3 {f:BSp} {t:TS} {N:List Str} {vs:List V} {H:Hp} {Q:VK} {E:XK} (ht:∀ ps ds Post,f ps ds Post->ds.length + 1<=N.length/\JS K t (.bor (.lst ps) :: startD N.tail ds) ⟨fun Δ=>∃ ps',Δ[0]? = some (.bor (.lst ps'))/\Post .non ps',fun d Δ=>∃ ps',Δ[0]? = some (.bor (.lst ps'))/\Post d ps',fun _=>False,fun _=>False,fun _ _=>False⟩) (h:spB K f vs H Q E) :
  t { nx:=fun _ H'=>Q .non H',rt:=Q } (start N vs) H:=by
 obtain ⟨F,a,us,ws,ps,ds,Post,rfl,l,fa,ha,ru,rs,hf,q⟩:=h
 obtain ⟨hl,hj⟩:=ht ps ds Post hf
 have fin:∀ {v:V} {d:D} {σ:St} {G H':Hp} {Δ:Evt} {ps':List D},Ok K ⟨fun b=>b=a,F,H,fun _=>none⟩ G H' σ Δ -> Δ[0]? = some (.bor (.lst ps'))->Rep K G v d->Post d ps' -> Q v H':=fun {v d σ G H' Δ ps'} k e0 r p=>by
  obtain ⟨a',o,h1,h2,h3,h4,h5⟩:=k.own 0 _ _ e0 rfl
  have ea:a' = a:=h5
  subst ea
  cases o with
  | lst us'=>
   have up:Same G (glue F H H'):=fun b o e=>by
    obtain ⟨e1,e2⟩:=k.frz b o e
    rcases e2 with z | z
    ·rw [Zef z]; exact e1
    ·rw [Zdp (l b o z)]; exact z
   exact q v H' us' ps' d (fun b o hb e=>k.same b o hb e) h2 (Reps.mono up (show Reps K G us' ps' from h3)) (r.mono up) p
  | _=>exact absurd h3 (fun z=>z)
 cases N with
 | nil=>simp at hl
 | cons n0 N=>
  have hl':ds.length<=N.length:=by simpa using hl
  have k0:=Zfi (K:=K) (H:=H) (g:=⟨fun b=>b=a,F,H,fun _=>none⟩) (N:=N) rs hl' (fun _ _ _ e=>e) (fun b z=>by subst z; rw [ha]; intro w; cases w) (Same.refl _) (fun b o e=>⟨l b o e,.inr e⟩) fun _=>rfl
  have e1:start (n0 :: N) (.ref a :: ws)=some (.ref a) :: start N ws:=by
   unfold start
   rw [List.map_cons,List.length_cons,List.length_cons,Nat.add_sub_add_right]
   rfl
  rw [e1]
  have noOd:∀ (i:Nat) x od,(startD N ds)[i]? = some x->x.od=some od->False:=fun i x od e1 e2=>by
   have hm:=List.mem_of_getElem? e1
   rcases List.mem_append.mp hm with z | z
   ·obtain ⟨d,_,rfl⟩:=List.mem_map.mp z; cases e2
   ·rw [List.mem_replicate] at z; rw [z.2] at e2; cases e2
  have k1:Ok K ⟨fun b=>b=a,F,H,fun _=>none⟩ F H (some (.ref a) :: start N ws) (.bor (.lst ps) :: startD N ds):=by
   refine ⟨k0.same,k0.lent,k0.sub,k0.frz,fun b o e=>(by cases e),(by rw [List.length_cons,List.length_cons,k0.len]),fun i d e=>?_,fun i x od e1 e2=>?_,fun i j x y od od' c e1 e2 e3 e4 _ _=>?_⟩
   ·cases i with
    | zero=>cases e
    | succ i=>exact k0.val i d e
   ·cases i with
    | zero=>cases e1; cases e2; exact ⟨a,.lst us,rfl,ha,ru,fa,rfl⟩
    | succ i=>exact (noOd i x od e1 e2).elim
   ·cases i with
    | zero=>cases j with
     | zero=>rfl
     | succ j=>exact (noOd j y od' e3 e4).elim
    | succ i=>exact (noOd i x od e1 e2).elim
  exact hj _ F H _ _ k1 ⟨fun σ G H' Δ k ⟨ps',e,p⟩=>fin k e .non p,fun v d σ G H' Δ k r ⟨ps',e,p⟩=>fin k e r p,fun _ _ _ _ _ z=>z.elim,fun _ _ _ _ _ z=>z.elim,fun _ _ _ _ _ _ _ _ z=>z.elim⟩
theorem Zb2 {f:DSp} {n:Nat} (h:∀ ds Post,f ds Post->ds.length=n):∀ vs H Q E,spD K f vs H Q E->vs.length=n:=fun vs H Q E hq_=>by obtain ⟨F,ds,Post,l,rs,hf,q⟩:=hq_; rw [rs.length]; exact h ds Post hf
theorem Zis {f:NSp} {n:Nat} (h:∀ ds Post,f ds Post->ds.length=n):∀ vs H Q E,spN K f vs H Q E->vs.length=n:=fun vs H Q E hq_=>by obtain ⟨F,ds,Post,l,rs,hf,q⟩:=hq_; rw [rs.length]; exact h ds Post hf
theorem Zfu {f:BSp} {n:Nat} (h:∀ ps ds Post,f ps ds Post->ds.length + 1=n):∀ vs H Q E,spB K f vs H Q E->vs.length=n:=fun vs H Q E hq_=>by obtain ⟨F,a,us,ws,ps,ds,Post,e,l,fa,ha,ru,rs,hf,q⟩:=hq_; rw [e,List.length_cons,rs.length]; exact h ps ds Post hf
end
end L2
set_option Elab.async false
set_option linter.all false
set_option maxRecDepth 100000
namespace L2
open PySem PySem.Spec PyProof.Rows
def JGn (K:PySem.W.Frag) (n:Nat) (t:TG) (d:D) (Δ:Evt) (P:Evt->Prop):Prop:=
 ∀ g G H σ v (R:St->Hp->Prop),Ok K g G H σ Δ -> Rep K G v d->(∀ σ' G' H' Δ',Ok K g G' H' σ' Δ' -> Same G G' -> (∀ j,n<=j -> σ'[j]? = σ[j]?)->P Δ' -> R σ' H')->t v σ H R
def JGsn (K:PySem.W.Frag) (n:Nat) (t:TGs) (ds:List D) (Δ:Evt) (P:Evt->Prop):Prop:=
 ∀ g G H σ vs (R:St->Hp->Prop),Ok K g G H σ Δ -> Reps K G vs ds->(∀ σ' G' H' Δ',Ok K g G' H' σ' Δ' -> Same G G' -> (∀ j,n<=j -> σ'[j]? = σ[j]?)->P Δ' -> R σ' H')->t vs σ H R
section
variable {K:PySem.W.Frag} {Δ:Evt}
theorem Zg2 {n i:Nat} {d:D} {P:Evt->Prop} (hn:i < n) (hi:i < Δ.length) (p:P (Δ.set i (.val d))):JGn K n (gName i) d Δ P:=fun g G H σ v R k r c=>
 c _ G H _ (k.setVal hi r) (Same.refl _) (fun j hj=>List.getElem?_set_ne (by omega)) p
theorem Zg8 {n:Nat} {P:Evt->Prop} (p:P Δ):JGsn K n gNil [] Δ P:=fun g G H σ vs R k r c=>by cases r; exact ⟨rfl,c σ G H Δ k (Same.refl _) (fun _ _=>rfl) p⟩
theorem Zdi {n:Nat} {t:TG} {u:TGs} {d:D} {ds:List D} {P:Evt->Prop} (h:JGn K n t d Δ fun Δ1=>JGsn K n u ds Δ1 P):JGsn K n (gCons t u) (d :: ds) Δ P:=fun g G H σ vs R k r c=>by
 obtain ⟨_,_,rfl,r1,rr⟩:=r.inv
 next=>exact ⟨_,_,rfl,h g G H σ _ _ k r1 fun σ1 G1 H1 Δ1 k1 s1 e1 p1=>p1 g G1 H1 σ1 _ R k1 (rr.mono s1) fun σ2 G2 H2 Δ2 k2 s2 e2 p2=>c σ2 G2 H2 Δ2 k2 (s1.trans s2) (fun j hj=>(e2 j hj).trans (e1 j hj)) p2⟩
theorem Zir {n m:Nat} {t:TGs} {ds:List D} {P:Evt->Prop} (hl:ds.length=m) (h:JGsn K n t ds Δ P):JGn K n (gTup K m t) (.tup ds) Δ P:=fun g G H σ v R k r c=>by
 obtain ⟨_,_,rfl,ha,rs⟩:=r.inv
 next=>exact ⟨_,_,rfl,SqT.of (k.live _ _ ha),by rw [rs.length]; exact hl,h g G H σ _ R k rs c⟩
end
def compD (n:Nat) (sel:List Nat) (Δ:Evt):Evt:=List.replicate n .any ++ sel.map fun i=>(Δ[i]?).getD .any
def backAt (n:Nat) (sel:List Nat) (Δi:Evt) (i:Nat) (x:Slot):Slot:=match x with
 | .val d=>.val d
 | .any=>.any
 | x=>match sel.idxOf? i with
  | none=>x
  | some j=>match Δi[n + j]? with
   | some (.own o)=>.own o
   | some (.bor o)=>.bor o
   | some (.ownA a o)=>.ownA a o
   | _=>.any
def backD (n:Nat) (sel:List Nat) (Δi:Evt):Nat->Evt->Evt
 | _,[]=>[]
 | i,x :: r=>backAt n sel Δi i x :: backD n sel Δi (i + 1) r
theorem Zdh (n:Nat) (sel:List Nat) (Δi:Evt):∀ (Δ:Evt) (k i:Nat),(backD n sel Δi k Δ)[i]? = (Δ[i]?).map (backAt n sel Δi (k + i))
 | [],k,i=>by simp [backD]
 | x :: r,k,0=>by simp [backD]
 | x :: r,k,i + 1=>by
  have:=Zdh n sel Δi r (k + 1) i
  simp only [backD,List.getElem?_cons_succ]
  rw [this,show k + 1 + i=k + (i + 1) by omega]
theorem Zhw (n:Nat) (sel:List Nat) (Δi:Evt):∀ (Δ:Evt) (k:Nat),(backD n sel Δi k Δ).length = Δ.length
 | [],k=>rfl
 | x :: r,k=>by simp [backD,Zhw n sel Δi r (k + 1)]
theorem Zen {sel:List Nat} {i j:Nat} (h:sel.idxOf? i=some j):sel[j]? = some i:=by
 have h2:=List.idxOf?_eq_some_iff.mp h
 obtain ⟨hj,e,_⟩:=h2
 rw [List.getElem?_eq_getElem hj,e]
theorem Zlg {n:Nat} {sel:List Nat} {Δi:Evt} {i:Nat} {x y:Slot} {od:OD} (h:backAt n sel Δi i x=y) (ho:y.od=some od) :
  (x=y/\sel.idxOf? i=none)\/∃ j,sel[j]? = some i /\ Δi[n + j]? = some y/\∃ od',x.od=some od':=by
 unfold backAt at h
 cases x with
 | any=>subst h; cases ho
 | val d=>subst h; cases ho
 | own o=>
  dsimp only at h
  cases q:sel.idxOf? i with
  | none=>rw [q] at h; exact .inl ⟨h,rfl⟩
  | some j=>
   rw [q] at h
   dsimp only at h
   refine .inr ⟨j,Zen q,?_,o,rfl⟩
   cases e:Δi[n + j]? with
   | none=>rw [e] at h; subst h; cases ho
   | some z=>rw [e] at h; cases z <;> (subst h; first | rfl | cases ho)
 | ownA a o=>
  dsimp only at h
  cases q:sel.idxOf? i with
  | none=>rw [q] at h; exact .inl ⟨h,rfl⟩
  | some j=>
   rw [q] at h
   dsimp only at h
   refine .inr ⟨j,Zen q,?_,o,rfl⟩
   cases e:Δi[n + j]? with
   | none=>rw [e] at h; subst h; cases ho
   | some z=>rw [e] at h; cases z <;> (subst h; first | rfl | cases ho)
 | bor o=>
  dsimp only at h
  cases q:sel.idxOf? i with
  | none=>rw [q] at h; exact .inl ⟨h,rfl⟩
  | some j=>
   rw [q] at h
   dsimp only at h
   refine .inr ⟨j,Zen q,?_,o,rfl⟩
   cases e:Δi[n + j]? with
   | none=>rw [e] at h; subst h; cases ho
   | some z=>rw [e] at h; cases z <;> (subst h; first | rfl | cases ho)
section
variable {K:PySem.W.Frag} {Δ:Evt}
open Classical in
noncomputable def aside (g:Gm) (sel:List Nat) (σ:St) (Δ:Evt) (H:Hp) (acc:Addr) (ys:List V):Hp:=fun b=>
 if b=acc then some (.lst ys) else if ∃ (i:Nat) (x:Slot) (od:OD),Δ[i]? = some x/\x.od=some od/\i ∉ sel /\ σ[i]? = some (some (.ref b)) then H b else g.Xo b
theorem Zd2 {n:Nat} {sel:List Nat} {σ:St} {j i:Nat} (h:sel[j]? = some i):(compSt n sel σ)[n + j]? = some ((σ[i]?).getD none):=by
 unfold compSt
 rw [List.getElem?_append_right (by rw [List.length_replicate]; omega),List.length_replicate,Nat.add_sub_cancel_left,List.getElem?_map,h]
 rfl
theorem Zcu {n:Nat} {sel:List Nat} {Δ:Evt} {k:Nat} {x:Slot} (h:(compD n sel Δ)[k]? = some x):x=.any\/∃ j i,k=n + j/\sel[j]? = some i /\ Δ[i]? = some x:=by
 unfold compD at h
 by_cases hk:k < n
 ·rw [List.getElem?_append_left (by simpa using hk),List.getElem?_replicate,if_pos hk] at h
  exact .inl (Option.some.inj h).symm
 ·rw [List.getElem?_append_right (by simpa using hk),List.length_replicate,List.getElem?_map] at h
  cases e:sel[k - n]? with
  | none=>rw [e] at h; cases h
  | some i=>
   rw [e] at h
   have h:(Δ[i]?).getD .any=x:=by simpa using h
   cases q:Δ[i]? with
   | none=>rw [q] at h; exact .inl h.symm
   | some y=>rw [q] at h; cases h; exact .inr ⟨k - n,i,by omega,e,q⟩
theorem Zkm {g:Gm} {G1 H1:Hp} {σ:St} {Δ1:Evt} {n:Nat} {sel:List Nat} {acc:Addr} {X0:Hp} (hsel:sel.Nodup) (k1:Ok K g G1 H1 σ Δ1) (hacc:H1 acc=none)
  (hX:∀ b o,X0 b=some o->(b=acc/\o=.lst [])\/(b ≠ acc/\(((∃ (i:Nat) (x:Slot) (od:OD),Δ1[i]? = some x/\x.od=some od/\i ∉ sel /\ σ[i]? = some (some (.ref b)))/\H1 b=some o)\/g.Xo b=some o))):Ok K ⟨g.B,G1,g.Hz,X0⟩ G1 (upd H1 acc (.lst [])) (compSt n sel σ) (compD n sel Δ1):=by
 have hsl:∀ {j j' i:Nat},sel[j]? = some i->sel[j']? = some i->j=j':=fun {j j' i} a b=>by
  obtain ⟨h1,e1⟩:=List.getElem?_eq_some_iff.mp a
  obtain ⟨h2,e2⟩:=List.getElem?_eq_some_iff.mp b
  exact (List.getElem_inj hsel).mp (e1.trans e2.symm)
 have hGa:G1 acc=none:=by
  cases e:G1 acc with
  | none=>rfl
  | some u=>rw [k1.live _ _ e] at hacc; cases hacc
 have cs:∀ {j i:Nat} {a:Addr},sel[j]? = some i->(compSt n sel σ)[n + j]? = some (some (.ref a)) -> σ[i]? = some (some (.ref a)):=fun {j i a} ej e3=>by
  rw [Zd2 ej] at e3
  cases q:σ[i]? with
  | none=>rw [q] at e3; cases e3
  | some w=>rw [q] at e3; cases e3; rfl
 have oldH:∀ b o,H1 b=some o->(upd H1 acc (.lst [])) b=some o:=fun b o e=>by rw [Zao (Zaq e hacc)]; exact e
 refine ⟨fun b o hb e=>oldH b o (k1.same b o hb e),fun b hb z=>?_,Same.refl _,fun b o e=>⟨oldH b o (k1.live b o e),.inr e⟩,fun b o e=>?_,?_,fun i d e=>?_,fun i x od e1 e2=>?_,fun i j x y od od' a e1 e2 e3 e4 e5 e6=>?_⟩
 ·cases q:H1 b with
  | none=>exact k1.lent b hb q
  | some u=>rw [oldH b u q] at z; cases z
 ·rcases hX b o e with ⟨rfl,rfl⟩ | ⟨hb,⟨⟨i0,x0,od0,f1,f2,f3,f4⟩,e⟩ | e⟩
  ·refine ⟨Zat,hGa,fun i x od e1 e2 e3=>?_⟩
   rcases Zcu e1 with z | ⟨j,i',ei,ej,z⟩
   ·subst z; cases e2
   ·subst ei
    obtain ⟨a,o,w1,w2,_⟩:=k1.own i' x od z e2
    rw [cs ej e3] at w1; cases w1
    rw [hacc] at w2; cases w2
  ·obtain ⟨a,oo,w1,w2,w3,w4,w5⟩:=k1.own i0 x0 od0 f1 f2
   rw [f4] at w1; cases w1
   refine ⟨oldH b o e,w4,fun i x od e1 e2 e3=>?_⟩
   rcases Zcu e1 with z | ⟨j,i',ei,ej,z⟩
   ·subst z; cases e2
   ·subst ei
    have:=k1.dis i0 i' x0 x od0 od b f1 f2 z e2 f4 (cs ej e3)
    subst this
    exact f3 (List.mem_of_getElem? ej)
  ·obtain ⟨w1,w2,w3⟩:=k1.ext b o e
   refine ⟨oldH b o w1,w2,fun i x od e1 e2 e3=>?_⟩
   rcases Zcu e1 with z | ⟨j,i',ei,ej,z⟩
   ·subst z; cases e2
   ·subst ei; exact w3 i' x od z e2 (cs ej e3)
 ·unfold compD compSt
  simp
 ·rcases Zcu e with z | ⟨j,i',ei,ej,z⟩
  ·cases z
  ·subst ei
   obtain ⟨v,w1,w2⟩:=k1.val i' d z
   exact ⟨v,by rw [Zd2 ej,w1]; rfl,w2⟩
 ·rcases Zcu e1 with z | ⟨j,i',ei,ej,z⟩
  ·subst z; cases e2
  ·subst ei
   obtain ⟨a,o,w1,w2,w3,w4,w5⟩:=k1.own i' x od z e2
   exact ⟨a,o,by rw [Zd2 ej,w1]; rfl,oldH a o w2,w3,w4,w5⟩
 ·rcases Zcu e1 with z | ⟨j1,i1,ei,ej,z⟩
  ·subst z; cases e2
  ·rcases Zcu e3 with z' | ⟨j2,i2,ei',ej',z'⟩
   ·subst z'; cases e4
   ·subst ei; subst ei'
    have:=k1.dis i1 i2 x y od od' a z e2 z' e4 (cs ej e5) (cs ej' e6)
    subst this
    rw [hsl ej ej']
theorem Zjb {σ σ2:St} {Δ1 Δ2:Evt} {n:Nat} {sel:List Nat} (hσ:∀ j,n<=j -> σ2[j]? = (compSt n sel σ)[j]?) (i:Nat) (y:Slot) (od:OD) (e1:(backD n sel Δ2 0 Δ1)[i]? = some y) (e2:y.od=some od) :
  ∃ x od',Δ1[i]? = some x/\x.od=some od' /\ ((x=y/\i ∉ sel)\/∃ j,sel[j]? = some i /\ Δ2[n + j]? = some y /\ σ2[n + j]? = some ((σ[i]?).getD none)):=by
 rw [Zdh] at e1
 cases q:Δ1[i]? with
 | none=>rw [q] at e1; cases e1
 | some x=>
  rw [q] at e1
  have e1:backAt n sel Δ2 i x=y:=by simpa using e1
  rcases Zlg e1 e2 with ⟨z1,z2⟩ | ⟨j,z1,z2,od',z3⟩
  ·refine ⟨x,od,rfl,by rw [z1]; exact e2,.inl ⟨z1,fun hm=>?_⟩⟩
   rw [List.idxOf?_eq_none_iff] at z2
   exact z2 hm
  ·exact ⟨x,od',rfl,z3,.inr ⟨j,z1,z2,by rw [hσ (n + j) (by omega)]; exact Zd2 z1⟩⟩
theorem Zik {g:Gm} {G1 H1 G2 H2 Xv:Hp} {σ σ2:St} {Δ1 Δ2:Evt} {n:Nat} {sel:List Nat} {acc:Addr} (k1:Ok K g G1 H1 σ Δ1) (hacc:H1 acc=none) (k2:Ok K ⟨g.B,G1,g.Hz,Xv⟩ G2 H2 σ2 Δ2) (hσ:∀ j,n<=j -> σ2[j]? = (compSt n sel σ)[j]?)
  (hX:∀ b o,b ≠ acc->(∃ (i:Nat) (x:Slot) (od:OD),Δ1[i]? = some x/\x.od=some od/\i ∉ sel /\ σ[i]? = some (some (.ref b)))->H1 b=some o->Xv b=some o) (hY:∀ b o,b ≠ acc->¬ (∃ (i:Nat) (x:Slot) (od:OD),Δ1[i]? = some x/\x.od=some od/\i ∉ sel /\ σ[i]? = some (some (.ref b)))->g.Xo b=some o->Xv b=some o):Ok K g G2 H2 σ (backD n sel Δ2 0 Δ1):=by
 have s2:Same G1 G2:=k2.sub
 have src:=Zjb (Δ1:=Δ1) (Δ2:=Δ2) hσ
 refine ⟨k2.same,k2.lent,k1.sub.trans s2,fun b o e=>?_,fun b o e=>?_,by rw [Zhw,k1.len],fun i d e=>?_,fun i y od e1 e2=>?_,fun i j x y od od' a e1 e2 e3 e4 e5 e6=>?_⟩
 ·obtain ⟨q1,q2⟩:=k2.frz b o e
  refine ⟨q1,?_⟩
  rcases q2 with z | z
  ·exact .inl z
  ·exact (k1.frz b o z).2
 ·obtain ⟨w1,w2,w3⟩:=k1.ext b o e
  have hne:b ≠ acc:=by intro z; subst z; rw [hacc] at w1; cases w1
  obtain ⟨u1,u2,u3⟩:=k2.ext b o (hY b o hne (fun ⟨i,x,od,f1,f2,f3,f4⟩=>w3 i x od f1 f2 f4) e)
  refine ⟨u1,u2,fun i y od e1 e2 e3=>?_⟩
  obtain ⟨x,od',f1,f2,_⟩:=src i y od e1 e2
  exact w3 i x od' f1 f2 e3
 ·rw [Zdh] at e
  cases q:Δ1[i]? with
  | none=>rw [q] at e; cases e
  | some x=>
   rw [q] at e
   have e:backAt n sel Δ2 (0 + i) x=.val d:=by simpa using e
   have ex:x=.val d:=by
    unfold backAt at e
    cases x with
    | any=>cases e
    | val d'=>exact e
    | own o=>dsimp only at e; split at e <;> first | cases e | (split at e <;> cases e)
    | bor o=>dsimp only at e; split at e <;> first | cases e | (split at e <;> cases e)
    | ownA a o=>dsimp only at e; split at e <;> first | cases e | (split at e <;> cases e)
   subst ex
   obtain ⟨v,w1,w2⟩:=k1.val i d q
   exact ⟨v,w1,w2.mono s2⟩
 ·obtain ⟨x,od',f1,f2,f3⟩:=src i y od e1 e2
  rcases f3 with ⟨f3,f4⟩ | ⟨j,f3,f4,f5⟩
  ·subst f3
   obtain ⟨a,o,w1,w2,w3,w4,w5⟩:=k1.own i x od f1 e2
   have hne:a ≠ acc:=by intro z; subst z; rw [hacc] at w2; cases w2
   obtain ⟨u1,u2,u3⟩:=k2.ext a o (hX a o hne ⟨i,x,od,f1,e2,f4,w1⟩ w2)
   exact ⟨a,o,w1,u1,w3.mono s2,u2,w5⟩
  ·obtain ⟨a,o,w1,w2,w3,w4,w5⟩:=k2.own (n + j) y od f4 e2
   obtain ⟨a0,o0,v1,_⟩:=k1.own i x od' f1 f2
   rw [f5,v1] at w1
   have ea:a0=a:=by cases w1; rfl
   subst ea
   exact ⟨a0,o,v1,w2,w3,w4,w5⟩
 ·obtain ⟨x',od1,f1,f2,_⟩:=src i x od e1 e2
  obtain ⟨y',od2,f3,f4,_⟩:=src j y od' e3 e4
  exact k1.dis i j x' y' od1 od2 a f1 f2 f3 f4 e5 e6
theorem Ok.base {g:Gm} {G1 F X G5 H5:Hp} {σ5:St} {Δ5:Evt} (sF:Same G1 F) (hF:∀ b o,F b=some o->(g.Hz b=none\/G1 b=some o)) (k5:Ok K ⟨g.B,F,g.Hz,X⟩ G5 H5 σ5 Δ5):Ok K ⟨g.B,G1,g.Hz,X⟩ G5 H5 σ5 Δ5:=
 ⟨k5.same,k5.lent,sF.trans k5.sub,fun b o q=>by
  obtain ⟨q1,q2⟩:=k5.frz b o q
  refine ⟨q1,?_⟩
  rcases q2 with z | z
  ·exact .inl z
  ·exact hF b o z,k5.ext,k5.len,k5.val,k5.own,k5.dis⟩
theorem Zm4 {n:Nat} {sel:List Nat} {wi:TI} {t:TG} {tc:TT} {te:TE} {P:OD->Evt->Prop} (hsel:sel.Nodup)
  (h:JI K wi Δ fun ds Δ1=>ds.length < sizeLine/\∃ I:Nat->List D->Evt->Prop,I 0 [] (compD n sel Δ1) ∧
   (∀ i d ys Δ2,ds[i]? = some d->I i ys Δ2->JGn K n t d Δ2 fun Δ3=>JT K tc Δ3 fun b Δ4=>if b=true then JE K te Δ4 fun e Δ5=>I (i + 1) (ys ++ [e]) Δ5 else I (i + 1) ys Δ4) ∧
   ∀ ys Δ2,I ds.length ys Δ2->P (.lst ys) (backD n sel Δ2 0 Δ1)):JO K (tComp n sel wi t tc te) Δ P:=fun g G H σ Q k c=>
 h g G H σ _ k fun J ds G1 H1 Δ1 k1 s1 it ⟨hz,I,h0,ht,he⟩ acc hacc=>by
  have nacc:∀ (i:Nat) x od,Δ1[i]? = some x->x.od=some od -> σ[i]? ≠ some (some (.ref acc)):=fun i x od e1 e2 e3=>by
   obtain ⟨a,o,w1,w2,_⟩:=k1.own i x od e1 e2
   rw [e3] at w1; cases w1
   rw [hacc] at w2; cases w2
  -- the word at each turn
  let Wd:Nat->St->Hp->Prop:=fun i σ' H'=>i<=ds.length/\(∀ j,n<=j -> σ'[j]? = (compSt n sel σ)[j]?)/\∃ G ys vs Δi,ys.length<=i/\Reps K G vs ys/\Ok K ⟨g.B,G1,g.Hz,aside g sel σ Δ1 H1 acc vs⟩ G H' σ' Δi/\I i ys Δi
  refine ⟨fun i m σ' H'=>m=ds.length - i/\Wd i σ' H',⟨ds.length,by simp,Nat.zero_le _,fun _ _=>rfl,G1,[],[],compD n sel Δ1,Nat.le_refl _,.nil,?_,h0⟩,?_⟩
  ·refine Zkm hsel k1 hacc fun b o e=>?_
   have e:aside g sel σ Δ1 H1 acc [] b=some o:=e
   unfold aside at e
   by_cases hb:b=acc
   ·rw [if_pos hb] at e; cases e; exact .inl ⟨hb,rfl⟩
   ·rw [if_neg hb] at e
    split at e
    case isTrue hx=>exact .inr ⟨hb,.inl ⟨hx,e⟩⟩
    case isFalse hx=>exact .inr ⟨hb,.inr e⟩
  ·rintro i m σ2 H2 ⟨rfl,hi,hσ,G2,ys,vs,Δ2,hy,ry,k2,h2⟩
   have s2:Same G1 G2:=k2.sub
   obtain ⟨stop,go⟩:=it G2 H2 s2 k2.live
   have hacc2:∀ {G' H':Hp} {σ':St} {Δ':Evt} {vs:List V} {F:Hp},Ok K ⟨g.B,F,g.Hz,aside g sel σ Δ1 H1 acc vs⟩ G' H' σ' Δ' -> H' acc=some (.lst vs)/\G' acc=none/\∀ (i:Nat) x od,Δ'[i]? = some x->x.od=some od -> σ'[i]? ≠ some (some (.ref acc)):=fun {G' H' σ' Δ' vs F} kk=>
    kk.ext acc (.lst vs) (by show aside g sel σ Δ1 H1 acc vs acc=_; unfold aside; rw [if_pos rfl])
   by_cases hlt:i < ds.length
   ·obtain ⟨g1,g2⟩:=go i _ (List.getElem?_eq_getElem hlt)
    refine .inr ⟨g1,fun σ' H'=>Wd (i + 1) σ' H',fun σ' H' p'=>⟨ds.length - (i + 1),by omega,rfl,p'⟩,fun x H3 y=>?_⟩
    obtain ⟨G3,a1,a2,a3,a4⟩:=g2 x H3 y
    have k3:=k2.grow a1 a2 a3
    have hG3:∀ b o,G3 b=some o->(g.Hz b=none\/G1 b=some o):=fun b o q=>(k3.frz b o q).2
    have k3':Ok K ⟨g.B,G3,g.Hz,aside g sel σ Δ1 H1 acc vs⟩ G3 H3 σ2 Δ2:=⟨k3.same,k3.lent,Same.refl _,fun b o q=>⟨(k3.frz b o q).1,.inr q⟩,k3.ext,k3.len,k3.val,k3.own,k3.dis⟩
    have ry3:Reps K G3 vs ys:=ry.mono a1
    have s13:Same G1 G3:=s2.trans a1
    refine ht i _ ys Δ2 (List.getElem?_eq_getElem hlt) h2 ⟨g.B,G3,g.Hz,aside g sel σ Δ1 H1 acc vs⟩ G3 H3 σ2 x _ k3' a4 fun σ4 G4 H4 Δ4 k4 s4 e4 p4=>?_
    have hσ4:∀ j,n<=j -> σ4[j]? = (compSt n sel σ)[j]?:=fun j hj=>(e4 j hj).trans (hσ j hj)
    refine p4 _ G4 H4 σ4 _ k4 fun b G5 H5 Δ5 k5 s5 p5=>?_
    cases b with
    | false=>exact ⟨hlt,hσ4,G5,ys,vs,Δ5,by omega,ry3.mono (s4.trans s5),k5.base s13 hG3,p5⟩
    | true=>
     refine (show JE K te Δ5 _ from p5) _ G5 H5 σ4 _ k5 fun v d G6 H6 Δ6 k6 s6 r6 p6=>?_
     have ry6:Reps K G6 vs ys:=ry3.mono (s4.trans (s5.trans s6))
     obtain ⟨b1,b2,b3⟩:=hacc2 k6
     refine ⟨vs,b1,by rw [ry6.length]; omega,hlt,hσ4,G6,ys ++ [d],vs ++ [v],Δ6,by rw [List.length_append,List.length_singleton]; omega,ry6.append (.cons r6 .nil),?_,p6⟩
     have k7:=k6.base s13 hG3
     have oldH:∀ b o,b ≠ acc->H6 b=some o->(upd H6 acc (.lst (vs ++ [v]))) b=some o:=fun b o hb e=>by rw [Zao hb]; exact e
     have aNe:∀ b o,b ≠ acc->aside g sel σ Δ1 H1 acc (vs ++ [v]) b=some o->aside g sel σ Δ1 H1 acc vs b=some o:=fun b o hb e=>by
      unfold aside at e ⊢
      rw [if_neg hb] at e ⊢; exact e
     refine ⟨fun b o hb e=>?_,fun b hb=>?_,k7.sub,fun b o e=>?_,fun b o e=>?_,k7.len,k7.val,fun i x od e1 e2=>?_,k7.dis⟩
     ·have hne:b ≠ acc:=by
       intro z; subst z
       have e:g.Hz b=some o:=e
       rw [k1.there hacc] at e; cases e
      exact oldH b o hne (k7.same b o hb e)
     ·by_cases hne:b=acc
      ·subst hne; rw [Zat]; intro z; cases z
      ·rw [Zao hne]; exact k7.lent b hb
     ·have hne:b ≠ acc:=by intro z; subst z; rw [b2] at e; cases e
      exact ⟨oldH b o hne (k7.frz b o e).1,(k7.frz b o e).2⟩
     ·by_cases hne:b=acc
      ·subst hne
       have e:aside g sel σ Δ1 H1 b (vs ++ [v]) b=some o:=e
       unfold aside at e
       rw [if_pos rfl] at e
       cases e
       exact ⟨Zat,b2,b3⟩
      ·obtain ⟨w1,w2,w3⟩:=k7.ext b o (aNe b o hne e)
       exact ⟨oldH b o hne w1,w2,w3⟩
     ·obtain ⟨a,o,w1,w2,w3,w4,w5⟩:=k7.own i x od e1 e2
      have hne:a ≠ acc:=by intro z; subst z; exact b3 i x od e1 e2 w1
      exact ⟨a,o,w1,oldH a o hne w2,w3,w4,w5⟩
   ·have e:i=ds.length:=by omega
    subst e
    refine .inl ⟨stop,?_⟩
    obtain ⟨b1,b2,b3⟩:=hacc2 k2
    have src:=Zjb (Δ1:=Δ1) (Δ2:=Δ2) hσ
    have k9:Ok K g G2 H2 σ (backD n sel Δ2 0 Δ1):=Zik k1 hacc k2 hσ (fun b o hb hx e=>by show aside g sel σ Δ1 H1 acc vs b=_; unfold aside; rw [if_neg hb,if_pos hx]; exact e) (fun b o hb hx e=>by show aside g sel σ Δ1 H1 acc vs b=_; unfold aside; rw [if_neg hb,if_neg hx]; exact e)
    refine c acc _ G2 H2 _ k9 (s1.trans s2) ⟨.lst vs,b1,(show OwnRep K G2 (.lst vs) (.lst ys) from ry),b2,k1.there hacc,?_,fun i y od e1 e2 e3=>?_⟩ (he ys Δ2 h2)
    ·cases q:g.Xo acc with
     | none=>rfl
     | some u=>have z:=(k1.ext acc u q).1; rw [hacc] at z; cases z
    ·obtain ⟨x',od1,f1,f2,_⟩:=src i y od e1 e2
     exact nacc i x' od1 f1 f2 e3
theorem Zg9 {n:Nat} {sel:List Nat} {wi:TI} {t:TG} {tc:TT} {te:TE} {P:D->Evt->Prop} (hsel:sel.Nodup)
  (h:JI K wi Δ fun ds Δ1=>ds.length < sizeLine/\∃ I:Nat->List D->Evt->Prop,I 0 [] (compD n sel Δ1) ∧
   (∀ i d ys Δ2,ds[i]? = some d->I i ys Δ2->JGn K n t d Δ2 fun Δ3=>JT K tc Δ3 fun b Δ4=>if b=true then JE K te Δ4 fun e Δ5=>I (i + 1) (ys ++ [e]) Δ5 else I (i + 1) ys Δ4) ∧
   ∀ ys Δ2,I ds.length ys Δ2->P (.lst ys) (backD n sel Δ2 0 Δ1)):JE K (tComp n sel wi t tc te) Δ P:=
 Zcs (Zm4 hsel fun g G H σ R k c=>h g G H σ R k fun J ds G' H' Δ' k' s' it ⟨z,I,h0,ht,he⟩=>c J ds G' H' Δ' k' s' it ⟨z,I,h0,ht,fun ys Δ2 q=>⟨ys,rfl,he ys Δ2 q⟩⟩)
theorem Zhc {n:Nat} {sel:List Nat} {wi:TI} {t:TG} {tc:TT} {te:TE} {P:D->Evt->Prop} (hsel:sel.Nodup)
  (h:JI K wi Δ fun ds Δ1=>ds.length < sizeLine/\∃ (fix:Evt) (p:D->Bool) (f:D->D),compD n sel Δ1=List.replicate n .any ++ fix ∧
   (∀ (i:Nat) d (ts:Evt),ds[i]? = some d->ts.length=n->JGn K n t d (ts ++ fix) fun Δ3=>JT K tc Δ3 fun b Δ4=>b=p d/\if b=true then JE K te Δ4 fun e Δ5=>e=f d/\∃ ts',ts'.length=n /\ Δ5=ts' ++ fix else ∃ ts',ts'.length=n /\ Δ4=ts' ++ fix) ∧
   P (.lst ((ds.filter p).map f)) (backD n sel (List.replicate n .any ++ fix) 0 Δ1)):JE K (tComp n sel wi t tc te) Δ P:=by
 refine Zg9 hsel fun g G H σ R k c=>h g G H σ R k fun J ds G' H' Δ' k' s' it ⟨z,fix,p,f,e0,ht,he⟩=>c J ds G' H' Δ' k' s' it ⟨z,fun i ys Δ=>ys=((ds.take i).filter p).map f/\∃ ts:Evt,ts.length=n /\ Δ = ts ++ fix,?_,?_,?_⟩
 ·exact ⟨by simp,_,by simp,e0⟩
 ·rintro i d ys Δ2 hd ⟨rfl,ts,hts,rfl⟩
  have tk:ds.take (i + 1)=ds.take i ++ [d]:=by
   rw [List.take_add_one,hd]; rfl
  intro g G H σ v R k r c
  refine ht i d ts hd hts g G H σ v R k r fun σ' G' H' Δ' k' s' e' q=>c σ' G' H' Δ' k' s' e' fun g G H σ Q k c=>q g G H σ Q k fun b G' H' Δ' k' s' ⟨eb,q⟩=>c b G' H' Δ' k' s' ?_
  cases b with
  | true=>
   rw [if_pos rfl] at q ⊢
   refine q.mono fun e Δ5 ⟨e1,ts',h1,h2⟩=>⟨?_,ts',h1,h2⟩
   rw [tk,List.filter_append,List.map_append,List.filter_cons,<- eb,e1]
   rfl
  | false=>
   rw [if_neg Bool.false_ne_true] at q ⊢
   obtain ⟨ts',h1,h2⟩:=q
   refine ⟨?_,ts',h1,h2⟩
   rw [tk,List.filter_append,List.map_append,List.filter_cons,<- eb]
   simp
 ·rintro ys Δ2 ⟨rfl,ts,hts,rfl⟩
  rw [List.take_length]
  have e:backD n sel (ts ++ fix) 0 Δ' = backD n sel (List.replicate n .any ++ fix) 0 Δ':=by
   apply List.ext_getElem?
   intro i
   rw [Zdh,Zdh]
   congr 1
   funext x
   unfold backAt
   have e2:∀ j,(ts ++ fix)[n + j]? = (List.replicate n Slot.any ++ fix)[n + j]?:=fun j=>by
    rw [List.getElem?_append_right (by omega),List.getElem?_append_right (by simp),hts,List.length_replicate]
   simp only [e2]
  rw [e]
  exact he
end
end L2
set_option Elab.async false
set_option linter.all false
set_option maxRecDepth 100000
namespace HT
open PySem PyProof.Rows
section
variable {prog:Program} {w:World} {A:Around} {E:Value->Shared->Prop} {s:Shared}
theorem getItem_tuple_whole {t sl:Addr} {items:Array Value} {vl vu:Value} {lo hi:Option Int} {Q:Value->Shared->Prop} (ht:IsTup s.heap t items) (hs:s.heap.IsSliceOf sl vl vu .none) (pl:IsPart vl lo) (pu:IsPart vu hi)
  (hw:sIx items.size 0 lo=0/\sIx items.size items.size hi=items.size) (h:Q (.ref t) s):wpAny (model prog w) A (getItem (.ref t) (.ref sl)) Q E s:=by
 obtain ⟨os,hos,hcs,hds⟩:=id hs
 have hTs:s.TypeIs (.ref sl) "slice":=⟨os,hos,hcs⟩
 unfold getItem
 try with_reducible refine wpAny_holding ?_
 first | refine wpAny_bind (wpAny_pure ?_) | skip
 refine wpAny_bind (wpAny_sequenceKey ht.typeIs (by decide) ?_)
 refine wpAny_bind (wpAny_callSpecial?_slot (name:=Str.ofString "__getitem__") ht.typeIs PyProof.Rows.slot_tuple_getitem
  (wpAny_call_entry PyProof.Rows.slot_tuple_getitem ht.typeIs entry_tuple_getitem ?_ (args_tuple_getitem _ _)))
 show wpAny _ _ (Builtin.Tuple.tupleItemsOf (.ref t) >>= _) _ _ s
 refine wpAny_bind (tupleItemsOf_ ht ?_)
 refine wpAny_bind (wpAny_typeOf hTs ?_)
 rw [if_pos (by decide)]
 refine wpAny_bind (Zdr hs pl pu ?_)
 have hyes:(((sIx items.size 0 lo:Nat):Int) == 0 && (1:Int) == 1 && (sIx items.size items.size hi - sIx items.size 0 lo) == items.size)=true:=by
  rw [hw.1,hw.2]; simp
 show wpAny _ _ (if (((sIx items.size 0 lo:Nat):Int) == 0 && (1:Int) == 1 && (sIx items.size items.size hi - sIx items.size 0 lo) == items.size)=true then _ else _) _ _ s
 rw [if_pos hyes]
 first
  | exact wpAny_pure ⟨_,rfl,wpAny_pure h⟩
  | exact wpAny_pure ⟨_,rfl,h⟩
  | exact wpAny_bind (wpAny_pure (wpAny_pure ⟨_,rfl,wpAny_pure h⟩))
  | (refine wpAny_bind (wpAny_bind (wpAny_typeOf ht.typeIs (wpAny_pure ?_)))
     rw [if_pos (by decide)]
     exact wpAny_bind (wpAny_rule (wpAny_pure ⟨_,rfl,wpAny_pure h⟩)))
theorem Ze8 {sl:Addr} {t:Tok} {n:Nat} {Q:Int × Int × Nat->Shared->Prop} (hs:s.heap.IsSliceOf sl .none .none (.int (-1) t))
  (h:Q (((n:Int) - 1),-1,n) s):wpAny (model prog w) A (Builtin.Slice.sliceApplied (.ref sl) (pure (n:Int))) Q E s:=by
 obtain ⟨os,hos,hcs,hds⟩:=id hs
 unfold Builtin.Slice.sliceApplied Builtin.Slice.sliceFields
 refine wpAny_bind (wpAny_bind (wpAny_field hos hds (x:=.none) rfl (wpAny_bind (wpAny_field hos hds (x:=.none) rfl (wpAny_bind (wpAny_field hos hds (x:=.int (-1) t) rfl (wpAny_pure ?_)))))))
 refine wpAny_bind (Zex (.int (-1) t) ?_)
 show wpAny _ _ (if ((-1:Int) == 0)=true then _ else _) _ _ s
 rw [if_neg (by decide)]
 refine wpAny_bind (slicePart_none (wpAny_bind (slicePart_none (wpAny_bind (wpAny_pure ?_)))))
 have e:Builtin.Slice.sliceAdjust none none (-1) (n:Int)=((n:Int) - 1,-1):=by
  simp [Builtin.Slice.sliceAdjust]
 show wpAny _ _ (match Builtin.Slice.sliceAdjust none none (-1) (n:Int) with | (lo,hi)=>pure (lo,(-1:Int),Builtin.Slice.slicePlaces lo hi (-1))) _ _ s
 rw [e]
 have e2:Builtin.Slice.slicePlaces ((n:Int) - 1) (-1) (-1)=n:=by
  unfold Builtin.Slice.slicePlaces
  rw [if_neg (by decide)]
  by_cases hn:n=0
  ·subst hn; rfl
  ·rw [if_pos (by omega),show (n:Int) - 1 - -1 - 1=(n:Int) - 1 by omega,show -(-1:Int)=1 by rfl,Int.ediv_one]
   omega
 show wpAny _ _ (pure ((n:Int) - 1,(-1:Int),Builtin.Slice.slicePlaces ((n:Int) - 1) (-1) (-1))) _ _ s
 rw [e2]
 exact wpAny_pure h
theorem Zod (xs:Array Value):((List.range xs.size).filterMap fun (m:Nat)=>xs[(((xs.size:Int) - 1) + (m:Int) * -1).toNat]?).toArray=xs.toList.reverse.toArray:=by
 congr 1
 apply List.ext_getElem?
 intro i
 have key:∀ (l:List Nat),(∀ m ∈ l,m < xs.size)->(l.filterMap fun (m:Nat)=>xs[(((xs.size:Int) - 1) + (m:Int) * -1).toNat]?)=l.map fun m=>xs.toList.reverse.getD m .none:=by
  intro l
  induction l with
  | nil=>intro _; rfl
  | cons a r ih=>
   intro h
   have ha:=h a List.mem_cons_self
   have e:(((xs.size:Int) - 1) + (a:Int) * -1).toNat=xs.size - 1 - a:=by omega
   have e2:xs[(((xs.size:Int) - 1) + (a:Int) * -1).toNat]? = some (xs.toList.reverse.getD a .none):=by
    rw [e,List.getD_eq_getElem?_getD,List.getElem?_reverse (by simpa using ha)]
    simp only [Array.length_toList,Array.getElem?_toList]
    rw [Array.getElem?_eq_getElem (by omega)]
    rfl
   rw [List.filterMap_cons,e2,List.map_cons,ih fun m hm=>h m (List.mem_cons_of_mem _ hm)]
 rw [key _ (fun m hm=>List.mem_range.mp hm),List.getElem?_map]
 by_cases hi:i < xs.size
 ·rw [List.getElem?_range hi,List.getElem?_eq_getElem (by simpa using hi)]
  simp [List.getD_eq_getElem?_getD,hi]
 ·rw [List.getElem?_eq_none (by simpa using hi),List.getElem?_eq_none (by simpa using hi)]
  rfl
theorem getItem_tuple_rev {t sl:Addr} {items:Array Value} {tk:Tok} {Q:Value->Shared->Prop} (ht:IsTup s.heap t items) (hs:s.heap.IsSliceOf sl .none .none (.int (-1) tk))
  (h:Q (.ref s.heap.objs.size) { s with heap:=s.heap.push { cls:=.type "tuple",data:=.seq items.toList.reverse.toArray } })
  (hsz:items.size<=sizeLine):wpAny (model prog w) A (getItem (.ref t) (.ref sl)) Q E s:=by
 have htake:sizeOk (.seq items.toList.reverse.toArray):=by
  show items.toList.reverse.toArray.size<=sizeLine
  simpa using hsz
 obtain ⟨os,hos,hcs,hds⟩:=id hs
 have hTs:s.TypeIs (.ref sl) "slice":=⟨os,hos,hcs⟩
 unfold getItem
 try with_reducible refine wpAny_holding ?_
 first | refine wpAny_bind (wpAny_pure ?_) | skip
 refine wpAny_bind (wpAny_sequenceKey ht.typeIs (by decide) ?_)
 refine wpAny_bind (wpAny_callSpecial?_slot (name:=Str.ofString "__getitem__") ht.typeIs PyProof.Rows.slot_tuple_getitem
  (wpAny_call_entry PyProof.Rows.slot_tuple_getitem ht.typeIs entry_tuple_getitem ?_ (args_tuple_getitem _ _)))
 show wpAny _ _ (Builtin.Tuple.tupleItemsOf (.ref t) >>= _) _ _ s
 refine wpAny_bind (tupleItemsOf_ ht ?_)
 refine wpAny_bind (wpAny_typeOf hTs ?_)
 rw [if_pos (by decide)]
 refine wpAny_bind (Ze8 (n:=items.size) hs ?_)
 have hno:¬ ((((items.size:Int) - 1) == 0 && (-1:Int) == 1 && items.size == items.size)=true):=by simp
 show wpAny _ _ (if ((((items.size:Int) - 1) == 0 && (-1:Int) == 1 && items.size == items.size))=true then _ else _) _ _ s
 rw [if_neg hno,Zod]
 first
  | exact wpAny_bind (m:=Builtin.Tuple.tupleExact _) (wpAny_newObj_type (wpAny_pure ⟨_,rfl,wpAny_pure h⟩) htake)
  | exact wpAny_bind (m:=Builtin.Tuple.tupleExact _) (wpAny_newObj_type (wpAny_bind (wpAny_pure (wpAny_pure ⟨_,rfl,wpAny_pure h⟩))) htake)
  | exact wpAny_bind (wpAny_bind (m:=Builtin.Tuple.tupleExact _) (wpAny_newObj_type (wpAny_pure (wpAny_pure ⟨_,rfl,wpAny_pure h⟩)) htake))
  | exact wpAny_bind (wpAny_bind (m:=Builtin.Tuple.tupleExact _) (wpAny_newObj_type (wpAny_pure ⟨_,rfl,wpAny_pure h⟩) htake))
end
end HT
namespace L2
open PySem PySem.Spec PyProof.Rows
section
variable {X:Cx}
def rSlT' (K:PySem.W.Frag):V->Option Int->Option Int->Hp->VK->Prop:=fun x lo hi H Q=>∃ a xs,x=.ref a/\SqT K H a xs ∧
 ((HT.sIx xs.length 0 lo=0/\HT.sIx xs.length xs.length hi=xs.length)->Q (.ref a) H) ∧
 (¬ (HT.sIx xs.length 0 lo=0/\HT.sIx xs.length xs.length hi=xs.length)->∀ p,H p=none->Q (.ref p) (upd H p (.tup (cutV xs lo hi))))
theorem Zrk:SlR X (rSlT' X.K):=by
 intro pins s σ H x v vl vu lo hi sl Q I rx hs pl pu h
 obtain ⟨a,xs,rfl,hx,q1,q2⟩:=h
 by_cases hw:HT.sIx xs.length 0 lo=0/\HT.sIx xs.length xs.length hi=xs.length
 ·cases rx
  obtain ⟨its,r,ht,hz⟩:=I.tuple hx
  have hlen:its.toArray.size=xs.length:=by rw [List.size_toArray]; exact r.length.symm
  exact ⟨"tuple",_,PyProof.Rows.slot_tuple_getitem.lookup,ht.typeIs,HT.getItem_tuple_whole ht hs pl pu (by rw [hlen]; exact hw) ⟨.ref a,H,I,rfl,q1 hw⟩⟩
 ·exact Zr1 pins s σ H (.ref a) v vl vu lo hi sl Q I rx hs pl pu ⟨a,xs,rfl,hx,hw,q2 hw⟩
def rSlU (K:PySem.W.Frag):V->Option Int->Option Int->Hp->VK->Prop:=fun x lo hi H Q=>rSlL K x lo hi H Q\/rSlT' K x lo hi H Q
theorem slU:SlR X (rSlU X.K):=Zrb.or Zrk
def tSlR (K:PySem.W.Frag) (te:TE):TE:=fun σ H Q=>te σ H fun x H1=>∃ a xs,x=.ref a/\SqT K H1 a xs/\∀ p,H1 p=none->Q (.ref p) (upd H1 p (.tup xs.reverse))
theorem Zk4 {e:Expr} {te:TE} {pos p2 p3 p4:Pos} {k:Nat} (he:PE X e te):PE X (.Subscript e (.Slice none none (some (.UnaryOp .USub (.Constant (.int 1) k p4) p3)) p2) pos) (tSlR X.K te):=by
 intro pins s σ H Q I h
 refine Subscript_ (thn (he pins s σ H _ I h) fun v s1 ⟨x,H1,I1,r1,q1⟩=>?_)
 obtain ⟨a,xs,rfl,hx,q⟩:=q1
 cases r1
 refine wpAny_Slice ?_
 rw [evalPart_none]
 refine wpAny_pure (wpAny_pure ?_)
 have st:=Zby (X:=X) (Zrx Zo8 (Zae (X:=X) (i:=1) (j:=k) (pos:=p4))) (e:=.UnaryOp .USub (.Constant (.int 1) k p4) p3) pins s1 σ H1 (fun o H2=>o=some (-1)/\H2=H1) I1 ⟨1,rfl,-1,rfl,rfl,rfl⟩
 refine thn st fun u s2 ⟨o,H2,I2,pu,e1,e2⟩=>?_
 subst e1; subst e2
 cases pu with
 | int i t=>
  have I3:Inv X pins σ H2 { s2 with heap:=s2.heap.push { cls:=.type "slice",data:=.fields #[.none,.none,.int (-1) t] } }:=I2.kept (t':=s2.toks) fun b ob q=>Heap.get?_push_of_some _ q
  obtain ⟨its,r,ht,hz⟩:=I3.tuple hx
  show wpAny (model X.prog X.w) X.A (subscriptTail e (.Slice none none (some (.UnaryOp .USub (.Constant (.int 1) k p4) p3)) p2) (.ref a) (.ref s2.heap.objs.size)) (EP X pins σ Q) X.xe { s2 with heap:=s2.heap.push { cls:=.type "slice",data:=.fields #[.none,.none,.int (-1) t] } }
  refine tail_any (ops:=[.ref a,.ref s2.heap.objs.size]) ht.typeIs PyProof.Rows.slot_tuple_getitem.lookup (HT.getItem_tuple_rev ht (tk:=t) (Heap.IsSliceOf.new ..) ?_ (by rw [List.size_toArray,<- r.length]; exact hz)) (by with_unfolding_all rfl)
  refine ⟨.ref _,_,I3.laid (t':=s2.toks) (o:=.tup xs.reverse) (fun b ob q=>Heap.get?_push_of_some _ q) (Nat.le_refl _) ?_,rfl,q _ (I3.hok.fresh (Nat.le_refl _))⟩
  exact ⟨by rw [List.length_reverse]; exact hz,_,r.reverse,IsTupN.new _ _⟩
def rCatT' (K:PySem.W.Frag):R2:=fun x y H Q=>∃ a b xs ys,x=.ref a/\y=.ref b/\SqT K H a xs/\SqT K H b ys/\xs.length + ys.length<=sizeLine ∧
 (xs=[]->Q (.ref b) H)/\(xs ≠ []->ys=[]->Q (.ref a) H)/\(xs ≠ []->ys ≠ []->∀ p,H p=none->Q (.ref p) (upd H p (.tup (xs ++ ys))))
theorem Zoh:OpR X (binaryOp .Add) (rCatT' X.K):=by
 intro pins s σ H x y v u Q I rx ry h
 obtain ⟨a,b,xs,ys,rfl,rfl,ha,hb,hz,q0,q1,q2⟩:=h
 by_cases hx:xs=[]
 ·cases rx
  cases ry
  obtain ⟨its,r1,p1,_⟩:=I.tuple ha
  obtain ⟨its2,r2,p2,_⟩:=I.tuple hb
  obtain ⟨⟨cls,dd,data,sl⟩,ho,hc,n,hd⟩:=id p1
  obtain ⟨⟨cls2,dd2,data2,sl2⟩,ho2,hc2,n2,hd2⟩:=id p2
  simp only at hc hd hc2 hd2
  subst hc hd hc2 hd2
  exact concat_meets ⟨_,ho,rfl⟩ ⟨_,ho2,rfl⟩ noFill_tuple_add seq_tuple_add PySem.F.slot_tuple_add PySem.F.entry_tuple_add (PySem.F.args_tuple_add_2 _ _)
   (tuple_addW0 a b its.toArray its2.toArray n n2 dd dd2 sl sl2 (by simp [r1.nil_iff.mpr hx])) ⟨ho,ho2,⟨.ref b,H,I,rfl,q0 hx⟩⟩
 ·exact Zrn pins s σ H (.ref a) (.ref b) v u Q I rx ry ⟨a,b,xs,ys,rfl,rfl,ha,hb,hx,hz,q1 hx,q2 hx⟩
def rAddU (K:PySem.W.Frag):R2:=fun x y H Q=>rI0 (fun i j=>.int (i + j)) x y H Q\/(rCatT' K x y H Q\/rCat x y H Q)
theorem Zrd:OpR X (binaryOp .Add) (rAddU X.K):=Zsg.or (Zoh.or Zs6)
theorem Zbx:OpR X (compareOp .Eq) rEq:=Zt6
theorem Zds:OpR X (compareOp .NotEq) rNe:=Zty
def rIxD:R2:=fun x y H Q=>∃ a v,x=.ref a/\DGet H a y (some v)/\Q v H
theorem Zp7 (hu:X.A.units + 1 < cLine):IxR X rIxD:=by
 intro value slice pins s σ H x y v u Q I rx ry h hs
 obtain ⟨a,w',rfl,g,q⟩:=h
 cases rx
 exact tail_any (Zi5 I g) PySem.F.slot_dict_getitem.lookup (Zmn hu I g ry fun w2 s3 I3 rw'=>⟨w',H,I3,rw',q⟩) hs
def rIxU (K:PySem.W.Frag):R2:=fun x y H Q=>rIx K x y H Q\/rIxD x y H Q
theorem ixU (hu:X.A.units + 1 < cLine):IxR X (rIxU X.K):=Zr2.or (Zp7 hu)
def rSetD:V->V->V->Hp->(Hp->Prop)->Prop:=fun o i v H Q=>∃ a H',o=.ref a/\DPut H a i v H' /\ Q H'
theorem Zoa (hu:X.A.units + 1 < cLine):PSet X rSetD:=by
 intro pins s σ H o i v ov iv u Q I ro ri rv h
 obtain ⟨a,H',rfl,g,q⟩:=h
 cases ro
 exact Zl9 hu I g ri rv fun s' I'=>⟨H',I',q⟩
theorem PSet.or {t t':TSet} (h:PSet X t) (h':PSet X t'):PSet X (fun o i v H Q=>t o i v H Q\/t' o i v H Q):=by
 intro pins s σ H o i v ov iv u Q I ro ri rv q
 rcases q with q | q
 ·exact h pins s σ H o i v ov iv u Q I ro ri rv q
 ·exact h' pins s σ H o i v ov iv u Q I ro ri rv q
def rSetU:V->V->V->Hp->(Hp->Prop)->Prop:=fun o i v H Q=>rSetL o i v H Q\/rSetD o i v H Q
theorem setU (hu:X.A.units + 1 < cLine):PSet X rSetU:=Zns.or (Zoa hu)
def rLenU (K:PySem.W.Frag):List V->Hp->VK->Prop:=fun xs H Q=>(∃ p ys,xs=[.ref p]/\(SqL K H p ys\/SqT K H p ys)/\Q (.int ys.length) H)\/∃ a kvs,xs=[V.ref a]/\H a=some (.dK kvs)/\Q (.int kvs.length) H
theorem Zmv:CallR X (.builtin "len") (rLenU X.K):=Zh1.or Zmp
def rIsi (K:PySem.W.Frag):List V->Hp->VK->Prop:=fun xs H Q=>∃ x n t b,xs=[x,.ty n]/\TyOf K H x t/\PySem.W.kitOne K t (.type n)=some b/\Q (.bl b) H
theorem Zij:CallR X (.builtin "isinstance") (rIsi X.K):=by
 intro pins s σ H xs us Q I r h
 obtain ⟨x,n,t,b,rfl,ty,e,q⟩:=h
 obtain ⟨u,u',rfl,rx,rn⟩:=vals2 r
 cases (show u' = Value.type n from rn)
 exact Zly I rx ty e fun tk=>⟨.bl b,H,I.tok _,rfl,q⟩
def insI (n:Nat) (i:Int):Nat:=if i < 0 then (i + (n:Int)).toNat else min i.toNat n
def rInsert:V->List V->Hp->VK->Prop:=fun x vs H Q=>∃ l xs i y,x=.ref l/\vs=[.int i,y]/\H l=some (.lst xs)/\xs.length < sizeLine /\ -(2 ^ 62)<=i/\i < 2 ^ 62/\Q .non (upd H l (.lst (xs.take (insI xs.length i) ++ y :: xs.drop (insI xs.length i))))
theorem Zhm:MtM X "list.insert" rInsert:=by
 intro pins s σ H x vs v us Q I rx rv h
 obtain ⟨l,xs,i,y,rfl,rfl,hH,hz,h1,h2,q⟩:=h
 cases rx
 obtain ⟨ui,uy,rfl,⟨t,rfl⟩,ry⟩:=rv.two
 obtain ⟨z,its,n,r,hl,e⟩:=I.lstM hH
 refine call_meets F.slot_list_insert ⟨_,e,rfl⟩ F.entry_list_insert (F.args_list_insert_3 _ _ _) (PySem.AutoSeq1.list_insert_list_int_val_1 l its.toArray n i t uy (by
  have hf:Builtin.List.listFitsIndex i=true:=by
   unfold Builtin.List.listFitsIndex
   rw [decide_eq_true (by omega),decide_eq_true (by omega)]
   rfl
  rw [hf]; decide) (by rw [List.size_toArray]; omega)) ⟨e,?_⟩
 refine ⟨.non,_,I.lset (its':=its.take (insI xs.length i) ++ uy :: its.drop (insI xs.length i)) hH e ?_ ((r.take _).append (.cons ry (r.drop _))) ?_,rfl,q⟩
 ·have e1:(if i < 0 then (i + (its.toArray.size:Int)).toNat else min i.toNat its.toArray.size)=insI xs.length i:=by
   unfold insI; rw [List.size_toArray,hl]
  dsimp only
  rw [e1]
  apply Array.ext'
  simp
  rw [List.take_of_length_le (by rw [List.length_drop]; exact Nat.le_refl _)]
 ·rw [List.length_append,List.length_cons,List.length_take,List.length_drop]
  omega
def rIndexT (K:PySem.W.Frag):V->List V->Hp->VK->Prop:=fun x vs H Q=>∃ a xs y j,x=.ref a/\vs=[y]/\SqT K H a xs/\flatV y=true/\xs.all flatV=true/\j < xs.length ∧
 (∃ z,xs[j]? = some z/\eqV z y=true)/\(∀ m z,m < j->xs[m]? = some z->eqV z y=false)/\Q (.int j) H
end
end L2
namespace L2
open PySem PySem.Spec PyProof.Rows
section
variable {X:Cx}
theorem PI.or {tg iter:Expr} {w w':TI} (h:PI X tg iter w) (h':PI X tg iter w'):PI X tg iter (fun σ H R=>w σ H R\/w' σ H R):=by
 intro pins s σ H R I q
 rcases q with q | q
 ·exact h pins s σ H R I q
 ·exact h' pins s σ H R I q
def iSeq (K:PySem.W.Frag) (tl:TE):TI:=fun σ H R=>iList K tl σ H R\/iTup K tl σ H R
theorem Ztq {tg l:Expr} {tl:TE} (hl:PE X l tl):PI X tg l (iSeq X.K tl):=(Zpr hl).or (Zsk hl)
def tTru (K:PySem.W.Frag) (ta:TE):TT:=fun σ H Q=>ta σ H fun x H'=>∃ k,TruV K x H' k/\Q k H'
theorem Zso {a:Expr} {ta:TE} (ha:PE X a ta) (he:∀ whole,isTrue a X.env whole=(do let v ← whole; standAt a.pos; holding [v] (truthy v))):PT X a (tTru X.K ta):=Zoj ha he
end
section
variable {K:PySem.W.Frag} {Δ:Evt} {P:D->Evt->Prop}
theorem Zcc {i j:Int} (p:P (.int (i + j)) Δ):JR2 K (rAddU K) (.int i) (.int j) Δ P:=fun g G H σ Q x y k rx ry c=>by
 cases rx.inv; cases ry.inv
 exact .inl ⟨i,j,rfl,rfl,c _ _ G H Δ k (Same.refl _) (.int _) p⟩
theorem Zih {ds es:List D} (hz:ds.length + es.length<=sizeLine) (p:P (.tup (ds ++ es)) Δ):JR2 K (rAddU K) (.tup ds) (.tup es) Δ P:=fun g G H σ Q x y k rx ry c=>by
 cases rx with
 | tup ha ra=>
  cases ry with
  | tup hb rb=>
   refine .inr (.inl ⟨_,_,_,_,rfl,rfl,SqT.of (k.live _ _ ha),SqT.of (k.live _ _ hb),by rw [ra.length,rb.length]; exact hz,fun e=>?_,fun _ e=>?_,fun _ _ q hq=>?_⟩)
   ·subst e; cases ra; exact c _ _ G H Δ k (Same.refl _) (.tup hb rb) p
   ·subst e; cases rb; rw [List.append_nil] at p; exact c _ _ G H Δ k (Same.refl _) (.tup ha ra) p
   ·obtain ⟨k2,sg⟩:=k.laid hq (.tup _)
    exact c _ _ _ _ Δ k2 sg (.tup Zat ((ra.append rb).mono sg)) p
theorem Zre {ds es:List D} (hz:ds.length + es.length<=sizeLine) (p:P (.lst (ds ++ es)) Δ):JR2 K (rAddU K) (.lst ds) (.lst es) Δ P:=fun g G H σ Q x y k rx ry c=>by
 obtain ⟨_,_,rfl,ha,ra⟩:=rx.inv
 next=>
  obtain ⟨_,_,rfl,hb,rb⟩:=ry.inv
  next=>
   refine .inr (.inr ⟨_,_,_,_,rfl,rfl,k.live _ _ ha,k.live _ _ hb,by rw [ra.length,rb.length]; exact hz,fun q hq=>?_⟩)
   obtain ⟨k2,sg⟩:=k.laid hq (.lst _)
   exact c _ _ _ _ Δ k2 sg (.lst Zat ((ra.append rb).mono sg)) p
theorem Zez {ds:List D} {i:Int} {d:D} (h:atI ds i=some d) (p:P d Δ):JR2 K (rIxU K) (.tup ds) (.int i) Δ P:=fun g G H σ Q x y k rx ry c=>
 .inl (.inr (.inl (Ztp h p g G H σ Q x y k rx ry c)))
theorem Zcd {ds:List D} {i:Int} {d:D} (h:atI ds i=some d) (p:P d Δ):JR2 K (rIxU K) (.lst ds) (.int i) Δ P:=fun g G H σ Q x y k rx ry c=>
 .inl (.inl (Zr6 h p g G H σ Q x y k rx ry c))
theorem Zcz {n:Nat} {tb:TE} {x:Slot} {ds:List D} (hx:Δ[n]? = some x) (ho:x.od=some (.lst ds)) (h:JE K tb Δ fun e Δ1=>∃ y es i d,Δ1[n]? = some y/\y.od=some (.lst es)/\e=.int i/\atI es i=some d/\P d Δ1):JE K (tOp (rIxU K) (tVar n) tb) Δ P:=fun g G H σ Q k c=>by
 obtain ⟨a,o,h1,h2,h3,h4,h5⟩:=k.own n x _ hx ho
 refine ⟨.ref a,h1,h g G H σ _ k fun v e G1 H1 Δ1 k1 s1 r1 ⟨y,es,i,d,q1,q2,q3,q4,p⟩=>?_⟩
 subst q3
 cases r1.inv
 obtain ⟨a',o',w1,w2,w3,w4,w5⟩:=k1.own n y _ q1 q2
 rw [h1] at w1; cases w1
 cases o' with
 | lst vs=>
  obtain ⟨u,z1,z2⟩:=Zg0 (show Reps K G1 vs es from w3) q4
  exact .inl (.inl ⟨a,vs,i,u,rfl,rfl,SqL.of w2,z1,c u d G1 H1 Δ1 k1 s1 z2 p⟩)
 | _=>exact absurd w3 (fun z=>z)
theorem Zk1 {n:Nat} {ti te:TE} {Pp:Pst} (h:JE K te Δ fun d Δ1=>(∃ x od,Δ1[n]? = some x/\x.od=some od)/\JE K ti Δ1 fun e Δ2=>∃ x ds i j,Δ2[n]? = some x/\x.od=some (.lst ds)/\e=.int i/\ixN ds.length i=some j/\Pp.nx (Δ2.set n (x.put (.lst (ds.set j d))))) :
  JS K (tAsg te (gSub (tVar n) ti rSetU)) Δ Pp:=fun g G H σ E k c=>
 h g G H σ _ k fun v d G1 H1 Δ1 k1 s1 r1 hq_=>by
  obtain ⟨⟨x,od,hx,ho⟩,p1⟩:=hq_
  obtain ⟨a,o,h1,h2,h3,h4,h5⟩:=k1.own n x _ hx ho
  refine ⟨.ref a,h1,p1 g G1 H1 σ _ k1 fun u e G2 H2 Δ2 k2 s2 r2 ⟨y,ds,i,j,q1,q2,q3,q4,p⟩=>?_⟩
  subst q3
  cases r2.inv
  obtain ⟨a',o',w1,w2,w3,w4,w5⟩:=k2.own n y _ q1 q2
  rw [h1] at w1; cases w1
  cases o' with
  | lst vs=>
   have w3:Reps K G2 vs ds:=w3
   exact .inl ⟨a,vs,i,j,rfl,rfl,w2,by rw [w3.length]; exact q4,c.nx σ G2 _ _ (k2.write q1 q2 h1 (show OwnRep K G2 (.lst (vs.set j v)) (.lst (ds.set j d)) from w3.set j (r1.mono s2))) p⟩
  | _=>exact absurd w3 (fun z=>z)
def valD (kvs:List (Key × D)) (k:Key):Option D:=(kvs.find? fun kv=>decide (kv.1=k)).map (·.2)
def putD (kvs:List (Key × D)) (k:Key) (v:D):List (Key × D):=if (kvs.any fun kv=>decide (kv.1=k))=true then kvs.map (fun kv=>if kv.1=k then (kv.1,v) else kv) else kvs ++ [(k,v)]
theorem Zio {G:Hp} {k:Key} {d:D}:∀ {kvs:List (Key × V)} {kds:List (Key × D)},Paired (fun (p:Key × V) (q:Key × D)=>p.1=q.1/\Rep K G p.2 q.2) kvs kds->valD kds k=some d->∃ v,valV kvs k=some v/\Rep K G v d
 | _,_,.nil,h=>by cases h
 | (k1,v1) :: kvs,(k2,d2) :: kds,.cons ⟨e,r⟩ t,h=>by
  have e:k1=k2:=e
  subst e
  by_cases hk:k1=k
  ·subst hk
   have h:some d2=some d:=by simpa [valD,List.find?_cons] using h
   cases h
   exact ⟨v1,Zfg rfl,r⟩
  ·have h:valD kds k=some d:=by simpa [valD,List.find?_cons,hk] using h
   obtain ⟨v,h1,h2⟩:=Zio t h
   exact ⟨v,by rw [Zfe hk]; exact h1,h2⟩
theorem Zmy {G:Hp} {k:Key}:∀ {kvs:List (Key × V)} {kds:List (Key × D)},Paired (fun (p:Key × V) (q:Key × D)=>p.1=q.1/\Rep K G p.2 q.2) kvs kds->(kvs.any fun kv=>decide (kv.1=k))=(kds.any fun kv=>decide (kv.1=k))
 | _,_,.nil=>rfl
 | _ :: _,_ :: _,.cons ⟨e,_⟩ t=>by rw [List.any_cons,List.any_cons,Zmy t,e]
theorem Zld {G:Hp} {k:Key} {v:V} {d:D} (rv:Rep K G v d):∀ {kvs:List (Key × V)} {kds:List (Key × D)},Paired (fun (p:Key × V) (q:Key × D)=>p.1=q.1/\Rep K G p.2 q.2) kvs kds →
  Paired (fun (p:Key × V) (q:Key × D)=>p.1=q.1/\Rep K G p.2 q.2) (kvs.map fun kv=>if kv.1=k then (kv.1,v) else kv) (kds.map fun kv=>if kv.1=k then (kv.1,d) else kv)
 | _,_,.nil=>.nil
 | (k1,v1) :: kvs,(k2,d2) :: kds,.cons ⟨e,r⟩ t=>by
  have e:k1=k2:=e
  subst e
  rw [List.map_cons,List.map_cons]
  refine .cons ?_ (Zld rv t)
  by_cases hk:k1=k
  ·rw [if_pos hk,if_pos hk]; exact ⟨rfl,rv⟩
  ·rw [if_neg hk,if_neg hk]; exact ⟨rfl,r⟩
theorem Zq1 {G:Hp} {k:Key} {v:V} {d:D} {kvs:List (Key × V)} {kds:List (Key × D)} (rv:Rep K G v d) (h:Paired (fun (p:Key × V) (q:Key × D)=>p.1=q.1/\Rep K G p.2 q.2) kvs kds) :
  Paired (fun (p:Key × V) (q:Key × D)=>p.1=q.1/\Rep K G p.2 q.2) (putK kvs k v) (putD kds k d):=by
 unfold putK putD
 rw [Zmy h]
 split
 ·exact Zld rv h
 ·exact Paired.snoc h ⟨rfl,rv⟩
theorem Zro {n:Nat} {ti te:TE} {Pp:Pst} (h:JE K te Δ fun d Δ1=>(∃ x od,Δ1[n]? = some x/\x.od=some od)/\JE K ti Δ1 fun e Δ2=>∃ x kvs i,Δ2[n]? = some x/\x.od=some (.dct kvs)/\e=.int i/\kvs.length < sizeLine/\Pp.nx (Δ2.set n (x.put (.dct (putD kvs (.inl i) d))))) :
  JS K (tAsg te (gSub (tVar n) ti rSetU)) Δ Pp:=fun g G H σ E k c=>
 h g G H σ _ k fun v d G1 H1 Δ1 k1 s1 r1 hq_=>by
  obtain ⟨⟨x,od,hx,ho⟩,p1⟩:=hq_
  obtain ⟨a,o,h1,h2,h3,h4,h5⟩:=k1.own n x _ hx ho
  refine ⟨.ref a,h1,p1 g G1 H1 σ _ k1 fun u e G2 H2 Δ2 k2 s2 r2 ⟨y,kvs,i,q1,q2,q3,q4,p⟩=>?_⟩
  subst q3
  cases r2.inv
  obtain ⟨a',o',w1,w2,w3,w4,w5⟩:=k2.own n y _ q1 q2
  rw [h1] at w1; cases w1
  cases o' with
  | dK vs=>
   have w3':Paired (fun (p:Key × V) (q:Key × D)=>p.1=q.1/\Rep K G2 p.2 q.2) vs kvs:=w3
   exact .inr ⟨a,_,rfl,DPut.k (k:=Sum.inl i) w2 (by rw [Paired.length w3']; exact q4),c.nx σ G2 _ _ (k2.write q1 q2 h1 (show OwnRep K G2 (.dK (putK vs (.inl i) v)) (.dct (putD kvs (.inl i) d)) from Zq1 (r1.mono s2) w3')) p⟩
  | _=>exact absurd w3 (fun z=>z)
theorem Zbp {ds es:List D} (he:ds=[.lst es]\/ds=[.tup es]) (p:P (.int es.length) Δ):JC K (rLenU K) ds Δ P:=fun g G H σ Q vs k rs c=>.inl (Zsh he p g G H σ Q vs k rs c)
theorem Zhb {n:Nat} {x:Slot} {ds:List D} (hx:Δ[n]? = some x) (ho:x.od=some (.lst ds)) (p:P (.int ds.length) Δ):JE K (tCB (rLenU K) (tCons (tVar n) tNil)) Δ P:=fun g G H σ Q k c=>by
 obtain ⟨v,h1,h2⟩:=Zpx hx ho p g G H σ Q k c
 exact ⟨v,h1,.inl h2⟩
def cutD (ds:List D) (lo hi:Option Int):List D:=(ds.drop (HT.sIx ds.length 0 lo)).take (HT.sIx ds.length ds.length hi - HT.sIx ds.length 0 lo)
theorem Zlj {α:Type} (xs:List α) (lo hi:Option Int) (h:HT.sIx xs.length 0 lo=0/\HT.sIx xs.length xs.length hi=xs.length):(xs.drop (HT.sIx xs.length 0 lo)).take (HT.sIx xs.length xs.length hi - HT.sIx xs.length 0 lo)=xs:=by
 rw [h.1,h.2]; simp
def JO2 (t:TO) (Δ:Evt) (K:PySem.W.Frag) (P:Option Int->Evt->Prop):Prop:=
 ∀ g G H σ (Q:Option Int->Hp->Prop),Ok K g G H σ Δ -> (∀ o G' H' Δ',Ok K g G' H' σ Δ' -> Same G G' -> P o Δ' -> Q o H')->t σ H Q
theorem Zfx {P:Option Int->Evt->Prop} (p:P none Δ):JO2 tNoPart Δ K P:=fun g G H σ Q k c=>c none G H Δ k (Same.refl _) p
theorem Zfw {te:TE} {P:Option Int->Evt->Prop} (h:JE K te Δ fun d Δ1=>∃ i,d=.int i/\P (some i) Δ1):JO2 (tPart te) Δ K P:=fun g G H σ Q k c=>
 h g G H σ _ k fun v d G1 H1 Δ1 k1 s1 r1 hq_=>by obtain ⟨i,e,p⟩:=hq_; subst e; cases r1.inv; exact ⟨i,rfl,c (some i) G1 H1 Δ1 k1 s1 p⟩
def slD (d:D) (lo hi:Option Int):Option D:=match d with
 | .lst ds=>some (.lst (cutD ds lo hi))
 | .scr ds=>some (.lst (cutD ds lo hi))
 | .tup ds=>some (.tup (cutD ds lo hi))
 | _=>none
theorem Zl2 {te:TE} {tl th:TO} (h:JE K te Δ fun d Δ1=>JO2 tl Δ1 K fun lo Δ2=>JO2 th Δ2 K fun hi Δ3=>∃ e,slD d lo hi=some e/\P e Δ3):JE K (tSl (rSlU K) te tl th) Δ P:=fun g G H σ Q k c=>
 h g G H σ _ k fun v d G1 H1 Δ1 k1 s1 r1 p1=>p1 g G1 H1 σ _ k1 fun lo G2 H2 Δ2 k2 s2 p2=>p2 g G2 H2 σ _ k2 fun hi G3 H3 Δ3 k3 s3 hq_=>by
  obtain ⟨e,he,p⟩:=hq_
  have r3:=r1.mono (s2.trans s3)
  have cc:=c.up (s1.trans (s2.trans s3))
  cases r3 with
  | lst ha rs=>
   cases he
   refine .inl ⟨_,_,rfl,SqL.of (k3.live _ _ ha),fun q hq=>?_⟩
   obtain ⟨k4,sg⟩:=k3.laid hq (.lst _)
   refine cc _ _ _ _ Δ3 k4 sg (.lst Zat (Reps.mono sg ?_)) p
   unfold cutV cutD
   rw [rs.length]; exact (rs.drop _).take _
  | scr ha rs=>
   cases he
   refine .inl ⟨_,_,rfl,k3.live.seq ha,fun q hq=>?_⟩
   obtain ⟨k4,sg⟩:=k3.laid hq (.lst _)
   refine cc _ _ _ _ Δ3 k4 sg (.lst Zat (Reps.mono sg ?_)) p
   unfold cutV cutD
   rw [rs.length]; exact (rs.drop _).take _
  | tup ha rs=>
   cases he
   refine .inr ⟨_,_,rfl,SqT.of (k3.live _ _ ha),fun hw=>?_,fun hw q hq=>?_⟩
   ·rw [rs.length] at hw
    refine cc _ _ _ _ Δ3 k3 (Same.refl _) (.tup ha ?_) p
    unfold cutD
    rw [Zlj _ _ _ hw]; exact rs
   ·obtain ⟨k4,sg⟩:=k3.laid hq (.tup _)
    refine cc _ _ _ _ Δ3 k4 sg (.tup Zat (Reps.mono sg ?_)) p
    unfold cutV cutD
    rw [rs.length]; exact (rs.drop _).take _
  | _=>cases he
theorem Zo3 {te:TE} (h:JE K te Δ fun d Δ1=>∃ ds,d=.tup ds/\P (.tup ds.reverse) Δ1):JE K (tSlR K te) Δ P:=fun g G H σ Q k c=>
 h g G H σ _ k fun v d G1 H1 Δ1 k1 s1 r1 hq_=>by
  obtain ⟨ds,e,p⟩:=hq_
  subst e
  obtain ⟨_,_,rfl,ha,rs⟩:=r1.inv
  next=>
   refine ⟨_,_,rfl,SqT.of (k1.live _ _ ha),fun q hq=>?_⟩
   obtain ⟨k4,sg⟩:=k1.laid hq (.tup _)
   exact c _ _ _ _ Δ1 k4 (s1.trans sg) (.tup Zat (rs.reverse.mono sg)) p
theorem Zeq {tl:TE} {P:List D->Evt->Prop} (h:JE K tl Δ fun d Δ1=>∃ ds,(d=.lst ds\/d=.scr ds)/\P ds Δ1):JI K (iSeq K tl) Δ P:=fun g G H σ R k c=>.inl (Zp3 h g G H σ R k c)
theorem Zc7 {tl:TE} {P:List D->Evt->Prop} (h:JE K tl Δ fun d Δ1=>∃ ds,d=.tup ds/\P ds Δ1):JI K (iSeq K tl) Δ P:=fun g G H σ R k c=>.inr (Ztf h g G H σ R k c)
def truD:D->Option Bool
 | .non=>some false
 | .bl b=>some b
 | .int i=>some (i != 0)
 | .lst ds=>some !ds.isEmpty
 | .tup ds=>some !ds.isEmpty
 | _=>none
theorem Reps.isEmpty {G:Hp} {vs:List V} {ds:List D} (r:Reps K G vs ds):vs.isEmpty=ds.isEmpty:=by cases r <;> rfl
theorem Zdk {t:TE} {Pb:Bool->Evt->Prop} (h:JE K t Δ fun d Δ1=>∃ b,truD d=some b/\Pb b Δ1):JT K (tTru K t) Δ Pb:=fun g G H σ Q k c=>
 h g G H σ _ k fun v d G1 H1 Δ1 k1 s1 r1 hq_=>by
  obtain ⟨b,e,p1⟩:=hq_
  refine ⟨b,?_,c b G1 H1 Δ1 k1 s1 p1⟩
  cases r1 with
  | non=>cases e; rfl
  | bl b=>cases e; rfl
  | int i=>cases e; rfl
  | str x=>cases e
  | ty n=>cases e
  | scr ha rs=>cases e
  | adr a=>cases e
  | dct ha hl rs=>cases e
  | exc ha=>cases e
  | lst ha rs=>cases e; exact .inl ⟨_,SqL.of (k1.live _ _ ha),by rw [rs.isEmpty]⟩
  | tup ha rs=>cases e; exact .inr (.inl ⟨_,SqT.of (k1.live _ _ ha),by rw [rs.isEmpty]⟩)
def tyD:D->Option String
 | .non=>some "NoneType"
 | .bl _=>some "bool"
 | .int _=>some "int"
 | .str _=>some "str"
 | .lst _=>some "list"
 | .tup _=>some "tuple"
 | .dct _ _=>some "dict"
 | _=>none
theorem Zrs {d:D} {n T:String} {b:Bool} (ht:tyD d=some T) (e:∀ K,PySem.W.kitOne K (.type T) (.type n)=some b) (p:P (.bl b) Δ):JC K (rIsi K) [d,.ty n] Δ P:=fun g G H σ Q vs k rs c=>by
 obtain ⟨_,_,rfl,r,t⟩:=rs.inv
 next=>
  obtain ⟨_,_,rfl,r',t⟩:=t.inv
  next=>
   cases t.inv; cases r'.inv
   refine ⟨_,n,.type T,b,rfl,?_,e K,c _ _ G H Δ k (Same.refl _) (.bl b) p⟩
   cases r with
   | non=>cases ht; exact .non
   | bl b=>cases ht; exact .bl b
   | int i=>cases ht; exact .int i
   | str x=>cases ht; exact .str x
   | ty n=>cases ht
   | scr ha rs=>cases ht
   | adr a=>cases ht
   | dct ha hl rs=>cases ht; exact .dK (k.live _ _ ha)
   | exc ha=>cases ht
   | lst ha rs=>cases ht; exact .lst (k.live _ _ ha)
   | tup ha rs=>cases ht; exact .tup (k.live _ _ ha)
theorem Zbv {ta tb:TE} (h:JE K ta Δ fun d Δ1=>∃ b,d=.bl b/\if b=true then JE K tb Δ1 P else P (.bl false) Δ1):JE K (tAndV ta tb) Δ P:=fun g G H σ Q k c=>
 h g G H σ _ k fun v d G1 H1 Δ1 k1 s1 r1 hq_=>by
  obtain ⟨b,e,p1⟩:=hq_
  subst e; cases r1.inv
  refine ⟨b,rfl,?_⟩
  cases b with
  | true=>exact (show JE K tb Δ1 P from p1) g G1 H1 σ Q k1 (c.up s1)
  | false=>exact c _ _ G1 H1 Δ1 k1 s1 (.bl false) p1
theorem Zs3 {ta tb:TE} (h:JE K ta Δ fun d Δ1=>∃ b,d=.bl b/\if b=true then P (.bl true) Δ1 else JE K tb Δ1 P):JE K (tOrV ta tb) Δ P:=fun g G H σ Q k c=>
 h g G H σ _ k fun v d G1 H1 Δ1 k1 s1 r1 hq_=>by
  obtain ⟨b,e,p1⟩:=hq_
  subst e; cases r1.inv
  refine ⟨b,rfl,?_⟩
  cases b with
  | false=>exact (show JE K tb Δ1 P from p1) g G1 H1 σ Q k1 (c.up s1)
  | true=>exact c _ _ G1 H1 Δ1 k1 s1 (.bl true) p1
theorem Zfs {ta:TE} (h:JE K ta Δ fun d Δ1=>∃ b,d=.bl b/\P (.bl !b) Δ1):JE K (tNotV ta) Δ P:=fun g G H σ Q k c=>
 h g G H σ _ k fun v d G1 H1 Δ1 k1 s1 r1 hq_=>by
  obtain ⟨b,e,p1⟩:=hq_
  subst e; cases r1.inv
  exact ⟨b,rfl,c _ _ G1 H1 Δ1 k1 s1 (.bl !b) p1⟩
theorem Zno {to te:TE} (h:JE K to Δ fun d Δ1=>∃ ns:List Int,d=.tup (ns.map D.int)/\JE K te Δ1 fun e Δ2=>∃ i j,e=.int i/\ns[j]? = some i/\(∀ m,m < j->ns[m]? ≠ some i)/\P (.int (j:Nat)) Δ2) :
  JE K (tBM K "tuple" (rIndexT K) to (tCons te tNil)) Δ P:=fun g G H σ Q k c=>
 h g G H σ _ k fun v d G1 H1 Δ1 k1 s1 r1 hq_=>by
  obtain ⟨ns,e,p1⟩:=hq_
  subst e
  obtain ⟨a,vs,rfl,ha,rs⟩:=r1.inv
  next=>
   refine ⟨.inr (.inl ⟨rfl,.inr ⟨_,k1.live _ _ ha⟩⟩),p1 g G1 H1 σ _ k1 fun u e G2 H2 Δ2 k2 s2 r2 ⟨i,j,q1,q2,q3,p⟩=>?_⟩
   subst q1
   cases r2.inv
   have ev:vs=ns.map V.int:=rs.ints
   subst ev
   have hj:j < ns.length:=(List.getElem?_eq_some_iff.mp q2).1
   refine ⟨a,_,.int i,j,rfl,rfl,SqT.of (k2.live _ _ (s2 _ _ ha)),rfl,?_,by simpa using hj,⟨.int i,by rw [List.getElem?_map,q2]; rfl,by simp [eqV]⟩,fun m z hm hz=>?_,c _ _ G2 H2 Δ2 k2 (s1.trans s2) (.int _) p⟩
   ·rw [List.all_map]; exact List.all_eq_true.mpr fun _ _=>rfl
   ·rw [List.getElem?_map] at hz
    cases e:ns[m]? with
    | none=>rw [e] at hz; cases hz
    | some w=>
     rw [e] at hz
     have hz:V.int w=z:=by simpa using hz
     subst hz
     have hne:w ≠ i:=fun q=>q3 m hm (by rw [e,q])
     show (w == i)=false
     exact beq_eq_false_iff_ne.mpr hne
end
section
variable {K:PySem.W.Frag} {g:Gm} {G H:Hp} {σ:St} {Δ:Evt}
theorem Ok.setVal' (k:Ok K g G H σ Δ) {v:V} {d:D} (i:Nat) (r:Rep K G v d):Ok K g G H (σ.set i (some v)) (Δ.set i (.val d)):=by
 by_cases hi:i < Δ.length
 ·exact k.setVal hi r
 ·have hl:=k.len
  rw [List.set_eq_of_length_le (l:=σ) (by omega),List.set_eq_of_length_le (l:=Δ) (by omega)]; exact k
theorem Ok.setOwn' (k:Ok K g G H σ Δ) {a:Addr} {od:OD} (i:Nat) (p:Pend K g G H σ Δ a od):Ok K g G H (σ.set i (some (.ref a))) (Δ.set i (.own od)):=by
 by_cases hi:i < Δ.length
 ·exact k.setOwn hi p
 ·have hl:=k.len
  rw [List.set_eq_of_length_le (l:=σ) (by omega),List.set_eq_of_length_le (l:=Δ) (by omega)]; exact k
theorem Ztt {te:TE} {i:Nat} {P:Pst} (h:JE K te Δ fun d Δ1=>P.nx (Δ1.set i (.val d))):JS K (tAsg te (gName i)) Δ P:=fun g G H σ E k c=>
 h g G H σ _ k fun v d G1 H1 Δ1 k1 s1 r1 p1=>c.nx _ G1 H1 _ (k1.setVal' i r1) p1
theorem Zpp {te:TE} {i:Nat} {P:Pst} (h:JO K te Δ fun od Δ1=>P.nx (Δ1.set i (.own od))):JS K (tAsg te (gName i)) Δ P:=fun g G H σ E k c=>
 h g G H σ _ k fun a od G1 H1 Δ1 k1 s1 pd p1=>c.nx _ G1 H1 _ (k1.setOwn' i pd) p1
theorem Zp1 {i j:Nat} {ta:TA} {P:Pst} (h:JA K ta Δ fun ds Δ1=>∃ d e,ds=[d,e]/\P.nx ((Δ1.set i (.val d)).set j (.val e))):JS K (tPar i j ta) Δ P:=fun g G H σ E k c=>
 h g G H σ _ k fun vs ds G1 H1 Δ1 k1 s1 r1 hq_=>by
  obtain ⟨d,e,hd,p1⟩:=hq_
  subst hd
  obtain ⟨_,_,rfl,ra,rr⟩:=r1.inv
  next=>
   obtain ⟨_,_,rfl,rb,rr⟩:=rr.inv
   next=>
    cases rr.inv
    exact ⟨_,_,rfl,c.nx _ G1 H1 _ ((k1.setVal' i ra).setVal' j rb) p1⟩
theorem Zbd {i:Nat} {d:D} {P:Evt->Prop} (p:P (Δ.set i (.val d))):JG K (gName i) d Δ P:=fun g G H σ v R k r c=>c _ G H _ (k.setVal' i r) (Same.refl _) p
theorem Zd9 {n i:Nat} {d:D} {P:Evt->Prop} (hn:i < n) (p:P (Δ.set i (.val d))):JGn K n (gName i) d Δ P:=fun g G H σ v R k r c=>
 c _ G H _ (k.setVal' i r) (Same.refl _) (fun j hj=>List.getElem?_set_ne (by omega)) p
theorem Zr5 {n:Nat} {te:TE} {Pp:Pst} {x:Slot} {ds0:List D} (hx:Δ[n]? = some x) (ho:x.od=some (.lst ds0))
  (h:JE K te Δ fun d Δ1=>∃ y ds,Δ1[n]? = some y/\y.od=some (.lst ds)/\ds.length < sizeLine/\Pp.nx (Δ1.set n (y.put (.lst (ds ++ [d]))))) :
  JS K (tDrop (tBM K "list" rAppend (tVar n) (tCons te tNil))) Δ Pp:=Zmg hx ho ⟨_,rfl⟩ h
end
section
variable {K:PySem.W.Frag} {Δ:Evt} {nx bk ct:Evt->Prop} {rt:D->Evt->Prop} {ro:OD->Evt->Prop}
theorem Za2 (p:nx Δ):JS K tNext Δ ⟨nx,rt,bk,ct,ro⟩:=Zps p
theorem Zau {t u:TS} (h:JS K t Δ ⟨fun Δ1=>JS K u Δ1 ⟨nx,rt,bk,ct,ro⟩,rt,bk,ct,ro⟩):JS K (tSeq t u) Δ ⟨nx,rt,bk,ct,ro⟩:=Zpa h
theorem Zbb {t u:TS} (I:Evt->Prop) (h1:JS K t Δ ⟨I,rt,bk,ct,ro⟩) (h2:∀ Δ1,I Δ1->JS K u Δ1 ⟨nx,rt,bk,ct,ro⟩):JS K (tSeq t u) Δ ⟨nx,rt,bk,ct,ro⟩:=
 Zpa (h1.mono h2 (fun _ _ z=>z) (fun _ z=>z) (fun _ z=>z) fun _ _ z=>z)
theorem Zav {te:TE} (h:JE K te Δ rt):JS K (tRet te) Δ ⟨nx,rt,bk,ct,ro⟩:=Ztn h
theorem Zg1 {te:TE} (h:JO K te Δ ro):JS K (tRet te) Δ ⟨nx,rt,bk,ct,ro⟩:=Zp4 h
theorem Zrc {te:TE} (h:JE K te Δ fun _ Δ1=>nx Δ1):JS K (tDrop te) Δ ⟨nx,rt,bk,ct,ro⟩:=Zq2 h
theorem Zb4 {c:TT} {t u:TS} (h:JT K c Δ fun b Δ1=>if b=true then JS K t Δ1 ⟨nx,rt,bk,ct,ro⟩ else JS K u Δ1 ⟨nx,rt,bk,ct,ro⟩):JS K (tIfS c t u) Δ ⟨nx,rt,bk,ct,ro⟩:=Ztu h
theorem Za5 {te:TE} {i:Nat} (h:JE K te Δ fun d Δ1=>nx (Δ1.set i (.val d))):JS K (tAsg te (gName i)) Δ ⟨nx,rt,bk,ct,ro⟩:=Ztt h
theorem Zdn {te:TE} {i:Nat} (h:JO K te Δ fun od Δ1=>nx (Δ1.set i (.own od))):JS K (tAsg te (gName i)) Δ ⟨nx,rt,bk,ct,ro⟩:=Zpp h
theorem Zgc {i j:Nat} {ta:TA} (h:JA K ta Δ fun ds Δ1=>∃ d e,ds=[d,e]/\nx ((Δ1.set i (.val d)).set j (.val e))):JS K (tPar i j ta) Δ ⟨nx,rt,bk,ct,ro⟩:=Zp1 h
theorem Zf2 {te:TE} {t:TG} (h:JE K te Δ fun d Δ1=>JG K t d Δ1 nx):JS K (tAsg te t) Δ ⟨nx,rt,bk,ct,ro⟩:=Zrw h
theorem Zi9 {n:Nat} {te:TE} {x:Slot} {ds0:List D} (hx:Δ[n]? = some x) (ho:x.od=some (.lst ds0))
  (h:JE K te Δ fun d Δ1=>∃ y ds,Δ1[n]? = some y/\y.od=some (.lst ds)/\ds.length < sizeLine/\nx (Δ1.set n (y.put (.lst (ds ++ [d]))))) :
  JS K (tDrop (tBM K "list" rAppend (tVar n) (tCons te tNil))) Δ ⟨nx,rt,bk,ct,ro⟩:=Zr5 hx ho h
theorem Zer {n:Nat} {ti te:TE} (h:JE K te Δ fun d Δ1=>(∃ x ds,Δ1[n]? = some x/\x.od=some (.lst ds))/\JE K ti Δ1 fun e Δ2=>∃ x ds i j,Δ2[n]? = some x/\x.od=some (.lst ds)/\e=.int i/\ixN ds.length i=some j/\nx (Δ2.set n (x.put (.lst (ds.set j d))))) :
  JS K (tAsg te (gSub (tVar n) ti rSetU)) Δ ⟨nx,rt,bk,ct,ro⟩:=Zk1 (h.mono fun d Δ1 ⟨⟨x,ds,h1,h2⟩,h3⟩=>⟨⟨x,_,h1,h2⟩,h3⟩)
theorem Zq0 {n:Nat} {ti te:TE} (h:JE K te Δ fun d Δ1=>(∃ x kvs,Δ1[n]? = some x/\x.od=some (.dct kvs))/\JE K ti Δ1 fun e Δ2=>∃ x kvs i,Δ2[n]? = some x/\x.od=some (.dct kvs)/\e=.int i/\kvs.length < sizeLine/\nx (Δ2.set n (x.put (.dct (putD kvs (.inl i) d))))) :
  JS K (tAsg te (gSub (tVar n) ti rSetU)) Δ ⟨nx,rt,bk,ct,ro⟩:=Zro (h.mono fun d Δ1 ⟨⟨x,ds,h1,h2⟩,h3⟩=>⟨⟨x,_,h1,h2⟩,h3⟩)
theorem Zcr {wi:TI} {t:TG} {tb:TS} (h:JI K wi Δ fun ds Δ1=>∃ I:Nat->Evt->Prop,I 0 Δ1/\(∀ i d Δ2,ds[i]? = some d->I i Δ2->JG K t d Δ2 fun Δ3=>JS K tb Δ3 ⟨I (i + 1),rt,nx,I (i + 1),ro⟩)/\∀ Δ2,I ds.length Δ2->nx Δ2) :
  JS K (tFor wi t tb) Δ ⟨nx,rt,bk,ct,ro⟩:=Zrt h
theorem Zn6 {c:TT} {tb:TS} (I:Nat->Evt->Prop) (h0:∃ m,I m Δ) (ht:∀ m Δ1,I m Δ1->JT K c Δ1 fun b Δ2=>if b=true then JS K tb Δ2 ⟨fun Δ3=>∃ m',m' < m/\I m' Δ3,rt,nx,fun Δ3=>∃ m',m' < m/\I m' Δ3,ro⟩ else nx Δ2) :
  JS K (tWhile c tb) Δ ⟨nx,rt,bk,ct,ro⟩:=Znr I h0 ht
end
theorem Ziy {α β:Type} {f:α -> β} {xs:List α} {i:Int} (h0:0<=i) (h1:i < (xs.length:Int)):∃ c,xs[i.toNat]? = some c/\atI (xs.map f) i=some (f c):=by
 have hk:i.toNat < xs.length:=by omega
 have e:i=((i.toNat:Nat):Int):=by omega
 have q:xs[i.toNat]? = some xs[i.toNat]:=List.getElem?_eq_getElem hk
 generalize xs[i.toNat]=c at q
 refine ⟨c,q,?_⟩
 have z:atI (xs.map f) ((i.toNat:Nat):Int)=some (f c):=Zcv (by rw [List.getElem?_map,q]; rfl)
 rw [<- e] at z
 exact z
theorem Zif:bootBuiltins "abs" = some (.builtin "abs"):=by decide +kernel
theorem Zbj:bootBuiltins "len" = some (.builtin "len"):=by decide +kernel
theorem Zf7:bootBuiltins "min" = some (.builtin "min"):=by decide +kernel
theorem Zgy:bootBuiltins "max" = some (.builtin "max"):=by decide +kernel
theorem Zbe:bootBuiltins "isinstance" = some (.builtin "isinstance"):=by decide +kernel
theorem Zlz:bootBuiltins "all" = some (.builtin "all"):=by decide +kernel
theorem Zmo:bootBuiltins "sorted" = some (.builtin "sorted"):=by decide +kernel
theorem Zbk:bootBuiltins "tuple" = some (.type "tuple"):=by decide +kernel
theorem Zi2:bootBuiltins "list" = some (.type "list"):=by decide +kernel
theorem Zs4:bootBuiltins "set" = some (.type "set"):=by decide +kernel
theorem Zpg:bootBuiltins "int" = some (.type "int"):=by decide +kernel
theorem Zme:bootBuiltins "bool" = some (.type "bool"):=by decide +kernel
theorem Zl6:bootBuiltins "str" = some (.type "str"):=by decide +kernel
theorem Zsv:bootBuiltins "zip" = some (.type "zip"):=by decide +kernel
structure Callee (P:Program) (w:World) (K:PySem.W.Frag) (mg:Str->Option Value) (base:Heap) (k:Nat) (x:Str) (ps:List Str) (sp:Sp):Prop where
 ex:∃ (f:Addr) (fd:FuncData),FnOk P w K mg base CX0 k f fd ps sp/\Binds K fd ps []/\PySem.W.keepIn K (.ref f)=true/\mg x=some (.ref f)
section
variable {X:Cx} {k:Nat} {x:Str} {ps:List Str} {sp:Sp} {e:Expr} {es:List Expr} {t:TA} {p pos:Pos}
theorem Zbc (C:Callee X.prog X.w X.K X.mg X.base k x ps sp) (hr:Room k X.A) (ha:PA X (e :: es) t) (hg:Gl X x:=by rfl) (hdb:(x == ("__debug__":Str))=false:=by decide)
  (he:starEach (e :: es) X.env=(false,eval e X.env) :: starEach es X.env:=by rfl) (hpl:(backTo pos (starEach es X.env)).any (·.1)=false:=by rfl):PE X (.Call (.Name x p) (e :: es) [] pos) (tCall sp [] E0 t):=by
 obtain ⟨f,fd,F,b,kp,m⟩:=C.ex
 exact Zqe F hr hg m kp b .nil pass0 ha hdb he hpl
end
end L2
set_option Elab.async false
set_option linter.all false
set_option maxRecDepth 100000
namespace L2
open PySem PySem.Spec PyProof.Rows
def fixD (sel:List Nat) (Δ:Evt):Evt:=sel.map fun i=>(Δ[i]?).getD .any
theorem Zd4 {n:Nat} {sel:List Nat} {ts Δ:Evt} (ht:ts.length=n):backD n sel (ts ++ fixD sel Δ) 0 Δ = Δ:=by
 apply List.ext_getElem?
 intro i
 rw [Zdh]
 cases q:Δ[i]? with
 | none=>rfl
 | some x=>
  show some (backAt n sel (ts ++ fixD sel Δ) (0 + i) x)=some x
  congr 1
  rw [Nat.zero_add]
  have key:∀ j,sel.idxOf? i=some j->(ts ++ fixD sel Δ)[n + j]? = some x:=fun j hj=>by
   rw [List.getElem?_append_right (by omega),ht,Nat.add_sub_cancel_left]
   unfold fixD
   rw [List.getElem?_map,Zen hj]
   show some ((Δ[i]?).getD .any)=_
   rw [q]; rfl
  unfold backAt
  cases x with
  | any=>rfl
  | val d=>rfl
  | own o=>
   dsimp only
   cases e:sel.idxOf? i with
   | none=>rfl
   | some j=>dsimp only; rw [key j e]
  | bor o=>
   dsimp only
   cases e:sel.idxOf? i with
   | none=>rfl
   | some j=>dsimp only; rw [key j e]
  | ownA a o=>
   dsimp only
   cases e:sel.idxOf? i with
   | none=>rfl
   | some j=>dsimp only; rw [key j e]
section
variable {K:PySem.W.Frag} {Δ:Evt} {P:D->Evt->Prop}
theorem Zce {sel:List Nat} {wi:TI} {tc:TT} {te:TE} (hsel:sel.Nodup)
  (h:JI K wi Δ fun ds Δ1=>ds.length < sizeLine/\∃ (p:D->Bool) (f:D->D),
   (∀ (i:Nat) d,ds[i]? = some d->JT K tc (.val d :: fixD sel Δ1) fun b Δ4=>b=p d/\if b=true then JE K te Δ4 fun e Δ5=>e=f d/\∃ x,Δ5=x :: fixD sel Δ1 else ∃ x,Δ4=x :: fixD sel Δ1) ∧
   P (.lst ((ds.filter p).map f)) Δ1):JE K (tComp 1 sel wi (gName 0) tc te) Δ P:=by
 refine Zhc hsel fun g G H σ R k c=>h g G H σ R k fun J ds G' H' Δ' k' s' it ⟨z,p,f,ht,he⟩=>c J ds G' H' Δ' k' s' it ⟨z,fixD sel Δ',p,f,rfl,fun i d ts hd hts=>?_,?_⟩
 ·refine Zd9 (by decide) ?_
  obtain ⟨x,rfl⟩:∃ x,ts=[x]:=by
   match ts,hts with
   | [x],_=>exact ⟨x,rfl⟩
  intro g G H σ Q k c
  refine ht i d hd g G H σ Q k fun b G1 H1 Δ1 k1 s1 ⟨e1,q⟩=>c b G1 H1 Δ1 k1 s1 ⟨e1,?_⟩
  cases b with
  | true=>
   rw [if_pos rfl] at q ⊢
   exact q.mono fun e Δ5 ⟨e2,x,e3⟩=>⟨e2,[x],rfl,e3⟩
  | false=>
   rw [if_neg Bool.false_ne_true] at q ⊢
   obtain ⟨x,e3⟩:=q
   exact ⟨[x],rfl,e3⟩
 ·rw [Zd4 (by simp)]; exact he
theorem Zof {sel:List Nat} {wi:TI} {tc:TT} {te:TE} {Po:OD->Evt->Prop} (hsel:sel.Nodup)
  (h:JI K wi Δ fun ds Δ1=>ds.length < sizeLine/\∃ (p:D->Bool) (f:D->D),
   (∀ (i:Nat) d,ds[i]? = some d->JT K tc (.val d :: fixD sel Δ1) fun b Δ4=>b=p d/\if b=true then JE K te Δ4 fun e Δ5=>e=f d/\∃ x,Δ5=x :: fixD sel Δ1 else ∃ x,Δ4=x :: fixD sel Δ1) ∧
   Po (.lst ((ds.filter p).map f)) Δ1):JO K (tComp 1 sel wi (gName 0) tc te) Δ Po:=by
 refine Zm4 hsel fun g G H σ R k c=>h g G H σ R k fun J ds G' H' Δ' k' s' it ⟨z,p,f,ht,he⟩=>c J ds G' H' Δ' k' s' it ⟨z,fun i ys Δ=>ys=((ds.take i).filter p).map f/\∃ x,Δ = x :: fixD sel Δ',⟨by simp,.any,rfl⟩,?_,?_⟩
 ·rintro i d ys Δ2 hd ⟨rfl,x,rfl⟩
  have tk:ds.take (i + 1)=ds.take i ++ [d]:=by
   rw [List.take_add_one,hd]; rfl
  refine Zd9 (by decide) ?_
  intro g G H σ Q k c
  refine ht i d hd g G H σ Q k fun b G1 H1 Δ1 k1 s1 ⟨e1,q⟩=>c b G1 H1 Δ1 k1 s1 ?_
  cases b with
  | true=>
   rw [if_pos rfl] at q ⊢
   refine q.mono fun e Δ5 ⟨e2,x,e3⟩=>⟨?_,x,e3⟩
   rw [tk,List.filter_append,List.map_append,List.filter_cons,<- e1,e2]
   rfl
  | false=>
   rw [if_neg Bool.false_ne_true] at q ⊢
   obtain ⟨x,e3⟩:=q
   refine ⟨?_,x,e3⟩
   rw [tk,List.filter_append,List.map_append,List.filter_cons,<- e1]
   simp
 ·rintro ys Δ2 ⟨rfl,x,rfl⟩
  rw [List.take_length,show (x :: fixD sel Δ')=[x] ++ fixD sel Δ' from rfl,Zd4 (by simp)]
  exact he
theorem Zfh {sel:List Nat} {wi:TI} {tc:TT} {te:TE} (hsel:sel.Nodup)
  (h:JI K wi Δ fun ds Δ1=>ds.length < sizeLine/\∃ (p:D->Bool) (f:D->D),
   (∀ (i:Nat) d,ds[i]? = some d->∃ a b,d=.tup [a,b]/\JT K tc (.val a :: .val b :: fixD sel Δ1) fun t Δ4=>t=p d/\if t=true then JE K te Δ4 fun e Δ5=>e=f d/\∃ x y,Δ5=x :: y :: fixD sel Δ1 else ∃ x y,Δ4=x :: y :: fixD sel Δ1) ∧
   P (.lst ((ds.filter p).map f)) Δ1):JE K (tComp 2 sel wi (gTup K 2 (gCons (gName 0) (gCons (gName 1) gNil))) tc te) Δ P:=by
 refine Zhc hsel fun g G H σ R k c=>h g G H σ R k fun J ds G' H' Δ' k' s' it ⟨z,p,f,ht,he⟩=>c J ds G' H' Δ' k' s' it ⟨z,fixD sel Δ',p,f,rfl,fun i d ts hd hts=>?_,?_⟩
 ·obtain ⟨a,b,rfl,hj⟩:=ht i d hd
  refine Zir rfl (Zdi (Zd9 (by decide) (Zdi (Zd9 (by decide) (Zg8 ?_)))))
  obtain ⟨x,y,rfl⟩:∃ x y,ts=[x,y]:=by
   match ts,hts with
   | [x,y],_=>exact ⟨x,y,rfl⟩
  intro g G H σ Q k c
  refine hj g G H σ Q k fun b G1 H1 Δ1 k1 s1 ⟨e1,q⟩=>c b G1 H1 Δ1 k1 s1 ⟨e1,?_⟩
  cases b with
  | true=>
   rw [if_pos rfl] at q ⊢
   exact q.mono fun e Δ5 ⟨e2,x,y,e3⟩=>⟨e2,[x,y],rfl,e3⟩
  | false=>
   rw [if_neg Bool.false_ne_true] at q ⊢
   obtain ⟨x,y,e3⟩:=q
   exact ⟨[x,y],rfl,e3⟩
 ·rw [Zd4 (by simp)]; exact he
end
end L2
set_option Elab.async false
set_option linter.all false
set_option maxRecDepth 100000
namespace L2
open PySem PySem.Spec PyProof.Rows
section
variable {K:PySem.W.Frag} {Δ:Evt}
theorem JS.conv {t:TS} {Δ':Evt} {P:Pst} (hc:∀ g G H σ,Ok K g G H σ Δ -> ∃ G',Same G G' /\ Ok K g G' H σ Δ') (h:JS K t Δ' P):JS K t Δ P:=fun g G H σ E k c=>by
 obtain ⟨G',s,k'⟩:=hc g G H σ k
 exact h g G' H σ E k' c
end
end L2
set_option Elab.async false
set_option linter.all false
set_option maxRecDepth 100000
namespace L2
open PySem PySem.Spec PyProof.Rows
section
variable {X:Cx} (K:PySem.W.Frag)
theorem ixK (hu:X.A.units + 1 < cLine) (hK:X.K=K:=by rfl):IxR X (rIxU K):=hK ▸ ixU hu
theorem slK (hK:X.K=K:=by rfl):SlR X (rSlU K):=hK ▸ slU
theorem slRK {e:Expr} {te:TE} {pos p2 p3 p4:Pos} {k:Nat} (he:PE X e te) (hK:X.K=K:=by rfl):PE X (.Subscript e (.Slice none none (some (.UnaryOp .USub (.Constant (.int 1) k p4) p3)) p2) pos) (tSlR K te):=hK ▸ Zk4 he
theorem addK (hK:X.K=K:=by rfl):OpR X (binaryOp .Add) (rAddU K):=hK ▸ Zrd
theorem lenK (hK:X.K=K:=by rfl):CallR X (.builtin "len") (rLenU K):=hK ▸ Zmv
def rTup (K:PySem.W.Frag):List V->Hp->VK->Prop:=fun xs H Q=>∃ p ys,xs=[.ref p]/\((SqL K H p ys/\∀ l,H l=none->Q (.ref l) (upd H l (.tup ys)))\/(SqT K H p ys/\Q (.ref p) H))
theorem tupK (hK:X.K=K:=by rfl):CallR X (.type "tuple") (rTup K):=hK ▸ Zg5
def rLst (K:PySem.W.Frag):List V->Hp->VK->Prop:=fun xs H Q=>∃ p ys,xs=[.ref p]/\(SqL K H p ys\/SqT K H p ys)/\∀ l,H l=none->Q (.ref l) (upd H l (.lst ys))
theorem lstK (hK:X.K=K:=by rfl):CallR X (.type "list") (rLst K):=hK ▸ Zie
theorem seqK {tg l:Expr} {tl:TE} (hl:PE X l tl) (hK:X.K=K:=by rfl):PI X tg l (iSeq K tl):=hK ▸ Ztq hl
theorem truK {a:Expr} {ta:TE} (ha:PE X a ta) (he:∀ whole,isTrue a X.env whole=(do let v ← whole; standAt a.pos; holding [v] (truthy v))) (hK:X.K=K:=by rfl):PT X a (tTru K ta):=hK ▸ Zso ha he
theorem gtupK {es:List Expr} {k:Nat} {t:TGs} {n:Nat} {pos:Pos} (hc:X.calm=true) (h:PGs X es t)
  (hn:(assignEach es X.env).length=n:=by rfl) (hst:(assignEach es X.env).findIdx? (·.1)=none:=by rfl) (hK:X.K=K:=by rfl):PG X (.Tuple es k pos) (gTup K n t):=hK ▸ Zsz hc h hn hst
variable {o e:Expr} {es:List Expr} {to:TE} {t:TA} {name:Str} {apos cpos:Pos} {T id:String} {r:V->List V->Hp->VK->Prop}
theorem bmK (pa:PlainAttrs T) (slot:PySem.Slot T name id) (hty:typeOf (.builtin id)=pure (.type "method_descriptor")) (hm:MtR X id r) (ho:PE X o to) (ha:PA X (e :: es) t)
  (hbase:attributeBase o name X.env (eval o X.env)=eval o X.env:=by rfl)
  (hfew:((backTo cpos (starEach (e :: es) X.env)).all (fun x=>!x.1) && (backToKw cpos (keywordEach [] X.env)).all (fun x=>x.1.isSome)
   && decide ((e :: es).length + ([]:List Keyword).length + (if ([]:List Keyword).isEmpty then 0 else 1) < 30))=true:=by rfl)
  (hline:(apos.endLine == cpos.line)=true:=by rfl) (hs:starEach (e :: es) X.env=(false,eval e X.env) :: starEach es X.env:=by rfl) (hplain:(backTo cpos (starEach es X.env)).any (·.1)=false:=by rfl) (hK:X.K=K:=by rfl) :
  PE X (.Call (.Attribute o name apos) (e :: es) [] cpos) (tBM K T r to t):=hK ▸ Ztw pa slot hty hm ho ha hbase hfew hline hs hplain
end
section
variable {K:PySem.W.Frag} {Δ:Evt} {P:D->Evt->Prop}
theorem Zc9 {ds es:List D} (he:ds=[.lst es]\/ds=[.tup es]) (p:P (.tup es) Δ):JC K (rTup K) ds Δ P:=Znp he p
theorem Zjw {ds es:List D} (he:ds=[.lst es]\/ds=[.tup es]) (p:P (.lst es) Δ):JC K (rLst K) ds Δ P:=fun g G H σ Q vs k rs c=>by
 rcases he with he | he <;> subst he
 ·obtain ⟨_,_,rfl,r,t⟩:=rs.inv
  next=>
   cases t.inv
   obtain ⟨_,_,rfl,ha,rs⟩:=r.inv
   next=>
    refine ⟨_,_,rfl,.inl (SqL.of (k.live _ _ ha)),fun l hl=>?_⟩
    obtain ⟨k2,sg⟩:=k.laid hl (.lst _)
    exact c _ _ _ _ Δ k2 sg (.lst Zat (rs.mono sg)) p
 ·obtain ⟨_,_,rfl,r,t⟩:=rs.inv
  next=>
   cases t.inv
   obtain ⟨_,_,rfl,ha,rs⟩:=r.inv
   next=>
    refine ⟨_,_,rfl,.inr (SqT.of (k.live _ _ ha)),fun l hl=>?_⟩
    obtain ⟨k2,sg⟩:=k.laid hl (.lst _)
    exact c _ _ _ _ Δ k2 sg (.lst Zat (rs.mono sg)) p
end
end L2
set_option Elab.async false
set_option linter.all false
set_option maxRecDepth 100000
namespace L2
open PySem PySem.Spec PyProof.Rows
section
variable {K:PySem.W.Frag} {Δ:Evt}
abbrev OSp:=List D->(OD->Prop)->Prop
def spO (K:PySem.W.Frag) (f:OSp):Sp:=fun vs H Q _=>∃ F ds Post,Same F H/\Reps K F vs ds/\f ds Post ∧
 ∀ a H' o od,Same H H' -> H a=none->H' a=some o->OwnRep K (fun b=>if b=a then none else glue F H H' b) o od->Post od->Q (.ref a) H'
theorem Znq {f:OSp} {ta:TA} {E:XK} {Po:OD->Evt->Prop} (h:JA K ta Δ fun ds Δ1=>f ds fun od=>Po od Δ1):JO K (tCall (spO K f) [] E ta) Δ Po:=fun g G H σ Q k c=>
 h g G H σ _ k fun vs ds G1 H1 Δ1 k1 s1 r1 p1=>by
  show spO K f (vs ++ []) H1 Q E
  rw [List.append_nil]
  refine ⟨G1,ds,_,k1.live,r1,p1,fun a H' o od sh ha hn rr pd=>?_⟩
  have sg:Same G1 (fun b=>if b=a then none else glue G1 H1 H' b):=fun b o e=>by
   have hb:b ≠ a:=by intro z; subst z; rw [k1.live _ _ e] at ha; cases ha
   show (if b=a then none else glue G1 H1 H' b)=some o
   rw [if_neg hb]
   exact Zfj k1.live b o e
  have k2:Ok K g (fun b=>if b=a then none else glue G1 H1 H' b) H' σ Δ1:=k1.grow sg sh fun b o e=>by
   have e:(if b=a then none else glue G1 H1 H' b)=some o:=e
   by_cases hb:b=a
   ·rw [if_pos hb] at e; cases e
   ·rw [if_neg hb] at e; exact Zg3 k1.live (fun b o _ e=>sh b o e) b o e
  refine c a _ _ H' Δ1 k2 (s1.trans sg) ⟨o,hn,rr,by simp,k1.there ha,?_,fun j x od' e1 e2 e3=>?_⟩ pd
  ·cases q:g.Xo a with
   | none=>rfl
   | some u=>have z:=(k1.ext a u q).1; rw [ha] at z; cases z
  ·obtain ⟨b,oo,w1,w2,_⟩:=k1.own j x od' e1 e2
   rw [e3] at w1; cases w1
   rw [ha] at w2; cases w2
theorem Zt4 {f:OSp} {t:TS} {N:List Str} {vs:List V} {H:Hp} {Q:VK} {E:XK} (ht:∀ ds Post,f ds Post->ds.length<=N.length/\JS K t (startD N ds) ⟨fun _=>False,fun _ _=>False,fun _=>False,fun _=>False,fun od _=>Post od⟩) (h:spO K f vs H Q E) :
  t { nx:=fun _ H'=>Q .non H',rt:=Q } (start N vs) H:=by
 obtain ⟨F,ds,Post,l,rs,hf,q⟩:=h
 obtain ⟨hl,hj⟩:=ht ds Post hf
 refine hj ⟨fun _=>False,F,H,fun _=>none⟩ F H (start N vs) _ (Zfi rs hl (fun _ _ _ e=>e) (fun _ z=>z.elim) (Same.refl _) (fun b o e=>⟨l b o e,.inr e⟩) fun _=>rfl) ⟨fun _ _ _ _ _ z=>z.elim,fun _ _ _ _ _ _ _ _ z=>z.elim,fun _ _ _ _ _ z=>z.elim,fun _ _ _ _ _ z=>z.elim,fun a od σ G H' Δ k pd p=>?_⟩
 obtain ⟨o,h1,h2,h3,h4,h5,h6⟩:=pd
 refine q a H' o od (fun b o e=>k.same b o (fun z=>z) e) h4 h1 (h2.mono fun b o e=>?_) p
 have hb:b ≠ a:=by intro z; subst z; rw [h3] at e; cases e
 show (if b=a then none else glue F H H' b)=some o
 rw [if_neg hb]
 obtain ⟨e1,e2⟩:=k.frz b o e
 rcases e2 with z | z
 ·rw [Zef z]; exact e1
 ·rw [Zdp (l b o z)]; exact z
theorem Zqm {f:OSp} {n:Nat} (h:∀ ds Post,f ds Post->ds.length=n):∀ vs H Q E,spO K f vs H Q E->vs.length=n:=fun vs H Q E hq_=>by obtain ⟨F,ds,Post,l,rs,hf,q⟩:=hq_; rw [rs.length]; exact h ds Post hf
end
def fLaw:DSp:=fun ds Post=>∃ ns:List Int,ds=[.scr (ns.map .int)]/\ns.length<=63/\Post (.bl true)
def spLaw (K:PySem.W.Frag):Sp:=fun vs H Q _=>∃ (a:Addr) (ns:List Int),vs=[.ref a]/\SqL K H a (ns.map V.int)/\ns.length<=63/\∀ H',Q (.bl true) H'
theorem Zon {K:PySem.W.Frag} {vs:List V} {H:Hp} {Q:VK} {E:XK} (h:spLaw K vs H Q E):spD K fLaw vs H Q E:=by
 obtain ⟨a,ns,rfl,hs,hl,q⟩:=h
 refine ⟨H,[.scr (ns.map .int)],fun d=>d=.bl true,Same.refl _,.cons (.scr hs (Reps.ofInts ns)) .nil,⟨ns,rfl,hl,rfl⟩,fun r H' d sh rr e=>?_⟩
 subst e
 cases rr.inv
 exact q H'
theorem walk_law {l:PySem.W.OpenLaw} {q:Program} {loose:List Str} {XP:(Str->Option Value)->Heap->Prop} {YP:World->Heap->Prop} {d:DefRec} {K:Params->PySem.W.Frag} {k:Nat} {x:Str} (hk:Room k callerA) (hn:l.most=some 63) (hdf:d.params.defaults=[])
  (hY:∀ (w:World) (h:Heap),YP w h->(K w.params).In h)
  (F:∀ (w:World) (mg:Str->Option Value) (fa:Addr) (h:Heap),(K w.params).In h->h.Ns mainGlobals mg->mg d.name=some (.ref fa) →
   ∃ fd:FuncData,(∀ (s:Shared) (u:Value),BindsTo s fd ⟨[u],[]⟩ [(x,u)])/\∀ base:Heap,(K w.params).In base->base.Ns mainGlobals mg->FnOk l.prog w (K w.params) mg base CX0 k fa fd [x] (spD (K w.params) fLaw)) :
  PySem.W.WalkO q loose XP YP l.row.toRowW d [] (fun f vs=>PySem.call f vs):=
 L2.walk_of (n:=63) (k:=k) (x:=x) (CX:=fun _=>CX0) (sp:=fun w=>spLaw (K w.params)) hn (by decide) hdf hk hY
  (fun w mg fa h h1 h2 h3=>by
   obtain ⟨fd,b,f⟩:=F w mg fa h h1 h2 h3
   exact ⟨fd,b,fun base kb nb=>(f base kb nb).imp fun vs H Q E z=>Zon z⟩)
  (fun _ _ a ns hl _ hS=>⟨a,ns,rfl,hS,hl,fun _=>rfl⟩) fun _ _ _ _ _ z=>z
end L2
set_option Elab.async false
set_option linter.all false
set_option maxRecDepth 100000
namespace L2
open PySem PySem.Spec PyProof.Rows
def SqB (b:Bool) (K:PySem.W.Frag) (H:Hp) (a:Addr) (xs:List V):Prop:=match b with | true=>SqT K H a xs | false=>SqL K H a xs
def ItB (b:Bool) (h:Heap) (j a:Addr) (i:Nat):Prop:=match b with | true=>h.IsTupleIter j a i | false=>h.IsListIter j a i
def HsB (b:Bool) (h:Heap) (a:Addr) (ws:Array Value):Prop:=match b with | true=>h.IsTuple a ws | false=>h.IsList a ws
theorem ItB.at {b:Bool} {h h':Heap} {j a:Addr} {i:Nat} (x:ItB b h j a i) (e:∀ o,h.get? j=some o->h'.get? j=some o):ItB b h' j a i:=by
 cases b
 ·exact Heap.IsListIter.at (show h.IsListIter j a i from x) e
 ·exact Heap.IsTupleIter.at (show h.IsTupleIter j a i from x) e
theorem ItB.off {b:Bool} {h h':Heap} {j a c:Addr} {i:Nat} (x:ItB b h j a i) (e:Heap.ExtBut c h h') (n:j ≠ c):ItB b h' j a i:=x.at fun o q=>e j o n q
theorem ItB.obj {b:Bool} {h:Heap} {j a:Addr} {i:Nat} (x:ItB b h j a i):∃ o,h.get? j=some o/\o.data=.fields #[.ref a,.int i 0]:=by
 cases b <;> (obtain ⟨o,e,_,d⟩:=x; exact ⟨o,e,d⟩)
theorem HsB.off {b:Bool} {h h':Heap} {a c:Addr} {ws:Array Value} (x:HsB b h a ws) (e:Heap.ExtBut c h h') (n:a ≠ c):HsB b h' a ws:=by
 cases b <;> (obtain ⟨o,q,r⟩:=x; exact ⟨o,e a o n q,r⟩)
theorem HsB.lt {b:Bool} {h:Heap} {a:Addr} {ws:Array Value} (x:HsB b h a ws):a < h.objs.size:=by
 cases b <;> (obtain ⟨o,q,r⟩:=x; exact Heap.lt_size q)
theorem Inv.seqB {X:Cx} {pins:List (Addr × Obj)} {σ:St} {H:Hp} {s:Shared} {b:Bool} {a:Addr} {xs:List V} (I:Inv X pins σ H s) (h:SqB b X.K H a xs):∃ its:List Value,Vals xs its/\HsB b s.heap a its.toArray:=by
 cases b
 ·obtain ⟨its,r,p,_⟩:=I.list h
  exact ⟨its,r,p.isList⟩
 ·obtain ⟨its,r,p,_⟩:=I.tuple h
  exact ⟨its,r,p⟩
theorem Inv.seqB_inj {X:Cx} {pins:List (Addr × Obj)} {σ:St} {H:Hp} {s:Shared} {b:Bool} {a:Addr} {xs ys:List V} (I:Inv X pins σ H s) (h:SqB b X.K H a xs) (h':SqB b X.K H a ys):xs=ys:=by
 cases b
 ·exact I.list_inj h h'
 ·exact I.tuple_inj h h'
section
variable {prog:Program} {w:World} {A:Around} {E:Value->Shared->Prop} {s:Shared}
theorem Zg6 {b:Bool} {j a:Addr} {i:Nat} {ws:Array Value} {x:Value} {Q:Value->Shared->Prop} (g:ItB b s.heap j a i) (l:HsB b s.heap a ws) (e:ws[i]? = some x)
  (q:∀ h',ItB b h' j a (i + 1)->Heap.SameBut j s.heap h' -> Q x { s with heap:=h' }):wpAny (model prog w) A (Builtin.SmallTypes.nextOf (.ref j)) Q E s:=by
 cases b
 ·exact wpAny_nextOf_list_item g l e q
 ·obtain ⟨o,g1,g2,g3⟩:=id g
  obtain ⟨u,l1,_,n,l2⟩:=l
  have ty:s.TypeIs (.ref j) "tuple_iterator":=⟨o,g1,g2⟩
  unfold Builtin.SmallTypes.nextOf
  refine wpAny_bind (wpAny_callSpecial?_slot (name:=Str.ofString "__next__") ty F.slot_tuple_iterator_next (wpAny_call_entry F.slot_tuple_iterator_next ty F.entry_tuple_iterator_next ?_ (F.args_tuple_iterator_next_1 _)))
  refine (show wpAny _ _ (field (.ref j) 0 >>= _) _ _ s from wpAny_bind (wpAny_field g1 g3 (x:=.ref a) rfl ?_))
  refine (show wpAny _ _ (if (Value.ref a == Value.none)=true then _ else _) _ _ s from ?_)
  rw [if_neg (by exact Bool.false_ne_true)]
  refine (show wpAny _ _ (field (.ref j) 1 >>= _) _ _ s from wpAny_bind (wpAny_field g1 g3 (x:=.int i 0) rfl ?_))
  refine (show wpAny _ _ (seqItems? (.ref a) >>= _) _ _ s from wpAny_bind (wpAny_seqItems l1 l2 ?_))
  simp only [Int.toNat_natCast,e]
  refine wpAny_bind (wpAny_setField g1 g3 (by simp) (wpAny_pure ⟨x,rfl,wpAny_pure (q _ ⟨_,Heap.get?_update_self _ g1 (Obj.isFreed_of_fields (Obj.data_mapFields g3 _)),(Obj.cls_mapFields ..).trans g2,?_⟩ (Heap.SameBut.update ..))⟩))
  rw [Obj.data_mapFields g3]; simp [rawInt]
theorem Zln {b:Bool} {j a:Addr} {i:Nat} {ws:Array Value} {Q:Value->Shared->Prop} (hh:A.handled=none) (g:ItB b s.heap j a i) (l:HsB b s.heap a ws) (e:ws[i]? = none)
  (q:∀ h' x,Heap.ExtBut j s.heap h' -> (∃ o,h'.get? x=some o/\o.cls=.type "StopIteration")->E (.ref x) { s with heap:=h' }):wpAny (model prog w) A (Builtin.SmallTypes.nextOf (.ref j)) Q E s:=by
 cases b
 ·exact wpAny_nextOf_list_end hh g l e q
 ·obtain ⟨o,g1,g2,g3⟩:=id g
  obtain ⟨u,l1,_,n,l2⟩:=l
  have ty:s.TypeIs (.ref j) "tuple_iterator":=⟨o,g1,g2⟩
  unfold Builtin.SmallTypes.nextOf
  refine wpAny_bind (wpAny_callSpecial?_slot (name:=Str.ofString "__next__") ty F.slot_tuple_iterator_next (wpAny_call_entry F.slot_tuple_iterator_next ty F.entry_tuple_iterator_next ?_ (F.args_tuple_iterator_next_1 _)))
  refine (show wpAny _ _ (field (.ref j) 0 >>= _) _ _ s from wpAny_bind (wpAny_field g1 g3 (x:=.ref a) rfl ?_))
  refine (show wpAny _ _ (if (Value.ref a == Value.none)=true then _ else _) _ _ s from ?_)
  rw [if_neg (by exact Bool.false_ne_true)]
  refine (show wpAny _ _ (field (.ref j) 1 >>= _) _ _ s from wpAny_bind (wpAny_field g1 g3 (x:=.int i 0) rfl ?_))
  refine (show wpAny _ _ (seqItems? (.ref a) >>= _) _ _ s from wpAny_bind (wpAny_seqItems l1 l2 ?_))
  simp only [Int.toNat_natCast,e]
  refine wpAny_bind (wpAny_rule (wpAny_bind (wpAny_setField g1 g3 (by simp) (show wpAny _ _ (newExc (.type "StopIteration") [] >>= _) _ _ _ from wpAny_bind ?_))))
  simp only [newExc,newTuple]
  refine wpAny_bind (wpAny_newObj_type (wpAny_bind (m:=firstArgMember _ _) (wpAny_of_eq (a:=Value.none) (by first | rfl | (simp only [firstArgMember]; rfl)) (wpAny_newObj_type ?_ (by size_fits)))) (by size_fits))
  simp only [raiseNew]
  refine wpAny_bind (wpAny_handled ?_)
  first | rw [show A.in1.handled=none from hh] | rw [hh]
  exact wpAny_bind (wpAny_pure (wpAny_throw (q _ _ (((Heap.SameBut.update ..).extBut.push _).push _) ⟨_,Heap.get?_push_size _ rfl,rfl⟩)))
theorem Zpz {b c:Bool} {z U O j1 j2 a1 a2:Addr} {k1 k2:Nat} {vs us:Array Value} {x y p r:Value} {Q:Option Value->Shared->Prop} (D:ZipApart z U O j1 j2 a1 a2)
  (gz:IsZip s.heap z U O .none) (gU:IsPair s.heap U (.ref j1) (.ref j2)) (gO:IsPair s.heap O p r) (g1:ItB b s.heap j1 a1 k1) (g2:ItB c s.heap j2 a2 k2) (l1:HsB b s.heap a1 vs) (l2:HsB c s.heap a2 us) (ex:vs[k1]? = some x) (ey:us[k2]? = some y)
  (q:∀ h',IsZip h' z U O (rawInt s.heap.objs.size)->IsPair h' O x y->ItB b h' j1 a1 (k1 + 1)->ItB c h' j2 a2 (k2 + 1)->IsPair h' s.heap.objs.size x y->h'.objs.size=s.heap.objs.size + 1 →
   (∀ d o,d ≠ z->d ≠ O->d ≠ j1->d ≠ j2->s.heap.get? d=some o->h'.get? d=some o)->Q (some (.ref s.heap.objs.size)) { s with heap:=h' }):wpAny (model prog w) A (pyNext (.ref z)) Q E s:=by
 have ty:s.TypeIs (.ref z) "zip":=⟨_,gz,rfl⟩
 unfold pyNext
 refine wpAny_bind (wpAny_attempt (wpAny_callSpecial?_slot (name:=Str.ofString "__next__") ty F.slot_zip_next (wpAny_call_entry F.slot_zip_next ty F.entry_zip_next ?_ (F.args_zip_next_1 _))))
 refine (show wpAny _ _ (field (.ref z) 2 >>= _) _ _ _ from wpAny_bind (wpAny_field gz rfl (x:=.bool false) rfl ?_))
 refine (show wpAny _ _ (field (.ref z) 3 >>= _) _ _ _ from wpAny_bind (wpAny_field gz rfl (x:=.ref U) rfl (wpAny_bind (wpAny_seqItems gU rfl ?_))))
 refine (show wpAny _ _ (Builtin.SmallTypes.ownedTupleIsFree (.ref z) >>= _) _ _ _ from wpAny_bind ?_)
 unfold Builtin.SmallTypes.ownedTupleIsFree
 refine wpAny_bind (wpAny_field gz rfl (x:=.none) rfl (wpAny_pure ?_))
 simp only [if_true]
 refine wpAny_bind (wpAny_rule (wpAny_bind (wpAny_field gz rfl (x:=.ref O) rfl (wpAny_bind (wpAny_setField_rec gz (by simp) fun h₁ z₁ s₁=>wpAny_bind ?_)))))
 replace z₁:IsZip h₁ z U O .ellipsis:=z₁
 simp only [List.zipIdx_cons,List.zipIdx_nil,List.forIn_cons,List.forIn_nil]
 refine wpAny_bind (wpAny_bind (wpAny_onRaise (show wpAny _ _ (Builtin.SmallTypes.nextOf (.ref j1) >>= _) _ _ _ from wpAny_bind (Zg6 (g1.off s₁.extBut D.i1z) (l1.off s₁.extBut D.l1z) ex fun h₂ g₂ s₂=>wpAny_pure ?_))))
 have o₂:IsPair h₂ O p r:=s₂.extBut _ _ D.TOi1 (s₁.extBut _ _ D.TOz gO)
 refine wpAny_bind (wpAny_seqItems o₂ rfl (wpAny_bind (wpAny_updateSeq_pair o₂ fun h₃ o₃ s₃=>wpAny_bind (wpAny_letGo (wpAny_pure ?_)))))
 replace o₃:IsPair h₃ O x r:=o₃
 refine wpAny_bind (wpAny_bind (wpAny_onRaise (show wpAny _ _ (Builtin.SmallTypes.nextOf (.ref j2) >>= _) _ _ _ from wpAny_bind (Zg6 (((g2.off s₁.extBut D.i2z).off s₂.extBut D.i12.symm).off s₃.extBut D.TOi2.symm) (((l2.off s₁.extBut D.l2z).off s₂.extBut D.l2i1).off s₃.extBut D.l2TO) ey fun h₄ g₄ s₄=>wpAny_pure ?_))))
 have o₄:IsPair h₄ O x r:=s₄.extBut _ _ D.TOi2 o₃
 refine wpAny_bind (wpAny_seqItems o₄ rfl (wpAny_bind (wpAny_updateSeq_pair o₄ fun h₅ o₅ s₅=>wpAny_bind (wpAny_letGo (wpAny_pure (wpAny_pure ?_))))))
 replace o₅:IsPair h₅ O x y:=o₅
 refine wpAny_bind (wpAny_seqItems o₅ rfl (wpAny_bind (wpAny_newTuple ?_)))
 have n5:h₅.objs.size=s.heap.objs.size:=by rw [s₅.1,s₄.1,s₃.1,s₂.1,s₁.1]
 have z₅:IsZip h₅ z U O .ellipsis:=s₅.extBut _ _ D.TOz.symm (s₄.extBut _ _ D.i2z.symm (s₃.extBut _ _ D.TOz.symm (s₂.extBut _ _ D.i1z.symm z₁)))
 have old:∀ d o,d ≠ z->d ≠ O->d ≠ j1->d ≠ j2->s.heap.get? d=some o->h₅.get? d=some o:=fun d o c1 c2 c3 c4 e=>s₅.extBut _ _ c2 (s₄.extBut _ _ c4 (s₃.extBut _ _ c2 (s₂.extBut _ _ c3 (s₁.extBut _ _ c1 e))))
 have t1:ItB b h₅ j1 a1 (k1 + 1):=((g₂.off s₃.extBut D.TOi1.symm).off s₄.extBut D.i12).off s₅.extBut D.TOi1.symm
 have t2:ItB c h₅ j2 a2 (k2 + 1):=g₄.off s₅.extBut D.TOi2.symm
 have zl:z < h₅.objs.size:=Heap.lt_size z₅
 refine (show wpAny _ _ (Builtin.SmallTypes.ownedTupleHandOut (.ref z) (.ref h₅.objs.size) >>= _) _ _ _ from wpAny_bind ?_)
 unfold Builtin.SmallTypes.ownedTupleHandOut
 have z₆:IsZip (h₅.push { cls:=.type "tuple",data:=.seq #[x,y] }) z U O .ellipsis:=Heap.get?_push_of_some _ z₅
 refine wpAny_bind (wpAny_setField_rec z₆ (by simp) fun h₇ z₇ s₇=>?_)
 replace z₇:IsZip h₇ z U O (rawInt h₅.objs.size):=z₇
 refine wpAny_setField_rec z₇ (by simp) fun h₈ z₈ s₈=>?_
 replace z₈:IsZip h₈ z U O (rawInt h₅.objs.size):=z₈
 have up:∀ d o,d ≠ z->h₅.get? d=some o->h₈.get? d=some o:=fun d o c1 e=>s₈.extBut _ _ c1 (s₇.extBut _ _ c1 (Heap.get?_push_of_some _ e))
 have new8:IsPair h₈ h₅.objs.size x y:=s₈.extBut _ _ (Nat.ne_of_gt zl) (s₇.extBut _ _ (Nat.ne_of_gt zl) (Heap.get?_push_size _ rfl))
 have n8:h₈.objs.size=h₅.objs.size + 1:=by rw [s₈.1,s₇.1,Heap.size_push]
 rw [n5] at z₈ new8 n8
 refine wpAny_pure ⟨_,rfl,wpAny_pure ?_⟩
 refine (show Q (some (.ref h₅.objs.size)) _ from ?_)
 rw [n5]
 exact q h₈ z₈ (up _ _ D.TOz o₅) (t1.at fun o e=>up _ o D.i1z e) (t2.at fun o e=>up _ o D.i2z e) new8 n8 fun d o c1 c2 c3 c4 e=>up d o c1 (old d o c1 c2 c3 c4 e)
theorem Ztl {b c:Bool} {z U O j1 j2 a1 a2:Addr} {k1 k2:Nat} {vs us:Array Value} {p r:Value} {Q:Option Value->Shared->Prop} (hh:A.handled=none) (D:ZipApart z U O j1 j2 a1 a2)
  (gz:IsZip s.heap z U O .none) (gU:IsPair s.heap U (.ref j1) (.ref j2)) (gO:IsPair s.heap O p r) (g1:ItB b s.heap j1 a1 k1) (g2:ItB c s.heap j2 a2 k2) (l1:HsB b s.heap a1 vs) (l2:HsB c s.heap a2 us) (e:vs[k1]? = none\/us[k2]? = none)
  (q:∀ h',(∀ d o,d ≠ z->d ≠ O->d ≠ j1->d ≠ j2->s.heap.get? d=some o->h'.get? d=some o)->Q none { s with heap:=h' }):wpAny (model prog w) A (pyNext (.ref z)) Q E s:=by
 have ty:s.TypeIs (.ref z) "zip":=⟨_,gz,rfl⟩
 have fin:∀ {h':Heap} {x:Addr},(∀ d o,d ≠ z->d ≠ O->d ≠ j1->d ≠ j2->s.heap.get? d=some o->h'.get? d=some o)->(∃ o,h'.get? x=some o/\o.cls=.type "StopIteration")->wpAny (model prog w) A (do if (← isInstance (.ref x) (.type "StopIteration")) then pure none else throw (.ref x)) Q E { s with heap:=h' }:=fun {h' x} hk ⟨o,ho,hc⟩=>by
  refine wpAny_bind (wpAny_isInstance (T:="StopIteration") (b:=true) ⟨o,ho,hc⟩ isSubtype_stop ?_)
  exact wpAny_pure (q _ hk)
 unfold pyNext
 refine wpAny_bind (wpAny_attempt (wpAny_callSpecial?_slot (name:=Str.ofString "__next__") ty F.slot_zip_next (wpAny_call_entry F.slot_zip_next ty F.entry_zip_next ?_ (F.args_zip_next_1 _))))
 refine (show wpAny _ _ (field (.ref z) 2 >>= _) _ _ _ from wpAny_bind (wpAny_field gz rfl (x:=.bool false) rfl ?_))
 refine (show wpAny _ _ (field (.ref z) 3 >>= _) _ _ _ from wpAny_bind (wpAny_field gz rfl (x:=.ref U) rfl (wpAny_bind (wpAny_seqItems gU rfl ?_))))
 refine (show wpAny _ _ (Builtin.SmallTypes.ownedTupleIsFree (.ref z) >>= _) _ _ _ from wpAny_bind ?_)
 unfold Builtin.SmallTypes.ownedTupleIsFree
 refine wpAny_bind (wpAny_field gz rfl (x:=.none) rfl (wpAny_pure ?_))
 simp only [if_true]
 refine wpAny_bind (wpAny_rule (wpAny_bind (wpAny_field gz rfl (x:=.ref O) rfl (wpAny_bind (wpAny_setField_rec gz (by simp) fun h₁ z₁ s₁=>wpAny_bind ?_)))))
 replace z₁:IsZip h₁ z U O .ellipsis:=z₁
 simp only [List.zipIdx_cons,List.zipIdx_nil,List.forIn_cons,List.forIn_nil]
 refine wpAny_bind (wpAny_bind (wpAny_onRaise (show wpAny _ _ (Builtin.SmallTypes.nextOf (.ref j1) >>= _) _ _ _ from ?_)))
 cases ex:vs[k1]? with
 | none=>
  refine wpAny_bind (Zln hh (g1.off s₁.extBut D.i1z) (l1.off s₁.extBut D.l1z) ex fun h₂ y s₂ ⟨u,u1,u2⟩=>?_)
  have z₂:IsZip h₂ z U O .ellipsis:=s₂ _ _ D.i1z.symm z₁
  have yz:y ≠ z:=fun x=>by subst x; rw [z₂] at u1; cases u1; simp at u2
  exact wpAny_setField_rec z₂ (by simp) fun h₃ _ s₃=>fin (fun d o c1 _ c3 _ x=>s₃.extBut _ _ c1 (s₂ _ _ c3 (s₁.extBut _ _ c1 x))) ⟨u,s₃.extBut _ _ yz u1,u2⟩
 | some x=>
  have ey:us[k2]? = none:=by rcases e with h | h; rw [ex] at h; cases h; exact h
  refine wpAny_bind (Zg6 (g1.off s₁.extBut D.i1z) (l1.off s₁.extBut D.l1z) ex fun h₂ g₂ s₂=>wpAny_pure ?_)
  have o₂:IsPair h₂ O p r:=s₂.extBut _ _ D.TOi1 (s₁.extBut _ _ D.TOz gO)
  refine wpAny_bind (wpAny_seqItems o₂ rfl (wpAny_bind (wpAny_updateSeq_pair o₂ fun h₃ o₃ s₃=>wpAny_bind (wpAny_letGo (wpAny_pure ?_)))))
  refine wpAny_bind (wpAny_bind (wpAny_onRaise (show wpAny _ _ (Builtin.SmallTypes.nextOf (.ref j2) >>= _) _ _ _ from ?_)))
  refine wpAny_bind (Zln hh (((g2.off s₁.extBut D.i2z).off s₂.extBut D.i12.symm).off s₃.extBut D.TOi2.symm) (((l2.off s₁.extBut D.l2z).off s₂.extBut D.l2i1).off s₃.extBut D.l2TO) ey fun h₄ y s₄ ⟨u,u1,u2⟩=>?_)
  have z₄:IsZip h₄ z U O .ellipsis:=s₄ _ _ D.i2z.symm (s₃.extBut _ _ D.TOz.symm (s₂.extBut _ _ D.i1z.symm z₁))
  have yz:y ≠ z:=fun x=>by subst x; rw [z₄] at u1; cases u1; simp at u2
  exact wpAny_setField_rec z₄ (by simp) fun h₅ _ s₅=>fin (fun d o c1 c2 c3 c4 x=>s₅.extBut _ _ c1 (s₄ _ _ c4 (s₃.extBut _ _ c2 (s₂.extBut _ _ c3 (s₁.extBut _ _ c1 x))))) ⟨u,s₅.extBut _ _ yz u1,u2⟩
end
section
abbrev zt1 (h:Heap) (a:Addr):Heap:=h.push ⟨.type "tuple_iterator",none,.fields #[.ref a,.int 0 0],#[]⟩
variable {prog:Program} {w:World} {A:Around} {E:Value->Shared->Prop} {s:Shared}
end
end L2
set_option Elab.async false
set_option linter.all false
set_option maxRecDepth 100000
namespace L2
open PySem PySem.Spec PyProof.Rows
section
variable {X:Cx}
def rAll (K:PySem.W.Frag):List V->Hp->VK->Prop:=fun xs H Q=>∃ (p:Addr) (bs:List Bool),xs=[.ref p]/\SqL K H p (bs.map V.bl)/\Q (.bl (bs.all id)) H
theorem allK (K:PySem.W.Frag) (hc:X.calm=true) (hK:X.K=K:=by rfl):CallR X (.builtin "all") (rAll K):=by
 subst hK
 intro pins s σ H xs us Q I r h
 obtain ⟨p,bs,rfl,hx,q⟩:=h
 obtain ⟨u,rfl,ru⟩:=vals1 r
 cases (show u=Value.ref p from ru)
 obtain ⟨its,w1,p1,_⟩:=I.list hx
 have hlt:p < s.heap.objs.size:=by obtain ⟨o,e,_⟩:=p1.isList; exact Heap.lt_size e
 have hval:∀ (bs:List Bool) (its:List Value),Vals (bs.map V.bl) its->its=bs.map Value.bool:=by
  intro bs
  induction bs with
  | nil=>intro its h; cases h; rfl
  | cons b r ih=>intro its h; cases h with | cons h1 h2=>cases (show _=Value.bool b from h1); rw [ih _ h2]; rfl
 have e:=hval bs its w1
 subst e
 refine call_all_walk (wpAny_pyIter_list p1.isList ?_)
 refine ⟨s.heap.objs.size,_,_,_,_,_,fun i=>bs.getD i false,rfl,Walks.list (prog:=X.prog) (w:=X.w) (A:=X.A.in1) (show X.A.in1.handled=none from I.ok.hd hc) s.heap.objs.size p (Nat.ne_of_lt hlt) (bs.map Value.bool).toArray,⟨⟨_,Heap.get?_push_size _ rfl,rfl,rfl⟩,p1.isList.push _⟩,?_,fun h' tk hk=>?_⟩
 ·intro i v s0 Q0 E0 hv hq
  have hv:(bs.map Value.bool).toArray[i]? = some v:=hv
  have hv:(bs.map Value.bool)[i]? = some v:=by simpa using hv
  rw [List.getElem?_map] at hv
  cases z:bs[i]? with
  | none=>rw [z] at hv; cases hv
  | some b=>
   rw [z] at hv
   have hv:Value.bool b=v:=by simpa using hv
   subst hv
   have e0:bs.getD i false=b:=by rw [List.getD_eq_getElem?_getD,z]; rfl
   have hq:Q0 (bs.getD i false) s0:=hq
   rw [e0] at hq
   exact wpAny_truthy_bool hq
 ·have e:(List.range (bs.map Value.bool).toArray.size).all (fun i=>bs.getD i false)=bs.all id:=by
   rw [List.size_toArray,List.length_map]
   rw [Bool.eq_iff_iff,List.all_eq_true,List.all_eq_true]
   constructor
   ·intro hh b hb
    obtain ⟨i,hi,rfl⟩:=List.mem_iff_getElem.mp hb
    have:=hh i (List.mem_range.mpr hi)
    rw [List.getD_eq_getElem?_getD,List.getElem?_eq_getElem hi] at this
    exact this
   ·intro hh i hi
    rw [List.mem_range] at hi
    rw [List.getD_eq_getElem?_getD,List.getElem?_eq_getElem hi]
    exact hh _ (List.getElem_mem hi)
  rw [e]
  have I0:Inv X pins σ H { s with heap:=s.heap.push { cls:=.type "list_iterator",data:=.fields #[.ref p,.int 0 0] },toks:=s.toks }:=I.kept fun b o e=>Heap.get?_push_of_some _ e
  refine ⟨.bl (bs.all id),H,I0.turned (it:=s.heap.objs.size) (fun b o hb e=>hk b o (by simpa using hb) e) (I.hok.fresh (Nat.le_refl _)) (Nat.ne_of_gt I.lt) (.inr I.sz) ?_ ?_,rfl,q⟩
  ·have:=I.fpOk (b:=s.heap.objs.size) (H':=H) (Nat.le_refl _) (I.hok.fresh (Nat.le_refl _))
   exact this.2.2.2.2.1
  ·have:=I.fpOk (b:=s.heap.objs.size) (H':=H) (Nat.le_refl _) (I.hok.fresh (Nat.le_refl _))
   exact this.2.2.2.2.2
def rIsiU (K:PySem.W.Frag):List V->Hp->VK->Prop:=fun xs H Q=>rIsi K xs H Q\/∃ (x:V) (p:Addr) (ns:List String) (T:String) (b:Bool),xs=[x,.ref p]/\H p=some (.tup (ns.map V.ty))/\TyOf K H x (.type T)/\PySem.W.kitAny K (.type T) (ns.map Value.type)=some b/\Q (.bl b) H
theorem Zkt {pins:List (Addr × Obj)} {σ:St} {H:Hp} {s:Shared} {x:V} {u t:Value} (I:Inv X pins σ H s) (rx:RelV x u) (ty:TyOf X.K H x t) (nt:∃ T,t=.type T):∃ Hh:Heap->Prop,PySem.W.KitX X.K u t Hh/\Hh s.heap/\u ≠ .builtin "__main__.__loader__#opaque":=by
 cases ty with
 | non=>cases (show u=Value.none from rx); exact ⟨_,PySem.W.kitx_none,True.intro,fun z=>nomatch z⟩
 | bl y=>cases (show u=Value.bool y from rx); exact ⟨_,PySem.W.kitx_bool,True.intro,fun z=>nomatch z⟩
 | int i=>obtain ⟨t,q⟩:=(show ∃ t,u=Value.int i t from rx); cases q; exact ⟨_,PySem.W.kitx_int,True.intro,fun z=>nomatch z⟩
 | str y=>obtain ⟨t,q⟩:=(show ∃ t,u=Value.str y t from rx); cases q; exact ⟨_,PySem.W.kitx_str,True.intro,fun z=>nomatch z⟩
 | flt y=>obtain ⟨t,q⟩:=(show ∃ t,u=Value.float y t from rx); cases q; exact ⟨_,PySem.W.kitx_float,True.intro,fun z=>nomatch z⟩
 | @lst a xs ea=>
  cases (show u=Value.ref a from rx)
  obtain ⟨_,_,n,_,h1⟩:=(show ObjOk X.prog X.w H s.heap a (.lst xs) from I.hok a _ ea)
  exact ⟨_,PySem.W.kitx_list,⟨_,h1,rfl⟩,fun z=>nomatch z⟩
 | @frz a ob xs ea=>
  cases (show u=Value.ref a from rx)
  obtain ⟨_,_,_,n,_,h1⟩:=(show ObjOk X.prog X.w H s.heap a (.frz ob (.lst xs)) from I.hok a _ ea)
  exact ⟨_,PySem.W.kitx_list,⟨_,h1,rfl⟩,fun z=>nomatch z⟩
 | @tup a xs ea=>
  cases (show u=Value.ref a from rx)
  obtain ⟨_,_,_,p⟩:=(show ObjOk X.prog X.w H s.heap a (.tup xs) from I.hok a _ ea)
  obtain ⟨o,h1,⟨h2,_⟩,_⟩:=p
  exact ⟨_,PySem.W.kitx_tuple,⟨o,h1,h2⟩,fun z=>nomatch z⟩
 | @dK a kvs ea=>
  cases (show u=Value.ref a from rx)
  obtain ⟨_,_,vs,_,p⟩:=(show ObjOk X.prog X.w H s.heap a (.dK kvs) from I.hok a _ ea)
  obtain ⟨o,es,ep,h1,h2,_⟩:=p
  exact ⟨_,PySem.W.kitx_dict,⟨o,h1,h2.1⟩,fun z=>nomatch z⟩
 | @dT a kvs ea=>
  cases (show u=Value.ref a from rx)
  obtain ⟨_,_,xs,_,o,es,ep,h1,h2,_⟩:=(show ObjOk X.prog X.w H s.heap a (.dT kvs) from I.hok a _ ea)
  exact ⟨_,PySem.W.kitx_dict,⟨o,h1,h2.1⟩,fun z=>nomatch z⟩
 | @ins a C dx fs ea cl ha hn htk hm=>obtain ⟨T,e⟩:=nt; cases e
theorem isiUK (K:PySem.W.Frag) (hK:X.K=K:=by rfl):CallR X (.builtin "isinstance") (rIsiU K):=by
 subst hK
 refine CallR.or Zij ?_
 intro pins s σ H xs us Q I r h
 obtain ⟨x,p,ns,T,b,rfl,hp,ty,e,q⟩:=h
 obtain ⟨u,u',rfl,rx,rn⟩:=vals2 r
 cases (show u' = Value.ref p from rn)
 obtain ⟨Hh,Z,hz,hne⟩:=Zkt I rx ty ⟨T,rfl⟩
 obtain ⟨_,its,rv,o,ho,⟨hc,n,hd⟩,hdd⟩:=I.hok p _ hp
 have hv:∀ (ns:List String) (its:List Value),Vals (ns.map V.ty) its->its=ns.map Value.type:=by
  intro ns
  induction ns with
  | nil=>intro its h; cases h; rfl
  | cons b r ih=>intro its h; cases h with | cons h1 h2=>cases (show _=Value.type b from h1); rw [ih _ h2]; rfl
 have e2:=hv ns its rv
 subst e2
 obtain ⟨cls,dd,data,sl⟩:=o
 simp only at hc hd hdd
 subst hc hd hdd
 exact PySem.W.kia_tup Z I.kIn hz ho e hne fun tk=>⟨.bl b,H,I.tok _,rfl,q⟩
end
section
variable {K:PySem.W.Frag} {Δ:Evt}
theorem Zl0 {bs:List Bool} {P:D->Evt->Prop} (p:P (.bl (bs.all id)) Δ):JC K (rAll K) [.lst (bs.map D.bl)] Δ P:=fun g G H σ Q vs k rs c=>by
 obtain ⟨_,_,rfl,r,t⟩:=rs.inv
 next=>
  cases t.inv
  obtain ⟨a,ws,rfl,ha,rs⟩:=r.inv
  next=>
   have e:∀ (bs:List Bool) (ws:List V),Reps K G ws (bs.map D.bl)->ws=bs.map V.bl:=by
    intro bs
    induction bs with
    | nil=>intro ws h; cases h; rfl
    | cons b r ih=>intro ws h; cases h with | cons h1 h2=>cases h1; rw [ih _ h2]; rfl
   have:=e bs ws rs
   subst this
   exact ⟨_,bs,rfl,SqL.of (k.live _ _ ha),c _ _ G H Δ k (Same.refl _) (.bl _) p⟩
theorem Zbf {d:D} {n T:String} {b:Bool} {P:D->Evt->Prop} (ht:tyD d=some T) (e:∀ K,PySem.W.kitOne K (.type T) (.type n)=some b) (p:P (.bl b) Δ):JC K (rIsiU K) [d,.ty n] Δ P:=fun g G H σ Q vs k rs c=>.inl (Zrs ht e p g G H σ Q vs k rs c)
end
end L2
set_option Elab.async false
set_option linter.all false
set_option maxRecDepth 100000
namespace L2
open PySem PySem.Spec PyProof.Rows
section
variable {prog:Program} {w:World} {A:Around} {E:Value->Shared->Prop} {s:Shared}
theorem Zrl {b:Bool} {e j a:Addr} {i:Nat} {ws:Array Value} {x old:Value} {Q:Option Value->Shared->Prop} (ge:IsEnum s.heap e j i old) (g:ItB b s.heap j a i) (l:HsB b s.heap a ws) (ex:ws[i]? = some x) (ne:e ≠ j)
  (q:∀ h',IsEnumOut h' e j ((i:Int) + 1) x s.heap.objs.size->ItB b h' j a (i + 1)->h'.get? s.heap.objs.size=some { cls:=.type "tuple",data:=.seq #[.int i s.toks,x] } →
   (∀ c o,c ≠ e->c ≠ j->s.heap.get? c=some o->h'.get? c=some o)->Q (some (.ref s.heap.objs.size)) { s with heap:=h',toks:=s.toks + 1 }):wpAny (model prog w) A (pyNext (.ref e)) Q E s:=by
 cases b
 ·exact wpAny_pyNext_enum_item ge g l ex ne fun h' b1 b2 b3 _ b4=>q h' b1 b2 b3 b4
 obtain ⟨hp,g0,d,tk,os⟩:=s
 have ty:Shared.TypeIs ⟨hp,g0,d,tk,os⟩ (.ref e) "enumerate":=⟨_,ge,rfl⟩
 unfold pyNext
 refine wpAny_bind (wpAny_attempt (wpAny_callSpecial?_slot (name:=Str.ofString "__next__") ty F.slot_enumerate_next (wpAny_call_entry F.slot_enumerate_next ty F.entry_enumerate_next ?_ (F.args_enumerate_next_1 _))))
 refine (show wpAny _ _ (field (.ref e) 2 >>= _) _ _ _ from wpAny_bind (wpAny_field ge rfl (x:=.ref j) rfl (wpAny_bind (Zg6 (b:=true) g l ex fun h₁ g₁ s₁=>?_))))
 replace s₁:Heap.SameBut j hp h₁:=s₁
 have e₁:IsEnum h₁ e j i old:=(s₁.2 e ne).trans ge
 refine (show wpAny _ _ (field (.ref e) 3 >>= _) _ _ ⟨h₁,g0,d,tk,os⟩ from wpAny_bind (wpAny_field e₁ rfl (x:=rawInt i) rfl ?_))
 refine (show wpAny _ _ (field (.ref e) 4 >>= _) _ _ ⟨h₁,g0,d,tk,os⟩ from wpAny_bind (wpAny_field e₁ rfl (x:=.none) rfl ?_))
 refine (show wpAny _ _ (mkInt i >>= _) _ _ ⟨h₁,g0,d,tk,os⟩ from wpAny_bind (wpAny_mkInt ?_))
 refine (show wpAny _ _ (setField (.ref e) 3 (rawInt ((i:Int) + 1)) >>= _) _ _ ⟨h₁,g0,d,tk + 1,os⟩ from wpAny_bind (wpAny_setField_rec e₁ (by simp) fun h₂ e₂ s₂=>?_))
 replace s₂:Heap.SameBut e h₁ h₂:=s₂
 replace e₂:IsEnum h₂ e j ((i:Int) + 1) old:=e₂
 refine (show wpAny _ _ (setField (.ref e) 4 .none >>= _) _ _ ⟨h₂,g0,d,tk + 1,os⟩ from wpAny_bind (wpAny_setField_rec e₂ (by simp) fun h₃ e₃ s₃=>?_))
 replace s₃:Heap.SameBut e h₂ h₃:=s₃
 replace e₃:IsEnum h₃ e j ((i:Int) + 1) old:=e₃
 refine (show wpAny _ _ (newTuple [.int i tk,x] >>= _) _ _ ⟨h₃,g0,d,tk + 1,os⟩ from wpAny_bind (wpAny_newTuple ?_))
 have e₄:IsEnum (h₃.push { cls:=.type "tuple",data:=.seq #[.int i tk,x] }) e j ((i:Int) + 1) old:=Heap.get?_push_of_some _ e₃
 generalize eh₄:h₃.push { cls:=.type "tuple",data:=.seq #[.int i tk,x] } = h₄ at e₄
 have n3:h₃.objs.size=hp.objs.size:=by rw [s₃.1,s₂.1,s₁.1]
 have el:e < hp.objs.size:=Heap.lt_size ge
 have t₄:h₄.get? hp.objs.size=some { cls:=.type "tuple",data:=.seq #[.int i tk,x] }:=by rw [<- eh₄,<- n3]; exact Heap.get?_push_size _ rfl
 have k₄:∀ c o,c ≠ e->c ≠ j->hp.get? c=some o->h₄.get? c=some o:=fun c o c1 c2 z=>by rw [<- eh₄]; exact Heap.get?_push_of_some _ (s₃.extBut c o c1 (s₂.extBut c o c1 (s₁.extBut c o c2 z)))
 have g₄:ItB true h₄ j a (i + 1):=by rw [<- eh₄]; exact ((g₁.off s₂.extBut (Ne.symm ne)).off s₃.extBut (Ne.symm ne)).at fun o z=>Heap.get?_push_of_some _ z
 refine (show wpAny _ _ (Builtin.SmallTypes.ownedTupleIsFree (.ref e) >>= _) _ _ ⟨h₄,g0,d,tk + 1,os⟩ from ?_)
 rw [n3]
 clear eh₄ e₃ s₃ e₂ s₂ e₁ s₁ g₁ n3 h₃ h₂ h₁
 refine wpAny_bind ?_
 unfold Builtin.SmallTypes.ownedTupleIsFree
 refine wpAny_bind (wpAny_field e₄ rfl (x:=.none) rfl (wpAny_pure ?_))
 simp only [if_true]
 refine wpAny_bind (wpAny_rule (wpAny_bind (wpAny_field e₄ rfl (x:=old) rfl (wpAny_bind (wpAny_setField_rec e₄ (by simp) fun h₅ e₅ s₅=>?_)))))
 replace s₅:Heap.SameBut e h₄ h₅:=s₅
 replace e₅:IsEnum h₅ e j ((i:Int) + 1) x:=e₅
 refine (show wpAny _ _ (Builtin.SmallTypes.ownedTupleHandOut (.ref e) (.ref hp.objs.size) >>= _) _ _ ⟨h₅,g0,d,tk + 1,os⟩ from wpAny_bind ?_)
 unfold Builtin.SmallTypes.ownedTupleHandOut
 refine wpAny_bind (wpAny_setField_rec e₅ (by simp) fun h₆ e₆ s₆=>?_)
 replace s₆:Heap.SameBut e h₅ h₆:=s₆
 replace e₆:IsEnumOut h₆ e j ((i:Int) + 1) x hp.objs.size:=e₆
 refine wpAny_setField_rec e₆ (by simp) fun h₇ e₇ s₇=>?_
 replace s₇:Heap.SameBut e h₆ h₇:=s₇
 replace e₇:IsEnumOut h₇ e j ((i:Int) + 1) x hp.objs.size:=e₇
 have up:∀ c o,c ≠ e->h₄.get? c=some o->h₇.get? c=some o:=fun c o c1 z=>s₇.extBut c o c1 (s₆.extBut c o c1 (s₅.extBut c o c1 z))
 exact wpAny_bind (wpAny_letGo (wpAny_pure ⟨_,rfl,wpAny_pure (q h₇ e₇ (g₄.at fun o z=>up j o (Ne.symm ne) z) (up _ _ (Nat.ne_of_gt el) t₄) fun c o c1 c2 z=>up c o c1 (k₄ c o c1 c2 z))⟩))
theorem Ztm {b:Bool} {e j a:Addr} {i:Nat} {ws:Array Value} {old:Value} {Q:Option Value->Shared->Prop} (hh:A.handled=none) (ge:IsEnum s.heap e j i old) (g:ItB b s.heap j a i) (l:HsB b s.heap a ws) (ex:ws[i]? = none)
  (q:∀ h',Heap.ExtBut j s.heap h' -> Q none { s with heap:=h' }):wpAny (model prog w) A (pyNext (.ref e)) Q E s:=by
 have ty:s.TypeIs (.ref e) "enumerate":=⟨_,ge,rfl⟩
 unfold pyNext
 refine wpAny_bind (wpAny_attempt (wpAny_callSpecial?_slot (name:=Str.ofString "__next__") ty F.slot_enumerate_next (wpAny_call_entry F.slot_enumerate_next ty F.entry_enumerate_next ?_ (F.args_enumerate_next_1 _))))
 refine (show wpAny _ _ (field (.ref e) 2 >>= _) _ _ _ from wpAny_bind (wpAny_field ge rfl (x:=.ref j) rfl (wpAny_bind (Zln hh g l ex fun h' x e' ⟨o,ho,hc⟩=>?_))))
 exact wpAny_bind (wpAny_isInstance (T:="StopIteration") (b:=true) ⟨o,ho,hc⟩ isSubtype_stop (wpAny_pure (q _ e')))
theorem Zor (a:Addr) (ws:Array Value) (n:Nat) (dct:Option Addr) (sl:Array (Option Value)) :
  Meets (Builtin.«enumerate.__new__» ⟨[.type "enumerate",.ref a],[]⟩) (fun _ R s=>s.heap.get? a=some ⟨.type "tuple",dct,.seq ws n,sl⟩ ∧
   R (.ok (.ret (.ref (zt1 s.heap a).objs.size))) { s with heap:=(zt1 s.heap a).push ⟨.type "enumerate",none,.fields #[.none,.bool false,.ref s.heap.objs.size,rawInt 0,.none,.none],#[]⟩ }):=.of_wp fun prog w A R s h=>by
 obtain ⟨hp,g,d,tk,os⟩:=s; obtain ⟨l,h⟩:=h
 have sub0:=sub_enumerate
 have t0:Heap.IsTuple (Shared.heap ⟨hp,g,d,tk,os⟩) a ws:=⟨_,l,rfl,n,rfl⟩
 wp_walk using AutoSeq1.wpAny_loadPart' l
 refine wpAny_stack_any fun st=>wpAny_pure ?_
 split
 ·rename_i c _ _ _ _ _
  cases (c == Value.type "enumerate") <;> (wp_walk using AutoSeq1.wpAny_loadPart' l,wpAny_pyIter_tuple t0; exact ⟨_,rfl,h⟩)
 ·wp_walk using AutoSeq1.wpAny_loadPart' l,wpAny_pyIter_tuple t0
  exact ⟨_,rfl,h⟩
theorem Zrf {b:Bool} {a:Addr} {ws:Array Value} {Q:Value->Shared->Prop} (l:HsB b s.heap a ws)
  (q:∀ h',IsEnum h' (s.heap.objs.size + 1) s.heap.objs.size 0 .none->ItB b h' s.heap.objs.size a 0->(∀ c o,s.heap.get? c=some o->h'.get? c=some o)->Q (.ref (s.heap.objs.size + 1)) { s with heap:=h' }):wpAny (model prog w) A (call (.type "enumerate") [.ref a]) Q E s:=by
 cases b
 ·exact call_enumerate_list l fun h' b1 b2 _ b3=>q h' b1 b2 b3
 ·obtain ⟨⟨oc,od,oda,os⟩,l1,hc,n,hd⟩:=l
  dsimp only at hc hd
  subst hc hd
  refine callType_new F.called_enumerate (by decide) (F.typeCall_enumerate_1 _) (F.newCall_enumerate_1 _) (fun obj=>F.args_object_init_2 obj _) F.entry_enumerate_new (Zor a ws n od os) ⟨l1,?_⟩
  have z1:(zt1 s.heap a).objs.size=s.heap.objs.size + 1:=Heap.size_push ..
  show _/\_
  rw [z1]
  have he:IsEnum ((zt1 s.heap a).push ⟨.type "enumerate",none,.fields #[.none,.bool false,.ref s.heap.objs.size,rawInt 0,.none,.none],#[]⟩) (s.heap.objs.size + 1) s.heap.objs.size 0 .none:=by
   rw [<- z1]; exact Heap.get?_push_size _ rfl
  exact ⟨⟨_,he,rfl⟩,q _ he ⟨_,Heap.get?_push_of_some _ (Heap.get?_push_size _ rfl),rfl,rfl⟩ fun c o z=>Heap.get?_push_of_some _ (Heap.get?_push_of_some _ z)⟩
end
def Ieb (b:Bool) (K:PySem.W.Frag) (l:Addr):It:=
 ⟨fun i H=>∃ xs x,SqB b K H l xs/\xs[i]? = some x,
  fun i H v H'=>∃ p x,H p=none/\v=.ref p/\H' = upd H p (.tup [.int (i:Int),x])/\∀ xs,SqB b K H l xs->xs[i]? = some x,
  fun i H=>∃ xs,SqB b K H l xs/\xs.length<=i⟩
theorem Zqg {b:Bool} {P:Program} {w:World} {K:PySem.W.Frag} {es:List Expr} {kk:Nat} {tp:Pos} (l z j:Addr) (D:z ≠ j):Turn P w K (.Tuple es kk tp) (Ieb b K l) [z,j] z
  (fun i h=>(∃ old,IsEnum h z j i old)/\ItB b h j l i) where
 mem:=by simp
 obj:=fun i h st b2 hb=>by
  obtain ⟨⟨old,hz⟩,h1⟩:=st
  obtain ⟨o1,e1,d1⟩:=h1.obj
  simp only [List.mem_cons,List.not_mem_nil,or_false] at hb
  rcases hb with rfl | rfl
  ·exact ⟨_,hz,fun v q=>by cases q⟩
  ·exact ⟨o1,e1,fun v q=>by rw [d1] at q; cases q⟩
 keep:=fun i h h' st k=>by
  obtain ⟨⟨old,hz⟩,h1⟩:=st
  exact ⟨⟨old,k z (by simp) _ hz⟩,h1.at fun o e=>k j (by simp) o e⟩
 item:=by
  intro X hP hw hK hc i pins s σ H E I hf st hg
  subst hP hw hK
  obtain ⟨⟨old,hz⟩,h1⟩:=st
  obtain ⟨xs,x,hq1,hx⟩:=hg
  obtain ⟨its1,r1,p1⟩:=I.seqB hq1
  obtain ⟨u1,hu1,ru1⟩:=r1.get hx
  refine Zrl hz h1 p1 (x:=u1) (by simpa using hu1) D fun h' b1 b2 b3 hk=>?_
  refine ⟨_,rfl,wpAny_letOwnedTupleGo_enum (s:={ s with heap:=h',toks:=s.toks + 1 }) b1 fun h'' hz'' hs''=>?_⟩
  have lt:∀ {c o},s.heap.get? c=some o->c ≠ s.heap.objs.size:=fun e=>Nat.ne_of_lt (Heap.lt_size e)
  have hTz:s.heap.objs.size ≠ z:=Ne.symm (lt hz)
  have hTfree:H s.heap.objs.size=none:=I.hok.fresh (Nat.le_refl _)
  have kept:∀ c o,c ∉ [z,j]->s.heap.get? c=some o->h''.get? c=some o:=fun c o hc e=>by
   simp only [List.mem_cons,List.not_mem_nil,or_false,not_or] at hc
   exact hs''.extBut _ _ hc.1 (hk c o hc.1 hc.2 e)
  have hT:h''.get? s.heap.objs.size=some { cls:=.type "tuple",data:=.seq #[.int i s.toks,u1] }:=hs''.extBut _ _ hTz b3
  have ntr:∀ c o,H c=some o->c ∉ [z,j]:=fun c o e hc=>by rw [(hf c hc).1] at e; cases e
  have hok:HOk X.prog X.w (upd H s.heap.objs.size (.tup [.int (i:Int),x])) h'':=fun c o e=>by
   by_cases hcT:c=s.heap.objs.size
   ·subst hcT
    rw [Zat] at e
    cases e
    exact ⟨by show 2<=sizeLine; decide,[.int i s.toks,u1],.cons ⟨_,rfl⟩ (.cons ru1 .nil),_,hT,⟨rfl,_,rfl⟩,rfl⟩
   ·rw [Zao hcT] at e
    refine (I.hok c o e).stay (fun d v hd q=>kept d v ?_ q) (fun d q=>by rw [Zao (Zaq q hTfree)]; exact q) fun d zs q=>by rw [Zao (Zaq q hTfree)]; exact q
    rcases hd with hd | hd
    ·rw [hd]; exact ntr c o e
    ·exact ntr d _ hd
  have I2:Inv X pins σ (upd H s.heap.objs.size (.tup [.int (i:Int),x])) { s with heap:=h'',toks:=s.toks + 1 }:=by
   refine I.call (g':=s.gens) (t':=s.toks + 1) (d':=s.drawn) (ch:=[z,j]) ⟨fun c o e n hc hx=>kept c o hx e,fun c o e n hc hx=>⟨o.slots,kept c o hx e⟩,fun c o e n hx=>by rw [Zao (lt e)]; exact n,fun c o e hx=>⟨o,kept c o hx e⟩,
    fun c zs q=>by rw [Zao (Zaq q hTfree)]; exact q,fun c o zs q=>by rw [Zao (Zaq q hTfree)]; exact q,fun c zs q=>⟨#[],by rw [Zao (Zaq q hTfree),q]; simp⟩⟩ hok I.bare fun c hcc=>?_
   obtain ⟨f0,f1,f2,f3,f4,f5⟩:=hf c hcc
   exact ⟨f3,f1,f4,f5⟩
  refine ⟨.ref s.heap.objs.size,_,I2,rfl,⟨s.heap.objs.size,x,hTfree,rfl,rfl,fun xs' q1=>?_⟩,⟨⟨_,by have:=hz''; push_cast at this ⊢; exact this⟩,b2.off hs''.extBut (Ne.symm D)⟩,fun c hcc=>?_⟩
  ·rw [I.seqB_inj q1 hq1]; exact hx
  ·have hcl:c ≠ s.heap.objs.size:=by
    simp only [List.mem_cons,List.not_mem_nil,or_false] at hcc
    obtain ⟨_,e1,_⟩:=h1.obj
    rcases hcc with rfl | rfl
    ·exact lt hz
    ·exact lt e1
   rw [Zao hcl]; exact (hf c hcc).1
 done:=by
  intro X hP hw hK hc i pins s σ H E I hf st hg
  subst hP hw hK
  obtain ⟨⟨old,hz⟩,h1⟩:=st
  obtain ⟨xs,hq1,hend⟩:=hg
  obtain ⟨its1,r1,p1⟩:=I.seqB hq1
  have l1':=r1.length
  refine Ztm (I.ok.hd hc) hz h1 p1 (by simp; omega) fun h' hk=>⟨rfl,?_⟩
  have kept:∀ c o,c ∉ [z,j]->s.heap.get? c=some o->h'.get? c=some o:=fun c o hc e=>by
   simp only [List.mem_cons,List.not_mem_nil,or_false,not_or] at hc
   exact hk c o hc.2 e
  have ntr:∀ c o,H c=some o->c ∉ [z,j]:=fun c o e hc=>by rw [(hf c hc).1] at e; cases e
  refine I.call (g':=s.gens) (t':=s.toks) (d':=s.drawn) (ch:=[z,j]) ⟨fun c o e n hc hx=>kept c o hx e,fun c o e n hc hx=>⟨o.slots,kept c o hx e⟩,fun c o e n hx=>n,fun c o e hx=>⟨o,kept c o hx e⟩,
   fun c zs q=>q,fun c o zs q=>q,fun c zs q=>⟨#[],by rw [q]; simp⟩⟩ (fun c o e=>?_) I.bare fun c hcc=>?_
  ·refine (I.hok c o e).stay (fun d v hd q=>kept d v ?_ q) (fun d q=>q) fun d zs q=>q
   rcases hd with hd | hd
   ·rw [hd]; exact ntr c o e
   ·exact ntr d _ hd
  ·obtain ⟨f0,f1,f2,f3,f4,f5⟩:=hf c hcc
   exact ⟨f3,f1,f4,f5⟩
 self:=fun _ _ _ _ _ st h=>by
  obtain ⟨⟨old,hz⟩,_⟩:=st
  exact wpAny_pyIter_enum hz h
theorem Zic:bootBuiltins "enumerate" = some (.type "enumerate"):=by kernel_rfl
section
variable {X:Cx}
def iEnum (K:PySem.W.Frag) (ta:TA):TI:=fun σ H R=>ta σ H fun vs H1=>∃ b l,vs=[.ref l]/\(∃ xs,SqB b K H1 l xs)/\R (Ieb b K l) H1
theorem Zc3 (K:PySem.W.Frag) {es:List Expr} {kk:Nat} {tp:Pos} {a:Expr} {ta:TA} {p pos:Pos} (hg:Gl X "enumerate") (hm:X.mg "enumerate" = none) (ha:PA X [a] ta) (hs:starEach [a] X.env=[(false,eval a X.env)]:=by rfl) (hs2:starEach [] X.env=[]:=by rfl) (hK:X.K=K:=by rfl) :
  PI X (.Tuple es kk tp) (.Call (.Name "enumerate" p) [a] [] pos) (iEnum K ta):=by
 subst hK
 intro pins s σ H R I h
 refine Call_ (Zd1 I hg hm (Zic) (PyProof.Rows.callWith_type1 (thn (ha pos pins s σ H _ I h) fun us s1 ⟨vs,H1,I1,r1,q1⟩=>?_) (by rw [hs,hs2]) (by rw [hs2]; rfl)))
 obtain ⟨b,l1,e,⟨xs,hx⟩,q⟩:=q1
 subst e
 obtain ⟨u1,rfl,q1⟩:=vals1 r1
 cases (show u1=Value.ref l1 from q1)
 obtain ⟨its1,w1,p1⟩:=I1.seqB hx
 refine Zrf p1 fun h' b1 b2 hk=>?_
 refine wpAny_pyIter_enum b1 ?_
 have I2:Inv X pins σ H1 { s1 with heap:=h' }:=I1.kept (t':=s1.toks) hk
 refine ⟨s1.heap.objs.size + 1,[s1.heap.objs.size + 1,s1.heap.objs.size],_,_,H1,rfl,I2,Zqg l1 _ _ (Nat.succ_ne_self _),⟨⟨_,b1⟩,b2⟩,fun b hb=>?_,q⟩
 have hge:s1.heap.objs.size<=b:=by
  simp only [List.mem_cons,List.not_mem_nil,or_false] at hb
  rcases hb with rfl | rfl <;> omega
 exact I1.fpOk hge (I1.hok.fresh hge)
def rMin1 (K:PySem.W.Frag):List V->Hp->VK->Prop:=fun xs H Q=>∃ (b:Bool) (p:Addr) (ns:List Int),xs=[.ref p]/\SqB b K H p (ns.map V.int)/\0 < ns.length/\∀ m,m ∈ ns->(∀ a ∈ ns,m<=a)->Q (.int m) H
theorem minK (K:PySem.W.Frag) (hc:X.calm=true) (hK:X.K=K:=by rfl):CallR X (.builtin "min") (rMin1 K):=by
 subst hK
 intro pins s σ H xs us Q I r h
 obtain ⟨b,p,ns,rfl,hx,hne,q⟩:=h
 obtain ⟨u,rfl,ru⟩:=vals1 r
 cases (show u=Value.ref p from ru)
 obtain ⟨its,w1,p1⟩:=I.seqB hx
 have hlt:=p1.lt
 have hl:=w1.length
 rw [List.length_map] at hl
 have hv:∀ (i:Nat) v,its.toArray[i]? = some v->∃ t,v=Value.int (ns.getD i 0) t:=fun i v e=>by
  have hi:i < its.length:=by simpa using (Array.getElem?_eq_some_iff.mp e).1
  obtain ⟨v',e1,t,e2⟩:=w1.get (i:=i) (x:=.int (ns.getD i 0)) (by rw [List.getElem?_map,List.getD_eq_getElem?_getD,List.getElem?_eq_getElem (by omega)]; rfl)
  rw [List.getElem?_toArray,e1] at e
  cases e
  exact ⟨t,e2⟩
 have fin:∀ {h':Heap} {tk:Nat} {v:Value},its.toArray[argBest (fun i j=>decide (ns.getD i 0 < ns.getD j 0)) (its.toArray.size - 1)]? = some v->(∀ c o,s.heap.get? c=some o->h'.get? c=some o)->EP X pins σ Q v { s with heap:=h',toks:=tk }:=fun {h' tk v} hP hk=>by
  obtain ⟨t,rfl⟩:=hv _ _ hP
  obtain ⟨h1,h2⟩:=argBest_lt (fun i=>ns.getD i 0) (its.toArray.size - 1)
  have hz:its.toArray.size=ns.length:=by simp [hl]
  rw [hz] at h1 h2 ⊢
  refine ⟨.int (ns.getD (argBest (fun i j=>decide (ns.getD i 0 < ns.getD j 0)) (ns.length - 1)) 0),H,I.kept hk,⟨_,rfl⟩,q _ ?_ fun a ha=>?_⟩
  ·rw [List.getD_eq_getElem?_getD,List.getElem?_eq_getElem (by omega)]; exact List.getElem_mem _
  ·obtain ⟨j,hj,rfl⟩:=List.mem_iff_getElem.mp ha
   have:=h2 j (by omega)
   rw [List.getD_eq_getElem?_getD (l:=ns) (i:=j),List.getElem?_eq_getElem hj] at this
   exact this
 have old:∀ {o:Obj} {h':Heap},(∀ c u,c ∉ [s.heap.objs.size]->(s.heap.push o).get? c=some u->h'.get? c=some u)->∀ c u,s.heap.get? c=some u->h'.get? c=some u:=fun hk c u e=>hk c u (fun hm=>by
  have:c=s.heap.objs.size:=by simpa using hm
  exact absurd (this ▸ Heap.lt_size e) (Nat.lt_irrefl _)) (Heap.get?_push_of_some _ e)
 have fp:∀ o:Obj,∀ c ∈ [s.heap.objs.size,p],c < (s.heap.push o).objs.size:=fun o c hc=>by
  rw [Heap.size_push]
  simp only [List.mem_cons,List.not_mem_nil,or_false] at hc
  rcases hc with rfl | rfl
  ·exact Nat.lt_succ_self _
  ·exact Nat.lt_succ_of_lt hlt
 cases b
 ·refine call_min_walk (wpAny_pyIter_list p1 ?_)
  exact ⟨_,_,_,_,_,_,_,rfl,Walks.list (A:=X.A.in1) (I.ok.hd hc) _ p (Nat.ne_of_lt hlt) its.toArray,⟨⟨_,Heap.get?_push_size _ rfl,rfl,rfl⟩,Heap.IsList.push p1 _⟩,fp _,by simp; omega,CmpOf.ints_lt (fun i=>ns.getD i 0) hv,fun v h' tk hP hk=>fin hP (old hk)⟩
 ·refine call_min_walk (wpAny_pyIter_tuple p1 ?_)
  exact ⟨_,_,_,_,_,_,_,rfl,Walks.tuple (A:=X.A.in1) (I.ok.hd hc) _ p (Nat.ne_of_lt hlt) its.toArray,⟨⟨_,Heap.get?_push_size _ rfl,rfl,rfl⟩,Heap.IsTuple.push p1 _⟩,fp _,by simp; omega,CmpOf.ints_lt (fun i=>ns.getD i 0) hv,fun v h' tk hP hk=>fin hP (old hk)⟩
end
section
variable {K:PySem.W.Frag} {Δ:Evt}
theorem Zqk {ns:List Int} {m:Int} {d:D} {P:D->Evt->Prop} (hd:d=.lst (ns.map .int)\/d=.tup (ns.map .int)) (hm:m ∈ ns) (hle:∀ a ∈ ns,m<=a) (p:P (.int m) Δ):JC K (rMin1 K) [d] Δ P:=fun g G H σ Q vs k rs c=>by
 have fin:∀ m',m' ∈ ns->(∀ a ∈ ns,m' <= a)->Q (.int m') H:=fun m' h1 h2=>by
  have:m' = m:=Int.le_antisymm (h2 m hm) (hle m' h1)
  subst this
  exact c _ _ G H Δ k (Same.refl _) (.int _) p
 have pos:0 < ns.length:=List.length_pos_of_mem hm
 obtain ⟨_,_,rfl,r,t⟩:=rs.inv
 next=>
  cases t.inv
  rcases hd with hd | hd <;> subst hd
  ·obtain ⟨_,_,rfl,ha,rs⟩:=r.inv
   next=>have:=rs.ints; subst this; exact ⟨false,_,ns,rfl,SqL.of (k.live _ _ ha),pos,fin⟩
  ·obtain ⟨_,_,rfl,ha,rs⟩:=r.inv
   next=>have:=rs.ints; subst this; exact ⟨true,_,ns,rfl,SqT.of (k.live _ _ ha),pos,fin⟩
def enD (ds:List D):List D:=ds.zipIdx.map fun p=>D.tup [.int (p.2:Int),p.1]
theorem Zgb (ds:List D):(enD ds).length=ds.length:=by unfold enD; rw [List.length_map,List.length_zipIdx]
theorem Zev {ds:List D} {i:Nat} {e:D} (h:(enD ds)[i]? = some e):∃ d,ds[i]? = some d/\e=.tup [.int (i:Int),d]:=by
 unfold enD at h
 rw [List.getElem?_map,List.getElem?_zipIdx] at h
 cases q:ds[i]? with
 | none=>rw [q] at h; cases h
 | some d=>rw [q] at h; refine ⟨d,rfl,?_⟩; simpa using h.symm
theorem Zh7 {b:Bool} {G:Hp} {l1:Addr} {xs:List V} {ds:List D} (h1:∀ G1 H1,Same G G1->Same G1 H1->SqB b K H1 l1 xs) (r1:Reps K G xs ds):ItOk K G (Ieb b K l1) (enD ds):=fun G1 H1 sg sh=>by
 have hl1:=r1.length
 have e1:=h1 G1 H1 sg sh
 refine ⟨⟨xs,e1,by rw [Zgb]; omega⟩,fun i d hd=>?_⟩
 obtain ⟨d0,q,rfl⟩:=Zev hd
 obtain ⟨u,hu,ru⟩:=r1.get q
 refine ⟨⟨xs,u,e1,hu⟩,fun x H2 ⟨p,a,hp,ex,eH,hab⟩=>?_⟩
 have ha:=hab xs e1
 rw [hu] at ha
 cases ha
 subst ex; subst eH
 have hG:G1 p=none:=by
  cases z:G1 p with
  | none=>rfl
  | some o=>rw [sh _ _ z] at hp; cases hp
 refine ⟨upd G1 p (.tup [.int (i:Int),u]),fun c o e=>by rw [Zao (Zaq e hG)]; exact e,fun c o e=>by rw [Zao (Zaq e hp)]; exact e,fun c o e=>?_,?_⟩
 ·by_cases hc:c=p
  ·subst hc; rw [Zat] at e ⊢; exact ⟨e,.inr hp⟩
  ·rw [Zao hc] at e ⊢; exact ⟨sh c o e,.inl e⟩
 ·have sg2:Same G1 (upd G1 p (.tup [.int (i:Int),u])):=fun c o e=>by rw [Zao (Zaq e hG)]; exact e
  exact .tup Zat (.cons (.int _) (.cons ((ru.mono sg).mono sg2) .nil))
theorem Zhi {ta:TA} {P:List D->Evt->Prop} (h:JA K ta Δ fun ds Δ1=>∃ as,(ds=[.lst as]\/ds=[.tup as])/\P (enD as) Δ1):JI K (iEnum K ta) Δ P:=fun g G H σ R k c=>
 h g G H σ _ k fun vs ds G1 H1 Δ1 k1 s1 r1 hq_=>by
  obtain ⟨as,e,p1⟩:=hq_
  rcases e with e | e
  ·subst e
   obtain ⟨_,_,rfl,ra,rr⟩:=r1.inv
   next=>
    cases rr.inv
    obtain ⟨_,_,rfl,ha,rsa⟩:=ra.inv
    next=>exact ⟨false,_,rfl,⟨_,SqL.of (k1.live _ _ ha)⟩,c _ _ G1 H1 Δ1 k1 s1 (Zh7 (fun _ _ sg sh=>SqL.of (sh _ _ (sg _ _ ha))) rsa) p1⟩
  ·subst e
   obtain ⟨_,_,rfl,ra,rr⟩:=r1.inv
   next=>
    cases rr.inv
    obtain ⟨_,_,rfl,ha,rsa⟩:=ra.inv
    next=>exact ⟨true,_,rfl,⟨_,SqT.of (k1.live _ _ ha)⟩,c _ _ G1 H1 Δ1 k1 s1 (Zh7 (fun _ _ sg sh=>SqT.of (sh _ _ (sg _ _ ha))) rsa) p1⟩
end
end L2
set_option Elab.async false
set_option linter.all false
set_option maxRecDepth 100000
namespace L2
open PySem PySem.Spec PyProof.Rows PySem.SeqAt
section
variable {X:Cx}
def rInU (K:PySem.W.Frag) (neg:Bool):R2:=fun x y H Q=>rIn K neg x y H Q\/(∃ a o,y=.ref a/\DGet H a x o/\Q (.bl (if neg then !o.isSome else o.isSome)) H) ∨
 ∃ a S n i,y=.ref a/\x=.int i/\H a=some (.set S n)/\Q (.bl (if neg then !S i else S i)) H
theorem inK (K:PySem.W.Frag) (hu:X.A.units + 1 < cLine) (hK:X.K=K:=by rfl):OpR X (compareOp .In) (rInU K false):=by
 subst hK
 intro pins s σ H x y v u Q I rx ry h
 rcases h with h | ⟨a,o,rfl,hd,q⟩ | ⟨a,S,n,i,rfl,rfl,hs,q⟩
 ·exact Zk2 pins s σ H x y v u Q I rx ry h
 ·cases ry
  exact d_in hu I hd rx fun s' I'=>⟨.bl _,H,I',rfl,q⟩
 ·cases ry
  obtain ⟨t,rfl⟩:=rx
  exact wpAny_inSet_of (knd:=intKind X.prog X.w) (k:=i) (by simp [intKind,Value.isInt]) rfl (I.hok a _ hs) ⟨.bl _,H,I.tok _,rfl,q⟩
theorem notinK (K:PySem.W.Frag) (hu:X.A.units + 1 < cLine) (hK:X.K=K:=by rfl):OpR X (compareOp .NotIn) (rInU K true):=by
 subst hK
 intro pins s σ H x y v u Q I rx ry h
 rcases h with h | ⟨a,o,rfl,hd,q⟩ | ⟨a,S,n,i,rfl,rfl,hs,q⟩
 ·exact Zh0 pins s σ H x y v u Q I rx ry h
 ·cases ry
  exact Zqq hu I hd rx fun s' I'=>⟨.bl _,H,I',rfl,q⟩
 ·cases ry
  obtain ⟨t,rfl⟩:=rx
  exact wpAny_notInSet_of (knd:=intKind X.prog X.w) (k:=i) (by simp [intKind,Value.isInt]) rfl (I.hok a _ hs) ⟨.bl _,H,I.tok _,rfl,q⟩
end
section
variable {K:PySem.W.Frag} {Δ:Evt} {P:D->Evt->Prop}
theorem Zem {G:Hp} {k:Key}:∀ {kvs:List (Key × V)} {kds:List (Key × D)},Paired (fun (p:Key × V) (q:Key × D)=>p.1=q.1/\Rep K G p.2 q.2) kvs kds->(valV kvs k).isSome=(valD kds k).isSome
 | _,_,.nil=>rfl
 | (k1,v1) :: kvs,(k2,d2) :: kds,.cons ⟨e,r⟩ t=>by
  have e:k1=k2:=e
  subst e
  have ih:=Zem (k:=k) t
  unfold valV valD at ih ⊢
  by_cases h:k1=k
  ·rw [List.find?_cons_of_pos (by simpa using h),List.find?_cons_of_pos (by simpa using h)]; rfl
  ·rw [List.find?_cons_of_neg (by simpa using h),List.find?_cons_of_neg (by simpa using h)]; exact ih
theorem Zr3 {neg:Bool} {n:Nat} {ta:TE} (h:JE K ta Δ fun d Δ1=>∃ x kvs i,Δ1[n]? = some x/\x.od=some (.dct kvs)/\d=.int i/\P (.bl (if neg then !(valD kvs (.inl i)).isSome else (valD kvs (.inl i)).isSome)) Δ1):JE K (tOp (rInU K neg) ta (tVar n)) Δ P:=fun g G H σ Q k c=>
 h g G H σ _ k fun v d G1 H1 Δ1 k1 s1 r1 hq_=>by
  obtain ⟨x,kvs,i,q1,q2,q3,p⟩:=hq_
  subst q3
  cases r1.inv
  obtain ⟨a,o,w1,w2,w3,w4,w5⟩:=k1.own n x _ q1 q2
  cases o with
  | dK vs=>
   refine ⟨.ref a,w1,.inr (.inl ⟨a,_,rfl,DGet.k (k:=Sum.inl i) w2,?_⟩)⟩
   rw [Zem (K:=K) (G:=G1) w3]
   exact c _ _ G1 H1 Δ1 k1 s1 (.bl _) p
  | _=>exact absurd w3 (fun z=>z)
end
theorem Zp0 {A:Around} {k:Nat} (hr:Room k A):A.units + 8 < cLine:=Nat.lt_of_le_of_lt (Nat.add_le_add_left (by decide:8<=64) _) hr.units
end L2
set_option Elab.async false
set_option linter.all false
set_option maxRecDepth 100000
namespace L2
open PySem PySem.Spec PyProof.Rows PySem.SeqAt
section
variable {X:Cx}
theorem Zd5:∀ {vs:List Value} {ns:List Int},vs.length=ns.length->(∀ (i:Nat) v,vs[i]? = some v->∃ t,v=.int (ns.getD i 0) t)->IntsAre vs ns
 | [],[],_,_=>.nil
 | [],_ :: _,h,_=>by simp at h
 | _ :: _,[],h,_=>by simp at h
 | v :: vs,n :: ns,h,g=>by
  obtain ⟨t,rfl⟩:=g 0 v rfl
  exact .cons n t (Zd5 (by simpa using h) fun i u e=>by simpa using g (i + 1) u (by simpa using e))
def tLR (ta:TA):TE:=fun σ H Q=>ta σ H fun vs H1=>∃ n:Nat,vs=[.int (n:Int)]/\n<=1000/\∀ l,H1 l=none->Q (.ref l) (upd H1 l (.lst ((List.range n).map fun i:Nat=>V.int (i:Int))))
theorem Ze4 {a:Expr} {ta:TA} {p p2 pos pos2:Pos} (hc:X.calm=true) (hgL:Gl X "list") (hmL:X.mg "list" = none) (hgR:Gl X "range") (hmR:X.mg "range" = none) (ha:PA X [a] ta) (hs:starEach [a] X.env=[(false,eval a X.env)]:=by rfl)
  (he:starEach [.Call (.Name "range" p2) [a] [] pos2] X.env=[(false,eval (.Call (.Name "range" p2) [a] [] pos2) X.env)]:=by rfl) :
  PE X (.Call (.Name "list" p) [.Call (.Name "range" p2) [a] [] pos2] [] pos) (tLR ta):=by
 intro pins s σ H Q I h
 refine wpAny_Call_Name_kw (Zd1 I hgL hmL Zi2 ?_)
 refine PyProof.Rows.callWith_type1 ?_ he rfl
 rw [he]
 show wpAny _ _ (spliced ((false,eval (.Call (.Name "range" p2) [a] [] pos2) X.env) :: backTo pos [])) _ _ s
 refine Calls.spliced_cons ?_
 refine Call_ (Zd1 I hgR hmR boot_range (PyProof.Rows.callWith_type1 (thn (ha pos2 pins s σ H _ I h) fun us s1 ⟨vs,H1,I1,r1,q1⟩=>?_) hs rfl))
 obtain ⟨n,e,hn,q⟩:=q1
 subst e
 cases r1 with
 | cons r rr=>
  cases rr
  obtain ⟨t,rfl⟩:=r
  refine call_range_1 (Calls.spliced_nil ?_)
  have I2:Inv X pins σ H1 { s1 with heap:=s1.heap.push { cls:=.type "range",data:=.fields #[.int 0 s1.toks,.int (n:Int) t,.int 1 (s1.toks + 1)] },toks:=s1.toks + 1 + 1 }:=I1.kept fun b o e=>Heap.get?_push_of_some _ e
  refine call_list_range (a:=0) (b:=(n:Int)) (c:=1) (n:=n) (I1.ok.hd hc) (IsRange.new ..) (small_one (by decide) (by decide) (by omega) (by omega)) (by rw [rangeSize_one]; split <;> omega) (by omega) fun h' tk acc c' hk hD hI=>?_
  have hl:acc.size=n:=hI.1
  refine ⟨.ref _,_,I2.laid (t':=tk) hk (Nat.le_refl _) (show ObjOk X.prog X.w _ h' _ (.lst ((List.range n).map fun i:Nat=>V.int (i:Int))) from ⟨?_,acc.toList,c',?_,?_⟩),rfl,q _ (I2.hok.fresh (Nat.le_refl _))⟩
  ·rw [List.length_map,List.length_range]; exact Nat.le_of_lt (small1000 hn)
  ·have:IntsAre acc.toList ((List.range n).map fun i:Nat=>(i:Int)):=by
    refine Zd5 (by rw [Array.length_toList,hl,List.length_map,List.length_range]) fun i v e=>?_
    have hi:i < n:=by
     have:=(List.getElem?_eq_some_iff.mp e).1
     rw [Array.length_toList,hl] at this; exact this
    obtain ⟨t',rfl⟩:=hI.2 i v (by rw [<- Array.getElem?_toList]; exact e)
    refine ⟨t',?_⟩
    rw [List.getD_eq_getElem?_getD,List.getElem?_map,List.getElem?_range hi]
    show Value.int (0 + (i:Int) * 1) t' = Value.int (i:Int) t'
    rw [Int.zero_add,Int.mul_one]
   have:=Zeh this
   rw [List.map_map] at this
   exact this
  ·rw [Array.toArray_toList]; exact hD
end
section
variable {K:PySem.W.Frag} {Δ:Evt} {P:D->Evt->Prop}
theorem Zst {ta:TA} {Po:OD->Evt->Prop} (h:JA K ta Δ fun ds Δ1=>∃ n:Nat,ds=[.int (n:Int)]/\n<=1000/\Po (.lst ((List.range n).map fun i:Nat=>D.int (i:Int))) Δ1):JO K (tLR ta) Δ Po:=fun g G H σ Q k c=>
 h g G H σ _ k fun vs ds G1 H1 Δ1 k1 s1 r1 hq_=>by
  obtain ⟨n,e,hl,p⟩:=hq_
  subst e
  obtain ⟨_,_,rfl,r,t⟩:=r1.inv
  next=>
   cases t.inv
   cases r.inv
   refine ⟨n,rfl,hl,fun l hl=>?_⟩
   obtain ⟨k2,pd⟩:=k1.fresh (od:=.lst ((List.range n).map fun i:Nat=>D.int (i:Int))) hl (show OwnRep K G1 (.lst ((List.range n).map fun i:Nat=>V.int (i:Int))) (.lst ((List.range n).map fun i:Nat=>D.int (i:Int))) from by
    have:=Reps.ofInts (K:=K) (G:=G1) ((List.range n).map fun i:Nat=>(i:Int))
    rw [List.map_map,List.map_map] at this
    exact this)
   exact c l _ G1 _ Δ1 k2 s1 pd p
theorem Zma {n:Nat} {t1 t2:TE} {x:Slot} {ds0:List D} {nx bk ct:Evt->Prop} {rt:D->Evt->Prop} {ro:OD->Evt->Prop} (hx:Δ[n]? = some x) (ho:x.od=some (.lst ds0))
  (h:JE K t1 Δ fun e1 Δ1=>JE K t2 Δ1 fun e2 Δ2=>∃ y i ds,e1=.int i /\ Δ2[n]? = some y/\y.od=some (.lst ds)/\ds.length < sizeLine /\ -(2 ^ 62)<=i/\i < 2 ^ 62/\nx (Δ2.set n (y.put (.lst (ds.take (insI ds.length i) ++ e2 :: ds.drop (insI ds.length i)))))) :
  JS K (tDrop (tBM K "list" rInsert (tVar n) (tCons t1 (tCons t2 tNil)))) Δ ⟨nx,rt,bk,ct,ro⟩:=fun g G H σ E k c=>by
 obtain ⟨a,o,h1,h2,h3,h4,h5⟩:=k.own n x _ hx ho
 cases o with
 | lst vs0=>
  refine ⟨.ref a,h1,.inl ⟨rfl,_,SqL.of h2⟩,h g G H σ _ k fun v1 e1 G1 H1 Δ1 k1 s1 r1 p1=>p1 g G1 H1 σ _ k1 fun v2 e2 G2 H2 Δ2 k2 s2 r2 ⟨y,i,ds,q1,q2,q2',q3,q4,q5,p⟩=>?_⟩
  subst q1
  cases r1.inv
  obtain ⟨a2,o2,u1,u2,u3,u4,u5⟩:=k2.own n y _ q2 q2'
  rw [h1] at u1; cases u1
  cases o2 with
  | lst vs=>
   have u3:Reps K G2 vs ds:=u3
   refine ⟨_,vs,i,v2,rfl,rfl,u2,by rw [u3.length]; exact q3,q4,q5,?_⟩
   have k3:=k2.write q2 q2' h1 (show OwnRep K G2 (.lst (vs.take (insI vs.length i) ++ v2 :: vs.drop (insI vs.length i))) (.lst (ds.take (insI ds.length i) ++ e2 :: ds.drop (insI ds.length i))) from by
    rw [u3.length]; exact (u3.take _).append (.cons r2 (u3.drop _)))
   exact c.nx σ G2 _ _ k3 p
  | _=>exact absurd u3 (fun z=>z)
 | _=>exact absurd h3 (fun z=>z)
end
end L2
set_option Elab.async false
set_option linter.all false
set_option maxRecDepth 100000
namespace L2
open PySem PySem.Spec PyProof.Rows PySem.SeqAt
def Ris (xs:Array Nat):Prop:=∀ (i j a b:Nat),i < j->xs[i]? = some a->xs[j]? = some b->a < b
theorem Zhf (xs:Array Nat) (R:Ris xs) (j:Nat):∀ (fuel lo hi:Nat),hi - lo<=fuel->lo<=hi->hi<=xs.size->(∀ (i a:Nat),i < lo->xs[i]? = some a->a < j)->(∀ (i a:Nat),hi<=i->xs[i]? = some a->j<=a) →
  SetTable.below.go xs j fuel lo hi<=xs.size/\(∀ (i a:Nat),i < SetTable.below.go xs j fuel lo hi->xs[i]? = some a->a < j)/\∀ (i a:Nat),SetTable.below.go xs j fuel lo hi<=i->xs[i]? = some a->j<=a
 | 0,lo,hi,h1,h2,h3,h4,h5=>by
  have:lo=hi:=by omega
  subst this
  show lo<=xs.size/\_
  exact ⟨h3,h4,h5⟩
 | fuel + 1,lo,hi,h1,h2,h3,h4,h5=>by
  unfold SetTable.below.go
  by_cases hlt:lo < hi
  ·rw [if_pos hlt]
   dsimp only
   have hm:(lo + hi) / 2 < xs.size:=by omega
   have hg:xs.getD ((lo + hi) / 2) j=xs[(lo + hi) / 2]:=by simp [Array.getD,hm]
   by_cases hc:xs.getD ((lo + hi) / 2) j < j
   ·rw [if_pos hc]
    refine Zhf xs R j fuel _ _ (by omega) (by omega) h3 (fun i a hi' e=>?_) h5
    by_cases hi2:i=(lo + hi) / 2
    ·subst hi2
     rw [Array.getElem?_eq_getElem hm] at e
     cases e
     omega
    ·have:=R i ((lo + hi) / 2) a _ (by omega) e (Array.getElem?_eq_getElem hm)
     omega
   ·rw [if_neg hc]
    refine Zhf xs R j fuel _ _ (by omega) (by omega) (by omega) h4 fun i a hi' e=>?_
    by_cases hi2:i=(lo + hi) / 2
    ·subst hi2
     rw [Array.getElem?_eq_getElem hm] at e
     cases e
     omega
    ·have:=R ((lo + hi) / 2) i _ a (by omega) (Array.getElem?_eq_getElem hm) e
     omega
  ·rw [if_neg hlt]
   have:lo=hi:=by omega
   subst this
   exact ⟨h3,h4,h5⟩
theorem Zgu {xs:Array Nat} (R:Ris xs) (j:Nat):SetTable.below xs j<=xs.size/\(∀ (i a:Nat),i < SetTable.below xs j->xs[i]? = some a->a < j)/\∀ (i a:Nat),SetTable.below xs j<=i->xs[i]? = some a->j<=a:=
 Zhf xs R j xs.size 0 xs.size (by omega) (Nat.zero_le _) (Nat.le_refl _) (fun i a h=>by omega) fun i a h e=>by
  have:=(Array.getElem?_eq_some_iff.mp e).1; omega
theorem Zhd {α:Type} (xs:Array α) (p:Nat) (x:α) (h:p<=xs.size):(SetTable.insertAt xs p x).toList=xs.toList.take p ++ x :: xs.toList.drop p:=by
 unfold SetTable.insertAt
 rw [Array.toList_append,Array.toList_push,Array.toList_extract,Array.toList_extract]
 simp [List.extract_eq_take_drop,List.append_assoc]
 rw [List.take_of_length_le (by simp)]
theorem Zh9 {α:Type} (xs:Array α) (p:Nat) (x:α) (h:p<=xs.size) (i:Nat):(SetTable.insertAt xs p x)[i]? = if i < p then xs[i]? else if i=p then some x else xs[i - 1]?:=by
 rw [<- Array.getElem?_toList,Zhd xs p x h]
 by_cases h1:i < p
 ·rw [if_pos h1,List.getElem?_append_left (by rw [List.length_take,Array.length_toList]; omega),List.getElem?_take_of_lt h1,Array.getElem?_toList]
 ·rw [if_neg h1,List.getElem?_append_right (by rw [List.length_take,Array.length_toList]; omega),List.length_take,Array.length_toList,Nat.min_eq_left h]
  by_cases h2:i=p
  ·rw [if_pos h2,h2,Nat.sub_self]; rfl
  ·rw [if_neg h2,show i - p=(i - 1 - p) + 1 by omega,List.getElem?_cons_succ,List.getElem?_drop,Array.getElem?_toList,show p + (i - 1 - p)=i - 1 by omega]
theorem Zpm {xs:Array Nat} (R:Ris xs) {j:Nat} (hj:xs[SetTable.below xs j]? ≠ some j):Ris (SetTable.insertAt xs (SetTable.below xs j) j):=by
 obtain ⟨b1,b2,b3⟩:=Zgu R j
 have b4:∀ (i a:Nat),SetTable.below xs j<=i->xs[i]? = some a->j < a:=fun i a h e=>by
  have h1:=b3 i a h e
  by_cases hi:i=SetTable.below xs j
  ·subst hi
   rcases Nat.lt_or_eq_of_le h1 with z | z
   ·exact z
   ·subst z; exact absurd e hj
  ·obtain ⟨s1,s2⟩:=Array.getElem?_eq_some_iff.mp e
   have hlt:SetTable.below xs j < xs.size:=by omega
   have h2:=b3 _ _ (Nat.le_refl _) (Array.getElem?_eq_getElem hlt)
   have:=R (SetTable.below xs j) i _ a (by omega) (Array.getElem?_eq_getElem hlt) e
   omega
 intro i k a b hik ha hb
 rw [Zh9 _ _ _ b1] at ha hb
 split at ha
 ·split at hb
  ·exact R i k a b hik ha hb
  ·split at hb
   ·cases hb; exact b2 i a (by omega) ha
   ·exact R i (k - 1) a b (by omega) ha hb
 ·split at ha
  ·cases ha
   rw [if_neg (by omega),if_neg (by omega)] at hb
   exact b4 (k - 1) b (by omega) hb
  ·rw [if_neg (by omega),if_neg (by omega)] at hb
   exact R (i - 1) (k - 1) a b (by omega) ha hb
theorem Zqo:Ris #[]:=fun i j a b _ e=>by simp at e
theorem Zm1 (n:Nat):Ris (Array.range n):=fun i j a b h e1 e2=>by
 simp [Array.getElem?_range] at e1 e2
 omega
structure TabOk (led:Bool) (t:SetTable):Prop where
 led:t.led=led
 dum:t.dummies = #[]
 ris:Ris t.place
theorem TabOk.fresh (led:Bool):TabOk led (SetTable.fresh 0 0 led):=⟨rfl,rfl,Zqo⟩
theorem TabOk.standIn {led:Bool} {t:SetTable} (h:TabOk led t) (n:Nat):TabOk led (t.standIn n):=⟨h.led,rfl,Zm1 n⟩
theorem Zk9 (j:Nat):SetTable.has #[] j=false:=by unfold SetTable.has; simp
theorem Zfl {t:SetTable} (hd:t.dummies = #[]) {hashAt:Nat->Int} {h:Int}:∀ (fuel:Nat) (p:SetTable.Probe) {j:Nat} {dm:Option Nat},p.dummy=none->SetTable.probe.go t hashAt h fuel p=some (.empty j dm)->dm=none/\t.place[SetTable.below t.place j]? ≠ some j
 | 0,_,_,_,_,e=>by cases e
 | fuel + 1,p,j,dm,hp,e=>by
  unfold SetTable.probe.go at e
  have adv:(t.advance p).dummy=none:=by unfold SetTable.advance; split <;> exact hp
  unfold SetTable.slot at e
  dsimp only at e
  by_cases hl:(t.place[SetTable.below t.place p.j]? == some p.j)=true
  ·rw [if_pos hl] at e
   dsimp only at e
   split at e
   ·cases e
   ·exact Zfl hd fuel _ adv e
  ·rw [if_neg hl,hd,Zk9] at e
   simp only [Bool.false_eq_true,if_false] at e
   injection e with e
   injection e with e1 e2
   subst e1 e2
   exact ⟨hp,fun z=>hl (by rw [z]; simp)⟩
theorem TabOk.put {led:Bool} {t:SetTable} (h:TabOk led t) {j:Nat} (hj:t.place[SetTable.below t.place j]? ≠ some j):TabOk led (t.put j).1:=by
 refine ⟨h.led,?_,Zpm h.ris hj⟩
 show (if SetTable.has t.dummies j=true then _ else t.dummies) = #[]
 rw [h.dum,Zk9]
 rfl
theorem TabOk.layNew {led:Bool} {t:SetTable} (h:TabOk led t) (es:Array (Int × Value)) (hs:Int) (x:Value):TabOk led (layNew t es hs x).2.1:=by
 unfold PySem.layNew
 unfold SetTable.freeSlot
 cases q:t.probe (fun _=>hs + 1) hs (t.probeStart hs) with
 | none=>exact h.standIn _
 | some m=>
  cases m with
  | candidate j i p=>exact h.standIn _
  | empty j dm=>
   obtain ⟨e1,e2⟩:=Zfl h.dum _ (t.probeStart hs) rfl (show SetTable.probe.go t (fun _=>hs + 1) hs (10 * SetTable.turns t.mask) (t.probeStart hs)=some (.empty j dm) from q)
   subst e1
   show TabOk led ((t.put j).1.orStandIn _)
   unfold SetTable.orStandIn
   split
   ·exact h.put e2
   ·exact (h.put e2).standIn _
theorem Znt (owner:Array (Option Nat)) (m:Nat):Ris ((((List.range m).filterMap fun j=>(owner.getD j none).map (j,·)).map (·.1)).toArray):=by
 have pw:((List.range m).filterMap fun j=>(owner.getD j none).map (j,·)).Pairwise (fun a b=>a.1 < b.1):=by
  rw [List.pairwise_filterMap]
  refine List.Pairwise.imp ?_ List.pairwise_lt_range
  intro a b hab c hc d hd
  cases qa:owner.getD a none with
  | none=>rw [qa] at hc; cases hc
  | some k=>
   cases qb:owner.getD b none with
   | none=>rw [qb] at hd; cases hd
   | some l=>
    rw [qa] at hc; rw [qb] at hd
    have hc:(a,k)=c:=by simpa using hc
    have hd:(b,l)=d:=by simpa using hd
    subst hc hd
    exact hab
 intro i j a b hij ea eb
 rw [List.getElem?_toArray,List.getElem?_map] at ea eb
 cases qa:((List.range m).filterMap fun j=>(owner.getD j none).map (j,·))[i]? with
 | none=>rw [qa] at ea; cases ea
 | some c=>
  cases qb:((List.range m).filterMap fun j=>(owner.getD j none).map (j,·))[j]? with
  | none=>rw [qb] at eb; cases eb
  | some d=>
   rw [qa] at ea; rw [qb] at eb
   have ea:c.1=a:=by simpa using ea
   have eb:d.1=b:=by simpa using eb
   subst ea eb
   obtain ⟨i1,i2⟩:=List.getElem?_eq_some_iff.mp qa
   obtain ⟨j1,j2⟩:=List.getElem?_eq_some_iff.mp qb
   have:=List.pairwise_iff_getElem.mp pw i j i1 j1 hij
   rw [i2,j2] at this
   exact this
theorem TabOk.relay {led:Bool} {t:SetTable} (h:TabOk led t) (es:Array (Int × Value)) (wanted:Nat):TabOk led (relayAll t es wanted).2.1:=by
 unfold PySem.relayAll
 cases q:t.relaid (es.map (·.1)) wanted with
 | none=>exact h.standIn _
 | some r=>
  obtain ⟨t',order⟩:=r
  dsimp only
  split
  ·unfold SetTable.relaid SetTable.laid at q
   cases q2:SetTable.layClean (SetTable.sizeAbove wanted - 1) (es.map (·.1)) with
   | none=>rw [q2] at q; cases q
   | some owner=>
    rw [q2] at q
    have q:_=some (t',order):=q
    have e:=congrArg Prod.fst (Option.some.inj q)
    dsimp only at e
    rw [<- e]
    exact ⟨h.led,rfl,Znt owner _⟩
  ·exact h.standIn _
def numOf:Value->Int
 | .int i _=>i
 | _=>0
section
variable {prog:Program} {w:World}
def byTextB (w:World):Bool:=w.params.followText "set-order"
structure SetG (prog:Program) (w:World) (h:Heap) (a:Addr) (o:Obj) (es:Array (Int × Value)) (ep:Nat) (t:SetTable) (ks:List Int):Prop where
 get:h.get? a=some o
 ex:o.ExactSet
 dat:o.data=.set es ep t
 el:ElemsOf (intKind prog w) es.toList
 room:es.size < scanBound
 fit:t.fits es.size=true
 tab:TabOk (!byTextB w) t
 perm:(es.toList.map fun e=>numOf e.2).Perm ks
 nd:ks.Nodup
def SetI (prog:Program) (w:World) (h:Heap) (a:Addr) (ks:List Int):Prop:=∃ o es ep t,SetG prog w h a o es ep t ks
theorem SetI.keep {h h':Heap} {a:Addr} {ks:List Int} (x:SetI prog w h a ks) (k:∀ o,h.get? a=some o->h'.get? a=some o):SetI prog w h' a ks:=by
 obtain ⟨o,es,ep,t,g⟩:=x
 exact ⟨o,es,ep,t,k _ g.get,g.ex,g.dat,g.el,g.room,g.fit,g.tab,g.perm,g.nd⟩
theorem SetG.size {h:Heap} {a:Addr} {o:Obj} {es:Array (Int × Value)} {ep:Nat} {t:SetTable} {ks:List Int} (g:SetG prog w h a o es ep t ks):es.size=ks.length:=by
 have:=g.perm.length_eq
 rw [List.length_map,Array.length_toList] at this
 exact this
theorem Zhp {k:Int} {v:Value} (h:(intKind prog w).is k v=true):numOf v=k/\∃ t,v=.int k t:=by
 obtain ⟨t,rfl⟩:=Value.isInt_shape (show Value.isInt k v=true from h)
 exact ⟨rfl,t,rfl⟩
theorem Zj0 {es:List (Int × Value)} (h:ElemsOf (intKind prog w) es) {e:Int × Value} (he:e ∈ es):∃ t,e.2=.int (numOf e.2) t:=by
 obtain ⟨⟨k,hk,_⟩,_⟩:=h e he
 obtain ⟨h1,t,h2⟩:=Zhp hk
 exact ⟨t,by rw [h2]; rfl⟩
theorem Zle {es:List (Int × Value)} (h:ElemsOf (intKind prog w) es) {k:Int}:(∃ e ∈ es,(intKind prog w).is k e.2=true) ↔ k ∈ es.map fun e=>numOf e.2:=by
 rw [List.mem_map]
 constructor
 ·rintro ⟨e,he,hp⟩; exact ⟨e,he,(Zhp hp).1⟩
 ·rintro ⟨e,he,rfl⟩
  obtain ⟨t,ht⟩:=Zj0 h he
  exact ⟨e,he,by rw [ht]; exact intKind_is _ _ _ _⟩
section
variable {A:Around} {E:Value->Shared->Prop} {s:Shared}
theorem SetG.store {h:Heap} {a:Addr} {o:Obj} {es:Array (Int × Value)} {ep:Nat} {t:SetTable} {ks:List Int} (g:SetG prog w h a o es ep t ks) {es':Array (Int × Value)} {t':SetTable} {ks':List Int}
  (hel:ElemsOf (intKind prog w) es'.toList) (hb:es'.size < scanBound) (hf:t'.fits es'.size=true) (ht:TabOk (!byTextB w) t') (hp:(es'.toList.map fun e=>numOf e.2).Perm ks') (hn:ks'.Nodup) :
  SetG prog w (h.update a (Obj.putSet es' t')) a { o with data:=.set es' (ep + 1) t' } es' (ep + 1) t' ks':=by
 have hg:(h.update a (Obj.putSet es' t')).get? a=some { o with data:=.set es' (ep + 1) t' }:=by
  have:=Heap.get?_update_self (Obj.putSet es' t') g.get (by rw [putSet_of es' t' g.dat]; rfl)
  rw [putSet_of es' t' g.dat] at this; exact this
 exact ⟨hg,g.ex,rfl,hel,hb,hf,ht,hp,hn⟩
def addE (ks:List Int) (k:Int):List Int:=if k ∈ ks then ks else ks ++ [k]
theorem Zou {a:Addr} {ks:List Int} {k:Int} {tk:Tok} {Q:Bool->Shared->Prop} (hS:SetI prog w s.heap a ks) (hroom:ks.length + 1 < scanBound)
  (h:∀ b h',Heap.SameBut a s.heap h' -> SetI prog w h' a (addE ks k)->Q b { s with heap:=h' }) :
  wpAny (model prog w) A (setAddHashed a (.int k tk) (hashInt k)) Q E s:=by
 obtain ⟨o,es,ep,t,g⟩:=hS
 have hsz:=g.size
 have hkey:(intKind prog w).is k (.int k tk)=true:=intKind_is _ _ _ _
 unfold setAddHashed setAddHashedIn
 refine wpAny_holding (wpAny_bind (wpAny_setState_of g.get g.dat g.fit ?_))
 dsimp only
 rw [byScan_of (knd:=intKind prog w) rfl g.room g.el]
 simp only [↓reduceIte]
 unfold setAddByScan
 refine wpAny_bind ?_
 refine wpAny_bind (wpAny_rule ?_)
 refine wpAny_bind (wpAny_setScan_of (knd:=intKind prog w) (k:=k) hkey g.get g.dat g.fit g.el ?_)
 cases hr:List.findIdx? (fun e=>(intKind prog w).is k e.2) es.toList with
 | some j=>
  dsimp only
  obtain ⟨hj,hpj,_⟩:=List.findIdx?_eq_some_iff_getElem.mp hr
  have hk:k ∈ ks:=g.perm.mem_iff.mp ((Zle g.el).mp ⟨es.toList[j],List.getElem_mem hj,hpj⟩)
  refine wpAny_pure (wpAny_pure ?_)
  have e:s = { s with heap:=s.heap }:=by cases s; rfl
  rw [e]
  refine h _ s.heap (Heap.SameBut.refl a s.heap) ?_
  unfold addE
  rw [if_pos hk]
  exact ⟨o,es,ep,t,g⟩
 | none=>
  dsimp only
  have hk:k ∉ ks:=fun z=>by
   obtain ⟨e,he,hp⟩:=(Zle g.el).mpr (g.perm.mem_iff.mpr z)
   have:=List.findIdx?_eq_none_iff.mp hr e he
   rw [hp] at this; cases this
  have hgw:∀ (b:Bool) {s₁:Shared} {Q':Unit->Shared->Prop},Q' () s₁ -> wpAny (model prog w) A (match b with | true=>rule "set.scan.the-table-gave-way" | false=>pure ()) Q' E s₁:=
   fun b s₁ Q' hq=>by cases b <;> first | exact wpAny_pure hq | exact wpAny_rule hq
  have hperm:=layNew_perm t es (hashInt k) (.int k tk)
  have hfits:=layNew_fits t es (hashInt k) (.int k tk)
  have htab:=g.tab.layNew es (hashInt k) (.int k tk)
  generalize hL:layNew t es (hashInt k) (.int k tk)=L at hperm hfits htab ⊢
  obtain ⟨es1,t1,wasDummy,gave⟩:=L
  dsimp only at hperm hfits htab ⊢
  rw [Array.toList_push] at hperm
  have hel1:ElemsOf (intKind prog w) es1.toList:=(g.el.push (k:=k) hkey rfl).perm hperm
  have hsz1:es1.size=es.size + 1:=by rw [<- Array.length_toList,hperm.length_eq,List.length_append,Array.length_toList]; rfl
  have hb1:es1.size < scanBound:=by omega
  have hp1:(es1.toList.map fun e=>numOf e.2).Perm (ks ++ [k]):=by
   refine (hperm.map _).trans ?_
   rw [List.map_append]
   exact List.Perm.append_right _ g.perm
  have hnd1:(ks ++ [k]).Nodup:=by
   rw [List.nodup_append]
   refine ⟨g.nd,by simp,fun a ha b hb e=>?_⟩
   rw [List.mem_singleton.mp hb] at e
   exact hk (e ▸ ha)
  have eadd:addE ks k=ks ++ [k]:=by unfold addE; rw [if_neg hk]
  refine wpAny_bind (hgw _ ?_)
  have tail:∀ (Q2:Option Bool->Shared->Prop),(∀ h',Heap.SameBut a s.heap h' -> SetI prog w h' a (ks ++ [k])->Q2 (some true) { s with heap:=h' })->∀ (g0:Bool->Sem Unit),(∀ (b:Bool) (s₁:Shared) (Q':Unit->Shared->Prop),Q' () s₁ -> wpAny (model prog w) A (g0 b) Q' E s₁) →
    wpAny (model prog w) A (do
     storeSet a es1 t1
     if (!wasDummy && t1.tooFull)=true then do
       g0 (relayAll t1 es1 (SetTable.grown es1.size)).2.2
       storeSet a (relayAll t1 es1 (SetTable.grown es1.size)).1 (relayAll t1 es1 (SetTable.grown es1.size)).2.1
       pure (some true)
      else pure (some true)) Q2 E s:=by
   intro Q2 hq g0 hg0
   refine wpAny_bind (wpAny_storeSet_of g.get g.dat ?_ (fits_of_scanBound hb1))
   have g1:=g.store (es':=es1) (t':=t1) hel1 hb1 hfits htab hp1 hnd1
   have sb1:=Heap.SameBut.update s.heap a (Obj.putSet es1 t1)
   split
   ·have hp:=relayAll_perm t1 es1 (SetTable.grown es1.size)
    have hfr:=relayAll_fits t1 es1 (SetTable.grown es1.size)
    have htr:=htab.relay es1 (SetTable.grown es1.size)
    generalize hRl:relayAll t1 es1 (SetTable.grown es1.size)=Rl at hp hfr htr ⊢
    obtain ⟨es2,t3,gave2⟩:=Rl
    dsimp only at hp hfr htr ⊢
    have hsz2:es2.size=es1.size:=by rw [<- Array.length_toList,hp.length_eq,Array.length_toList]
    refine wpAny_bind (hg0 _ _ _ ?_)
    refine wpAny_bind (wpAny_storeSet_of g1.get rfl ?_ (fits_of_scanBound (by omega)))
    have g2:=g1.store (es':=es2) (t':=t3) (hel1.perm hp) (by omega) hfr htr ((hp.map _).trans hp1) hnd1
    exact wpAny_pure (hq _ (sb1.trans (Heap.SameBut.update _ a _)) ⟨_,_,_,_,g2⟩)
   ·exact wpAny_pure (hq _ sb1 ⟨_,_,_,_,g1⟩)
  have hgv:∀ (b:Bool) (s₁:Shared) (Q':Unit->Shared->Prop),Q' () s₁ -> wpAny (model prog w) A (match b with | true=>rule "set.scan.the-table-gave-way" | false=>pure ()) Q' E s₁:=fun b s₁ Q' hq=>hgw b hq
  split
  ·refine wpAny_bind ?_
   rw [hashByValue_scannable 8 (x:=.int k tk) rfl]
   refine wpAny_pure ?_
   simp only [plainKind,if_true]
   exact tail _ (fun h' sb hS'=>by dsimp only; exact wpAny_pure (h _ h' sb (by rw [eadd]; exact hS'))) _ hgv
  ·refine wpAny_bind (wpAny_pure ?_)
   simp only [↓reduceIte]
   exact tail _ (fun h' sb hS'=>by dsimp only; exact wpAny_pure (h _ h' sb (by rw [eadd]; exact hS'))) _ hgv
end
end
def metK (val:Nat->Int):Nat->List Int
 | 0=>[]
 | i + 1=>addE (metK val i) (val i)
theorem Zji (val:Nat->Int) (i:Nat):(metK val i).length<=i:=by
 induction i with
 | zero=>exact Nat.le_refl _
 | succ i ih=>
  show (addE (metK val i) (val i)).length<=i + 1
  unfold addE
  split
  ·omega
  ·rw [List.length_append,List.length_singleton]; omega
theorem Zoo {val:Nat->Int} {i:Nat} {x:Int}:x ∈ metK val i ↔ ∃ j,j < i/\val j=x:=by
 induction i with
 | zero=>simp [metK]
 | succ i ih=>
  show x ∈ addE (metK val i) (val i) ↔ _
  unfold addE
  constructor
  ·intro h
   split at h
   ·obtain ⟨j,hj,e⟩:=ih.mp h; exact ⟨j,by omega,e⟩
   ·rcases List.mem_append.mp h with h | h
    ·obtain ⟨j,hj,e⟩:=ih.mp h; exact ⟨j,by omega,e⟩
    ·exact ⟨i,by omega,(List.mem_singleton.mp h).symm⟩
  ·rintro ⟨j,hj,rfl⟩
   by_cases hji:j=i
   ·subst hji
    split
    ·assumption
    ·exact List.mem_append_right _ (by simp)
   ·have:=ih.mpr ⟨j,by omega,rfl⟩
    split
    ·exact this
    ·exact List.mem_append_left _ this
section
variable {prog:Program} {w:World} {A:Around} {R:Result->Shared->Prop} {I:Addr} {fp wr:List Addr} {G:Array GenState->Array GenState->Prop} {n:Nat} {P:Nat->Value->Prop} {St:Nat->Shared->Prop}
theorem Zip (W:WalksS prog w A.in1 I fp wr G n P St) (S:Addr) (hSf:S ∉ fp)
  (val:Nat->Int) (hval:∀ i v,P i v->∃ t,v=.int (val i) t) (hb:n + 1 < scanBound) :
  ∀ (k i:Nat) (s:Shared),n - i=k->i<=n->St i s->SetI prog w s.heap S (metK val i) →
   (∀ s',Moved (S :: wr) G s s' -> SetI prog w s'.heap S (metK val n)->R (.ok (.ret .none)) s') →
   codeAny (model prog w) A (.builtin "set.update.loop" ⟨[.ref S,.ref I],[]⟩) R s:=by
 have hSw:S ∉ wr:=fun h=>hSf (W.sub _ h)
 have hsub:∀ b ∈ wr,b ∈ S :: wr:=fun b hb=>List.mem_cons_of_mem _ hb
 intro k
 induction k with
 | zero=>
  intro i s hk hi hst hS hR
  have hin:i=n:=by omega
  subst hin
  refine codeAny_builtin F.entry_set_update_loop ?_
  rw [Around.under_plainId F.plain_set_update_loop _]
  show wpAny _ A.in1 (pyNext (.ref I) >>= _) _ _ s
  refine wpAny_bind (W.done s _ _ hst fun s' hm=>?_)
  show wpAny _ A.in1 (ret Value.none) _ _ s'
  exact wpAny_pure (hR s' (hm.mono hsub) (hS.keep fun o e=>hm.heap S o hSw e))
 | succ k ih=>
  intro i s hk hi hst hS hR
  have hlt:i < n:=by omega
  refine codeAny_builtin F.entry_set_update_loop ?_
  rw [Around.under_plainId F.plain_set_update_loop _]
  show wpAny _ A.in1 (pyNext (.ref I) >>= _) _ _ s
  refine wpAny_bind (W.item i s _ _ hlt hst fun v s' hP hst' hm=>?_)
  obtain ⟨t,rfl⟩:=hval i v hP
  have hS':SetI prog w s'.heap S (metK val i):=hS.keep fun o e=>hm.heap S o hSw e
  show wpAny _ A.in1 (holding [Value.int (val i) t] (setAdd S (.int (val i) t)) >>= _) _ _ s'
  refine wpAny_bind (wpAny_holding ?_)
  unfold setAdd
  refine wpAny_holding ?_
  refine wpAny_bind ((intKind prog w).pyHash (k:=val i) (intKind_is _ _ _ _) ?_)
  have hroom:(metK val i).length + 1 < scanBound:=by have:=Zji val i; omega
  refine Zou (s:={ s' with toks:=s'.toks + 1 }) hS' hroom fun b h' hsb hS2=>?_
  refine wpAny_pure ⟨plainId_quiet F.plain_set_update_loop _,ih (i + 1) _ (by omega) hlt (W.frame _ s' _ _ hst' (Nat.le_succ _) fun b hb o e=>?_) hS2 fun s'' hm'' hS''=>?_⟩
  ·rw [hsb.2 b (fun h:b=S=>hSf (by rw [<- h]; exact hb))]; exact e
  ·refine hR s'' (Moved.trans W.gtrans ((hm.mono hsub).then_heap (Nat.le_succ _) fun b o hb e=>?_) hm'') hS''
   rw [hsb.2 b (fun h:b=S=>hb (by rw [h]; exact List.mem_cons_self))]; exact e
end
section
variable {prog:Program} {w:World} {A:Around} {E:Value->Shared->Prop} {s:Shared}
abbrev set0 (w:World):Obj:={ cls:=.type "set",dict:=none,data:=.set #[] 0 (.fresh 0 0 (!byTextB w)) }
theorem Zny (x:Value) {N:Value->Shared->Prop} (h:N (.ref s.heap.objs.size) { s with heap:=s.heap.push (set0 w) }) :
  codeAny (model prog w) A (.call (.builtin "set.__new__") ⟨[.type "set",x],[]⟩) (wants N E) s:=
 codeAny_of_tree (by
  have su:=sub_set_self
  obtain ⟨hp,g,d,tk,os⟩:=s
  refine wpAny_bind (m:=checkBuiltinCall "set.__new__" ⟨[.type "set",x],[]⟩) (wpAny_of_eq (F.newCall_set_1 x) (wpAny_pure ⟨plainId_quiet F.plain_set_new _,codeAny_builtin F.entry_set_new ?_⟩))
  rw [Around.under_plainId F.plain_set_new _]
  unfold Builtin.«set.__new__» Builtin.Frozenset.newClass
  wp_walk
  refine wpAny_askSetting (wpAny_pure ?_)
  simp only [newObj]
  exact wpAny_bind (wpAny_alloc (wpAny_pure (wpAny_pure h))))
theorem Zlx {S l:Addr} {its:Array Value} {ns:List Int} {N:Result->Shared->Prop} (hh:A.handled=none) (hS:s.heap.get? S=some (set0 w)) (hl:s.heap.IsList l its) (hi:IntsAre its.toList ns) (hb:its.size + 1 < scanBound)
  (q:∀ h' tk,SetI prog w h' S (metK (fun i=>ns.getD i 0) its.size)->(∀ b o,b ≠ S->s.heap.get? b=some o->h'.get? b=some o)->N (.ok (.ret .none)) { s with heap:=h',toks:=tk }) :
  wpAny (model prog w) A.in1 (Builtin.«set.__init__» ⟨[.ref S,.ref l],[]⟩) (fun fin s'=>match fin with | .done f=>N (.ok f) s' | .again c=>c.quiet=true/\codeAny (model prog w) A c N s') (fun e s'=>N (.error e) s') s:=by
 have lS:l ≠ S:=by
  obtain ⟨o,e,c,_⟩:=hl
  intro z; subst z
  rw [hS] at e; cases e
  exact absurd (show Value.type "set" = Value.type "list" from c) (by decide)
 have lt:l < s.heap.objs.size:=by obtain ⟨o,e,_⟩:=hl; exact Heap.lt_size e
 have ltS:S < s.heap.objs.size:=Heap.lt_size hS
 obtain ⟨⟨c0,d0,dt0,sl0⟩,e0,hc0,n0,hd0⟩:=id hl
 simp only at hc0 hd0
 subst hc0 hd0
 have hT:s.TypeIs (.ref S) "set":=⟨_,hS,rfl⟩
 have k1:=F.sub_list_set
 have k2:=F.sub_list_frozenset
 have k3:(Value.type "list" == Value.type "dict")=false:=by decide
 unfold Builtin.«set.__init__» noKeywords Builtin.Frozenset.updateFrom
 generalize hPI:pyIter=PI
 wp_walk
 subst hPI
 refine wpAny_pyIter_list hl (wpAny_bind (wpAny_runValue ?_))
 have ne1:l ≠ s.heap.objs.size:=Nat.ne_of_lt lt
 have ne2:S ∉ [s.heap.objs.size,l]:=by
  simp only [List.mem_cons,List.not_mem_nil,or_false,not_or]
  exact ⟨Nat.ne_of_lt ltS,Ne.symm lS⟩
 refine Zip (Walks.list (by simp [hh]) _ l ne1 its).toS S ne2 (fun i=>ns.getD i 0) (fun i v e=>IntsAre.int_at hi i v (by rw [Array.getElem?_toList]; exact e)) hb its.size 0 _ (by omega) (Nat.zero_le _) ⟨⟨_,Heap.get?_push_size _ rfl,rfl,rfl⟩,hl.push _⟩ ?_ fun s2 mv fin=>?_
 ·exact ⟨_,#[],0,_,Heap.get?_push_of_some _ hS,⟨rfl,rfl,rfl⟩,rfl,fun e he=>by simp at he,by decide,by rfl,TabOk.fresh _,List.Perm.refl _,List.nodup_nil⟩
 ·rw [Moved.eq_with mv]
  refine wpAny_pure (wpAny_pure (q _ _ fin fun b o hb e=>mv.heap b o ?_ (Heap.get?_push_of_some _ e)))
  simp only [List.mem_cons,List.not_mem_nil,or_false,not_or]
  exact ⟨hb,Nat.ne_of_lt (Heap.lt_size e)⟩
set_option maxHeartbeats 3200000 in
theorem Zmx {l:Addr} {its:Array Value} {ns:List Int} {Q:Value->Shared->Prop} (hh:A.handled=none) (hl:s.heap.IsList l its) (hi:IntsAre its.toList ns) (hb:its.size + 1 < scanBound)
  (q:∀ (h':Heap) (tk:Nat),SetI prog w h' s.heap.objs.size (metK (fun i=>ns.getD i 0) its.size)->(∀ b o,s.heap.get? b=some o->h'.get? b=some o)->Q (.ref s.heap.objs.size) { s with heap:=h',toks:=tk }) :
  wpAny (model prog w) A (call (.type "set") [.ref l]) Q E s:=by
 have ft:=F.called_set
 obtain ⟨c,tl,e1⟩:=ft.mro
 have e2:=ft.made
 have e3:=ft.sub
 have e4:=ft.notType
 have e5:=ft.canCreate
 have e6:=F.typeCall_set_1 (.ref l)
 refine wpAny_call (codeAny_of_tree (show wpAny _ _ (callAny (.type "set") _) _ _ _ from wpAny_pure ⟨Code.quiet_builtin _ (by decide +kernel),codeAny_builtin F.entry_type_call ?_⟩))
 rw [Around.under_plain (weight_type_call_type _ _ _) rfl]
 repeat (any_goals (first | assumption | wp_step))
 refine codeAny_mono (Zny (.ref l) (E:=E) (N:=fun v s1=>v=.ref s.heap.objs.size/\s1 = { s with heap:=s.heap.push (set0 w) }) ⟨rfl,rfl⟩) fun r s1 hr=>?_
 cases r with
 | error e=>exact hr
 | ok fl=>
  cases fl with
  | ret v=>
   obtain ⟨rfl,rfl⟩:=hr
   have hS:(s.heap.push (set0 w)).get? s.heap.objs.size=some (set0 w):=Heap.get?_push_size _ rfl
   have hT:Shared.TypeIs { s with heap:=s.heap.push (set0 w) } (.ref s.heap.objs.size) "set":=⟨_,hS,rfl⟩
   have f1:=ft.init.lookup
   have f2:=ft.init.bind (.ref s.heap.objs.size)
   repeat (any_goals (first | assumption | wp_step))
   refine codeAny_mono (codeAny_call_builtin (R:=wants (fun r s2=>r=.none/\Q (.ref s.heap.objs.size) s2) E) ft.init.plain F.entry_set_init (check_set_init_1 hT (Zlx (by simp [hh]) hS (hl.push _) hi hb fun h' tk z1 z2=>⟨rfl,q h' tk z1 fun b o e=>z2 b o (Nat.ne_of_lt (Heap.lt_size e)) (Heap.get?_push_of_some _ e)⟩))) fun r2 s2 hr2=>?_
   cases r2 with
   | error e=>exact hr2
   | ok fl2=>
    cases fl2 with
    | ret r=>
     obtain ⟨rfl,hq⟩:=hr2
     repeat (any_goals (first | assumption | wp_step))
    | _=>exact hr2.elim
  | _=>exact hr.elim
end
end L2
namespace L2
open PySem PySem.Spec PyProof.Rows PySem.SeqAt
theorem Za6:PySem.Slot "set_iterator" "__next__" "set_iterator.__next__":=
 .of (owner:="set_iterator") (n:="__next__") (by rw [typeLookup_type,builtinLookup_eq_fast]; kernel_rfl) (by decide +kernel) (by decide +kernel) (by decide +kernel)
  (by first | exact .inl (by decide +kernel) | exact .inr (by decide +kernel)) (by rw [isSubtype_type]; kernel_rfl)
theorem Zca:entryFor table "set_iterator.__next__" = some Builtin.«set_iterator.__next__»:=entryFor_of_tree (by kernel_rfl)
theorem Zgg:entryFor table "set.__iter__" = some Builtin.«frozenset.__iter__»:=entryFor_alias (id':="frozenset.__iter__") (by kernel_rfl) rfl (by decide +kernel) (by kernel_rfl)
theorem Zch (a:Value):argsOk "set_iterator.__next__" ⟨[a],[]⟩:=by
 unfold argsOk; kernel_rfl
abbrev setItO (first:Value) (i:Nat) (a:Addr) (n ep:Nat):Obj:={ cls:=.type "set_iterator",dict:=none,data:=.fields #[first,.int i 0,.ref a,.int n 0,.int ep 0],slots:=#[] }
section
variable {prog:Program} {w:World} {A:Around} {E:Value->Shared->Prop} {s:Shared}
theorem Zkn {I a:Addr} {slot i next:Nat} {x:Value} {o:Obj} {es:Array (Int × Value)} {ep:Nat} {t:SetTable} {ks:List Int} {Q:Option Value->Shared->Prop} (hI:s.heap.get? I=some (setItO (.int slot 0) i a es.size ep)) (g:SetG prog w s.heap a o es ep t ks)
  (hn:∀ (A:Around) (E:Value->Shared->Prop) (Q':Option (Value × Nat)->Shared->Prop),Q' (some (x,next)) s->wpAny (model prog w) A (setNext a slot i ep) Q' E s)
  (q:∀ h',h'.get? I=some (setItO (.int next 0) (i + 1) a es.size ep)->Heap.SameBut I s.heap h' -> Q (some x) { s with heap:=h' }):wpAny (model prog w) A (pyNext (.ref I)) Q E s:=by
 have hT:s.TypeIs (.ref I) "set_iterator":=⟨_,hI,rfl⟩
 unfold pyNext
 refine wpAny_bind (wpAny_attempt (wpAny_callSpecial?_slot (name:=Str.ofString "__next__") hT Za6 (wpAny_call_entry Za6 hT Zca ?_ (Zch _))))
 refine wpAny_bind (wpAny_pure ?_)
 refine wpAny_bind (wpAny_fieldsOf hI rfl ?_)
 refine wpAny_bind (wpAny_setEntries_of g.get g.dat g.fit ?_)
 rw [if_neg (by simp)]
 refine wpAny_bind (hn _ _ _ ?_)
 refine wpAny_bind (wpAny_setField_rec hI (by simp) fun h1 e1 sb1=>?_)
 refine wpAny_bind (wpAny_setField_rec (s:={ s with heap:=h1 }) e1 (by simp) fun h2 e2 sb2=>?_)
 exact wpAny_pure ⟨_,rfl,wpAny_pure (q h2 (by rw [e2]; rfl) (sb1.trans sb2))⟩
theorem Zkr {I a:Addr} {slot i:Nat} {o:Obj} {es:Array (Int × Value)} {ep:Nat} {t:SetTable} {ks:List Int} {Q:Option Value->Shared->Prop} (hh:A.handled=none) (hI:s.heap.get? I=some (setItO (.int slot 0) i a es.size ep)) (g:SetG prog w s.heap a o es ep t ks)
  (hn:∀ (A:Around) (E:Value->Shared->Prop) (Q':Option (Value × Nat)->Shared->Prop),Q' none s->wpAny (model prog w) A (setNext a slot i ep) Q' E s)
  (q:∀ h',Heap.ExtBut I s.heap h' -> Q none { s with heap:=h' }):wpAny (model prog w) A (pyNext (.ref I)) Q E s:=by
 have hT:s.TypeIs (.ref I) "set_iterator":=⟨_,hI,rfl⟩
 unfold pyNext
 refine wpAny_bind (wpAny_attempt (wpAny_callSpecial?_slot (name:=Str.ofString "__next__") hT Za6 (wpAny_call_entry Za6 hT Zca ?_ (Zch _))))
 refine wpAny_bind (wpAny_pure ?_)
 refine wpAny_bind (wpAny_fieldsOf hI rfl ?_)
 refine wpAny_bind (wpAny_setEntries_of g.get g.dat g.fit ?_)
 rw [if_neg (by simp)]
 refine wpAny_bind (hn _ _ _ ?_)
 refine wpAny_bind (wpAny_setField_rec hI (by simp) fun h1 e1 sb1=>wpAny_bind ?_)
 simp only [newExc,newTuple]
 refine wpAny_bind (wpAny_newObj_type ?_ (by size_fits))
 refine wpAny_bind (m:=firstArgMember _ _) (wpAny_of_eq (a:=Value.none) (by first | rfl | (simp only [firstArgMember]; rfl)) ?_)
 refine wpAny_newObj_type ?_ (by size_fits)
 simp only [raiseNew]
 refine wpAny_bind (wpAny_handled ?_)
 rw [show A.in1.handled=none from hh]
 refine wpAny_bind (wpAny_pure (wpAny_throw ?_))
 refine wpAny_bind (wpAny_isInstance (T:="StopIteration") (b:=true) ⟨_,Heap.get?_push_size _ rfl,rfl⟩ isSubtype_stop ?_)
 exact wpAny_pure (q _ ((sb1.extBut.push _).push _))
theorem Zit {I a T:Addr} {i k:Nat} {e:Int × Value} {o:Obj} {es:Array (Int × Value)} {ep:Nat} {t:SetTable} {ks:List Int} {pl:List Nat} {Q:Option Value->Shared->Prop} (hI:s.heap.get? I=some (setItO (.ref T) i a es.size ep)) (g:SetG prog w s.heap a o es ep t ks)
  (hT:s.heap.get? T=some { cls:=.type "tuple",data:=.seq (pl.map fun j:Nat=>rawInt (j:Int)).toArray }) (hk:pl[i]? = some k) (he:es[k]? = some e)
  (q:∀ h',h'.get? I=some (setItO (.ref T) (i + 1) a es.size ep)->Heap.SameBut I s.heap h' -> Q (some e.2) { s with heap:=h' }):wpAny (model prog w) A (pyNext (.ref I)) Q E s:=by
 have hTy:s.TypeIs (.ref I) "set_iterator":=⟨_,hI,rfl⟩
 unfold pyNext
 refine wpAny_bind (wpAny_attempt (wpAny_callSpecial?_slot (name:=Str.ofString "__next__") hTy Za6 (wpAny_call_entry Za6 hTy Zca ?_ (Zch _))))
 refine wpAny_bind (wpAny_pure ?_)
 refine wpAny_bind (wpAny_fieldsOf hI rfl ?_)
 refine wpAny_bind (wpAny_setEntries_of g.get g.dat g.fit ?_)
 rw [if_neg (by simp)]
 refine wpAny_bind (wpAny_seqItems hT rfl ?_)
 have e1:(pl.map fun j:Nat=>rawInt (j:Int)).toArray[(i:Int).toNat]? = some (.int (k:Int) 0):=by
  rw [Int.toNat_natCast,List.getElem?_toArray,List.getElem?_map,hk]; rfl
 dsimp only
 rw [e1]
 dsimp only
 unfold setNextDrawn
 refine wpAny_bind (wpAny_bind (wpAny_setState_of g.get g.dat g.fit ?_))
 dsimp only
 rw [if_neg (by simp)]
 rw [show es[(k:Int).toNat]? = some e from by rw [Int.toNat_natCast]; exact he]
 obtain ⟨e1,e2⟩:=e
 refine wpAny_pure ?_
 refine wpAny_bind (wpAny_setField_rec hI (by simp) fun h2 e2' sb2=>?_)
 exact wpAny_pure ⟨_,rfl,wpAny_pure (q h2 (by rw [e2']; rfl) sb2)⟩
theorem Zgh {I a T:Addr} {i:Nat} {o:Obj} {es:Array (Int × Value)} {ep:Nat} {t:SetTable} {ks:List Int} {pl:List Nat} {Q:Option Value->Shared->Prop} (hh:A.handled=none) (hI:s.heap.get? I=some (setItO (.ref T) i a es.size ep)) (g:SetG prog w s.heap a o es ep t ks)
  (hT:s.heap.get? T=some { cls:=.type "tuple",data:=.seq (pl.map fun j:Nat=>rawInt (j:Int)).toArray }) (hk:pl[i]? = none)
  (q:∀ h',Heap.ExtBut I s.heap h' -> Q none { s with heap:=h' }):wpAny (model prog w) A (pyNext (.ref I)) Q E s:=by
 have hTy:s.TypeIs (.ref I) "set_iterator":=⟨_,hI,rfl⟩
 unfold pyNext
 refine wpAny_bind (wpAny_attempt (wpAny_callSpecial?_slot (name:=Str.ofString "__next__") hTy Za6 (wpAny_call_entry Za6 hTy Zca ?_ (Zch _))))
 refine wpAny_bind (wpAny_pure ?_)
 refine wpAny_bind (wpAny_fieldsOf hI rfl ?_)
 refine wpAny_bind (wpAny_setEntries_of g.get g.dat g.fit ?_)
 rw [if_neg (by simp)]
 refine wpAny_bind (wpAny_seqItems hT rfl ?_)
 have e1:(pl.map fun j:Nat=>rawInt (j:Int)).toArray[(i:Int).toNat]? = none:=by
  rw [Int.toNat_natCast,List.getElem?_toArray,List.getElem?_map,hk]; rfl
 dsimp only
 rw [e1]
 dsimp only
 refine wpAny_bind (wpAny_setField_rec hI (by simp) fun h1 e1 sb1=>?_)
 refine wpAny_bind (wpAny_setField_rec (s:={ s with heap:=h1 }) e1 (by simp) fun h2 e2 sb2=>wpAny_bind ?_)
 simp only [newExc,newTuple]
 refine wpAny_bind (wpAny_newObj_type ?_ (by size_fits))
 refine wpAny_bind (m:=firstArgMember _ _) (wpAny_of_eq (a:=Value.none) (by first | rfl | (simp only [firstArgMember]; rfl)) ?_)
 refine wpAny_newObj_type ?_ (by size_fits)
 simp only [raiseNew]
 refine wpAny_bind (wpAny_handled ?_)
 rw [show A.in1.handled=none from hh]
 refine wpAny_bind (wpAny_pure (wpAny_throw ?_))
 refine wpAny_bind (wpAny_isInstance (T:="StopIteration") (b:=true) ⟨_,Heap.get?_push_size _ rfl,rfl⟩ isSubtype_stop ?_)
 exact wpAny_pure (q _ (((sb1.trans sb2).extBut.push _).push _))
theorem Zgw (a:Addr) (slot given ep:Nat):setNext a slot given ep=(do
  let (es,epoch,t) ← setState a
  if ← setsByText then
   if epoch != ep then unsupported "set_iterator.__next__:elements-changed"
   return ((← setWalk a)[given]?).map fun e=>(e.2,slot)
  if !t.plain && es.size > 1 then unsupported "set_iterator.__next__:the-table-is-plain-no-more"
  let _ ← (if !t.led && !es.isEmpty then unsupported "set:maker-not-led" else pure ():Sem Unit)
  let i:=SetTable.below t.place slot
  return match es[i]?,t.place[i]? with
   | some (_,x),some j=>some (x,j + 1)
   | _,_=>none):=rfl
theorem Zkf (a:Addr):setWalk a=(do
  let (es,epoch,t) ← setState a
  if ← setsByText then return pickOrder ((← ask).params.setOrder a epoch) es
  if !t.plain && es.size > 1 then return (← drawOrder es.size es.toList).toArray
  let _ ← (if !t.led && es.size > 1 then unsupported "set:maker-not-led" else pure ():Sem Unit)
  return es):=rfl
theorem Zi6 (a:Addr):setDrawn a=(do
  let (es,_,t) ← setState a
  let byText ← setsByText
  return !byText && (!t.plain && es.size > 1)):=rfl
end
end L2
namespace L2
open PySem PySem.Spec PyProof.Rows PySem.SeqAt
theorem Zdt:PySem.Slot "set_iterator" "__iter__" "set_iterator.__iter__":=
 .of (owner:="set_iterator") (n:="__iter__") (by rw [typeLookup_type,builtinLookup_eq_fast]; kernel_rfl) (by decide +kernel) (by decide +kernel) (by decide +kernel)
  (by first | exact .inl (by decide +kernel) | exact .inr (by decide +kernel)) (by rw [isSubtype_type]; kernel_rfl)
theorem Ze9:entryFor table "set_iterator.__iter__" = some Builtin.«dict_keyiterator.__iter__»:=entryFor_alias (id':="dict_keyiterator.__iter__") (by kernel_rfl) rfl (by decide +kernel) (by kernel_rfl)
theorem Zfv (a:Value):argsOk "set_iterator.__iter__" ⟨[a],[]⟩:=by unfold argsOk; kernel_rfl
section
variable {prog:Program} {w:World} {A:Around} {E:Value->Shared->Prop} {s:Shared}
theorem Zgz {I:Addr} {first:Value} {i n ep:Nat} {a:Addr} {Q:Value->Shared->Prop} (hI:s.heap.get? I=some (setItO first i a n ep)) (q:Q (.ref I) s):wpAny (model prog w) A (pyIter (.ref I)) Q E s:=by
 have hT:s.TypeIs (.ref I) "set_iterator":=⟨_,hI,rfl⟩
 refine wpAny_pyIter_slot hT Zdt (wpAny_call_entry Zdt hT Ze9 ?_ (Zfv _))
 show wpAny _ _ (ret (.ref I)) _ _ s
 exact wpAny_pure ⟨_,rfl,"set_iterator",_,hT,Za6.lookup,q⟩
theorem Zej {Q:Bool->Shared->Prop} (q:Q (byTextB w) s):wpAny (model prog w) A setsByText Q E s:=by
 unfold setsByText
 exact wpAny_bind (wpAny_askSetting (wpAny_pure q))
theorem Zhn {a:Addr} {slot given ep:Nat} {o:Obj} {es:Array (Int × Value)} {t:SetTable} {ks:List Int} {Q:Option (Value × Nat)->Shared->Prop} (hb:byTextB w=true) (g:SetG prog w s.heap a o es ep t ks)
  (q:Q (((pickOrder (w.params.setOrder a ep) es)[given]?).map fun e=>(e.2,slot)) s):wpAny (model prog w) A (setNext a slot given ep) Q E s:=by
 rw [Zgw]
 refine wpAny_bind (wpAny_setState_of g.get g.dat g.fit (wpAny_bind (Zej ?_)))
 rw [hb]
 simp only [if_true]
 rw [if_neg (by simp),Zkf]
 refine wpAny_bind (wpAny_bind (wpAny_setState_of g.get g.dat g.fit (wpAny_bind (Zej ?_))))
 rw [hb]
 simp only [if_true]
 exact wpAny_bind (wpAny_askSetting (wpAny_pure (wpAny_pure q)))
theorem Zgj {a:Addr} {slot given ep:Nat} {o:Obj} {es:Array (Int × Value)} {t:SetTable} {ks:List Int} {Q:Option (Value × Nat)->Shared->Prop} (hb:byTextB w=false) (g:SetG prog w s.heap a o es ep t ks) (hd:(!t.plain && decide (es.size > 1))=false)
  (q:Q (match es[SetTable.below t.place slot]?,t.place[SetTable.below t.place slot]? with | some (_,x),some j=>some (x,j + 1) | _,_=>none) s):wpAny (model prog w) A (setNext a slot given ep) Q E s:=by
 have hl:t.led=true:=by rw [g.tab.led,hb]; rfl
 rw [Zgw]
 refine wpAny_bind (wpAny_setState_of g.get g.dat g.fit (wpAny_bind (Zej ?_)))
 rw [hb]
 simp only [Bool.false_eq_true,if_false,hd,hl,Bool.not_true,Bool.false_and]
 exact wpAny_bind (wpAny_pure (wpAny_pure q))
theorem Ze1 {α:Type}:∀ {l:List α} {i:Nat} (h:i < l.length),(l[i] :: l.eraseIdx i).Perm l
 | x :: l,0,_=>List.Perm.refl _
 | x :: l,i + 1,h=>by
  have h':i < l.length:=by simpa using h
  show (l[i] :: x :: l.eraseIdx i).Perm (x :: l)
  exact (List.Perm.swap _ _ _).trans (List.Perm.cons _ (Ze1 h'))
theorem Zmd {α:Type} (next:Nat->Nat):∀ (fuel k:Nat) (left:List α) (out:Array α),left.length=fuel->(pickOrder.go next fuel k left out).toList.Perm (out.toList ++ left)
 | 0,k,left,out,h=>by
  have:left=[]:=List.eq_nil_of_length_eq_zero h
  subst this
  unfold pickOrder.go
  rw [List.append_nil]
 | fuel + 1,k,left,out,h=>by
  unfold pickOrder.go
  have hi:next k % left.length < left.length:=Nat.mod_lt _ (by omega)
  rw [List.getElem?_eq_getElem hi]
  dsimp only
  refine (Zmd next fuel (k + 1) _ _ (by rw [List.length_eraseIdx_of_lt hi]; omega)).trans ?_
  rw [Array.toList_push,List.append_assoc]
  refine List.Perm.append_left _ ?_
  exact Ze1 hi
theorem Zlf {α:Type} (next:Nat->Nat) (xs:Array α):(pickOrder next xs).toList.Perm xs.toList:=by
 unfold pickOrder
 exact Zmd next xs.size 0 xs.toList #[] (by simp)
def slotAt (pl:Array Nat):Nat->Nat
 | 0=>0
 | j + 1=>pl.getD j 0 + 1
theorem Ze6 {pl:Array Nat} (R:Ris pl) {j:Nat} (hj:j<=pl.size):SetTable.below pl (slotAt pl j)=j:=by
 obtain ⟨b1,b2,b3⟩:=Zgu R (slotAt pl j)
 cases j with
 | zero=>
  apply Classical.byContradiction
  intro h
  have hlt:0 < pl.size:=by omega
  have:=b2 0 _ (by omega) (Array.getElem?_eq_getElem hlt)
  exact absurd this (by show ¬ _ < 0; omega)
 | succ j=>
  have hlt:j < pl.size:=by omega
  have hg:pl.getD j 0=pl[j]:=by simp [Array.getD,hlt]
  have es:slotAt pl (j + 1)=pl[j] + 1:=by show pl.getD j 0 + 1=_; rw [hg]
  rw [es] at b1 b2 b3 ⊢
  rcases Nat.lt_trichotomy (SetTable.below pl (pl[j] + 1)) (j + 1) with z | z | z
  ·have:=b3 j _ (by omega) (Array.getElem?_eq_getElem hlt)
   omega
  ·exact z
  ·have hlt2:j + 1 < pl.size:=by omega
   have h1:=b2 (j + 1) _ z (Array.getElem?_eq_getElem hlt2)
   have h2:=R j (j + 1) _ _ (by omega) (Array.getElem?_eq_getElem hlt) (Array.getElem?_eq_getElem hlt2)
   omega
theorem SetG.keep {h h':Heap} {a:Addr} {o:Obj} {es:Array (Int × Value)} {ep:Nat} {t:SetTable} {ks:List Int} (g:SetG prog w h a o es ep t ks) (k:∀ o,h.get? a=some o->h'.get? a=some o):SetG prog w h' a o es ep t ks:=
 ⟨k _ g.get,g.ex,g.dat,g.el,g.room,g.fit,g.tab,g.perm,g.nd⟩
theorem Zgq (hh:A.handled=none) {I a:Addr} (hne:a ≠ I) {o:Obj} {es:Array (Int × Value)} {ep:Nat} {t:SetTable} {ks:List Int} (sl:Nat->Nat) (L:List (Int × Value))
  (hs:∀ (s:Shared) j e,SetG prog w s.heap a o es ep t ks->L[j]? = some e->∀ (A:Around) (E:Value->Shared->Prop) (Q':Option (Value × Nat)->Shared->Prop),Q' (some (e.2,sl (j + 1))) s->wpAny (model prog w) A (setNext a (sl j) j ep) Q' E s)
  (hd:∀ (s:Shared),SetG prog w s.heap a o es ep t ks->∀ (A:Around) (E:Value->Shared->Prop) (Q':Option (Value × Nat)->Shared->Prop),Q' none s->wpAny (model prog w) A (setNext a (sl L.length) L.length ep) Q' E s) :
  Walks prog w A I [I,a] [I] L.length (fun j v=>∃ e,L[j]? = some e/\v=e.2) (fun j h=>h.get? I=some (setItO (.int (sl j) 0) j a es.size ep)/\SetG prog w h a o es ep t ks) where
 sub:=fun b hb=>by simp at hb; simp [hb]
 frame:=fun _ _ _ st hk=>⟨hk I (by simp) _ st.1,st.2.keep fun o e=>hk a (by simp) o e⟩
 item:=fun i s Q E hi st hQ=>by
  refine Zkn st.1 st.2 (hs s i _ st.2 (List.getElem?_eq_getElem hi)) fun h' e sb=>?_
  refine hQ _ h' s.toks ⟨_,List.getElem?_eq_getElem hi,rfl⟩ ⟨e,st.2.keep fun o q=>(sb.2 a hne).trans q⟩ fun b o hb q=>(sb.2 b (fun z=>hb (by simp [z]))).trans q
 done:=fun s Q E st hQ=>Zkr hh st.1 st.2 (hd s st.2) fun h' eb=>hQ h' s.toks fun b o hb e=>eb b o (fun z=>hb (by simp [z])) e
 self:=fun _ _ _ _ st hQ=>Zgz st.1 hQ
theorem Ziq (hh:A.handled=none) {I a T:Addr} (hne:a ≠ I) (hnt:T ≠ I) {o:Obj} {es:Array (Int × Value)} {ep:Nat} {t:SetTable} {ks:List Int} (pl:List Nat) (L:List (Int × Value)) (hl:L.length=pl.length) (hs:∀ (j k:Nat) e,pl[j]? = some k->L[j]? = some e->es[k]? = some e) :
  Walks prog w A I [I,a,T] [I] L.length (fun j v=>∃ e,L[j]? = some e/\v=e.2) (fun j h=>h.get? I=some (setItO (.ref T) j a es.size ep)/\SetG prog w h a o es ep t ks/\h.get? T=some { cls:=.type "tuple",data:=.seq (pl.map fun j:Nat=>rawInt (j:Int)).toArray }) where
 sub:=fun b hb=>by simp at hb; simp [hb]
 frame:=fun _ _ _ st hk=>⟨hk I (by simp) _ st.1,st.2.1.keep fun o e=>hk a (by simp) o e,hk T (by simp) _ st.2.2⟩
 item:=fun i s Q E hi st hQ=>by
  have hp:i < pl.length:=by omega
  refine Zit st.1 st.2.1 st.2.2 (List.getElem?_eq_getElem hp) (hs i _ _ (List.getElem?_eq_getElem hp) (List.getElem?_eq_getElem hi)) fun h' e sb=>?_
  refine hQ _ h' s.toks ⟨_,List.getElem?_eq_getElem hi,rfl⟩ ⟨e,st.2.1.keep fun o q=>(sb.2 a hne).trans q,(sb.2 T hnt).trans st.2.2⟩ fun b o hb q=>(sb.2 b (fun z=>hb (by simp [z]))).trans q
 done:=fun s Q E st hQ=>Zgh hh st.1 st.2.1 st.2.2 (List.getElem?_eq_none (by omega)) fun h' eb=>hQ h' s.toks fun b o hb e=>eb b o (fun z=>hb (by simp [z])) e
 self:=fun _ _ _ _ st hQ=>Zgz st.1 hQ
theorem Zmw {src:Source} {n:Nat} {Q:Nat->Shared->Prop} (hn:n ≠ 0) (q:∀ k dr,k < n->Q k { s with drawn:=dr }):wpAny (model prog w) A (choose src n) Q E s:=by
 intro Γ p _
 unfold choose
 rw [Sem.wp_choose]
 refine ⟨hn,?_⟩
 show Sem.wp _ _ (Sem.pure _) _ _ _ _
 first | rw [Sem.wp_pure] | simp only [Sem.wp]
 exact q _ _ (Nat.mod_lt _ (Nat.pos_of_ne_zero hn))
theorem Zla:∀ (n:Nat) {s:Shared} {xs:List Nat} {Q:List Nat->Shared->Prop},xs.length=n->(∀ ys dr,ys.Perm xs->Q ys { s with drawn:=dr })->wpAny (model prog w) A (drawOrder n xs) Q E s
 | 0,s,xs,Q,h,q=>by
  have:xs=[]:=List.eq_nil_of_length_eq_zero h
  subst this
  unfold drawOrder
  exact wpAny_pure (q [] s.drawn (List.Perm.refl _))
 | n + 1,s,[],Q,h,q=>by simp at h
 | n + 1,s,x :: xs,Q,h,q=>by
  unfold drawOrder
  refine wpAny_bind (Zmw (by simp) fun k dr hk=>?_)
  rw [List.getElem?_eq_getElem hk]
  refine wpAny_bind (Zla n (by rw [List.length_eraseIdx_of_lt hk]; omega) fun ys dr' hy=>wpAny_pure (q _ dr' ?_))
  exact (List.Perm.cons _ hy).trans (Ze1 hk)
end
end L2
namespace L2
open PySem PySem.Spec PyProof.Rows PySem.SeqAt
section
variable {prog:Program} {w:World} {A:Around} {E:Value->Shared->Prop} {s:Shared}
structure SWalk (prog:Program) (w:World) (A:Around) (a:Addr) (es:Array (Int × Value)) (s s1:Shared) (I:Addr) where
 fp:List Addr
 L:List (Int × Value)
 St:Nat->Heap->Prop
 old:∀ b o,s.heap.get? b=some o->s1.heap.get? b=some o
 new:s.heap.objs.size<=I
 fpo:∀ b ∈ fp,b=a\/s.heap.objs.size<=b
 perm:L.Perm es.toList
 W:Walks prog w A I fp [I] L.length (fun j v=>∃ e,L[j]? = some e/\v=e.2) St
 st:St 0 s1.heap
theorem Zky (es:Array (Int × Value)):(List.range es.size).map (fun k=>es.getD k (0,.none))=es.toList:=by
 apply List.ext_getElem
 ·simp
 ·intro i h1 h2
  simp only [List.getElem_map,List.getElem_range,Array.getElem_toList]
  simp only [Array.length_toList] at h2
  simp [Array.getD,h2]
theorem set_iter {a:Addr} {o:Obj} {es:Array (Int × Value)} {ep:Nat} {t:SetTable} {ks:List Int} {Q:Value->Shared->Prop} (hh:A.handled=none) (g:SetG prog w s.heap a o es ep t ks)
  (q:∀ (h1:Heap) dr (I:Addr),Nonempty (SWalk prog w A a es s { s with heap:=h1,drawn:=dr } I)->Q (.ref I) { s with heap:=h1,drawn:=dr }):wpAny (model prog w) A (pyIter (.ref a)) Q E s:=by
 have hT:s.TypeIs (.ref a) "set":=⟨o,g.get,g.ex.1⟩
 have hlt:a < s.heap.objs.size:=Heap.lt_size g.get
 have hne1:a ≠ s.heap.objs.size:=Nat.ne_of_lt hlt
 have hne2:a ≠ s.heap.objs.size + 1:=Nat.ne_of_lt (Nat.lt_succ_of_lt hlt)
 have hroom:es.size<=sizeLine:=by
  have:=g.room
  rw [sizeLine_eq]; unfold scanBound at this; omega
 refine wpAny_pyIter_slot hT F.slot_set_iter (wpAny_call_entry F.slot_set_iter hT Zgg ?_ (F.args_set_iter_1 _))
 unfold Builtin.«frozenset.__iter__» Builtin.Frozenset.slot0 slotArgs
 simp only [List.isEmpty_nil,Bool.not_true,Bool.false_eq_true,↓reduceIte,bind_assoc,List.length_nil,bne_self_eq_false]
 unfold Builtin.Frozenset.addrOf Builtin.Frozenset.sizeOf
 refine wpAny_bind (wpAny_pure ?_)
 try dsimp only
 refine wpAny_bind (wpAny_pure ?_)
 refine wpAny_bind (wpAny_bind (wpAny_setEntries_of g.get g.dat g.fit (wpAny_pure ?_)))
 rw [Zi6]
 refine wpAny_bind (wpAny_bind (wpAny_setState_of g.get g.dat g.fit (wpAny_bind (Zej (wpAny_pure ?_)))))
 by_cases hd:(!byTextB w && (!t.plain && decide (es.size > 1)))=true
 ·have hd2:=hd
  rw [if_pos hd]
  refine wpAny_bind (Zla es.size (by simp) fun ys dr hy=>?_)
  have hyl:=hy.length_eq
  rw [List.length_range] at hyl
  refine wpAny_bind (wpAny_newTuple ?_ (by rw [List.length_map,hyl]; exact hroom))
  have g1:=g.keep (h':=s.heap.push (seqObj "tuple" (ys.map fun i:Nat=>rawInt (i:Int)).toArray 0)) fun o e=>Heap.get?_push_of_some _ e
  refine wpAny_bind (wpAny_setEpoch_of g1.get g1.dat g1.fit ?_)
  refine wpAny_bind (wpAny_newObj_type ?_ (by size_fits))
  have hsz:(s.heap.push (seqObj "tuple" (ys.map fun i:Nat=>rawInt (i:Int)).toArray 0)).objs.size=s.heap.objs.size + 1:=size_push' _ _
  have hI:((s.heap.push (seqObj "tuple" (ys.map fun i:Nat=>rawInt (i:Int)).toArray 0)).push (setItO (.ref s.heap.objs.size) 0 a es.size ep)).get? (s.heap.objs.size + 1)=some (setItO (.ref s.heap.objs.size) 0 a es.size ep):=by
   rw [<- hsz]; exact Heap.get?_push_size _ rfl
  have hTu:((s.heap.push (seqObj "tuple" (ys.map fun i:Nat=>rawInt (i:Int)).toArray 0)).push (setItO (.ref s.heap.objs.size) 0 a es.size ep)).get? s.heap.objs.size=some { cls:=.type "tuple",data:=.seq (ys.map fun j:Nat=>rawInt (j:Int)).toArray }:=
   Heap.get?_push_of_some _ (Heap.get?_push_size _ rfl)
  show wpAny _ _ (ret (.ref (s.heap.push (seqObj "tuple" (ys.map fun i:Nat=>rawInt (i:Int)).toArray 0)).objs.size)) _ _ { s with heap:=(s.heap.push (seqObj "tuple" (ys.map fun i:Nat=>rawInt (i:Int)).toArray 0)).push (setItO (.ref s.heap.objs.size) 0 a es.size ep),drawn:=dr }
  rw [hsz]
  refine wpAny_pure ⟨_,rfl,"set_iterator",_,⟨_,hI,rfl⟩,Za6.lookup,?_⟩
  have hin:∀ k ∈ ys,k < es.size:=fun k hk=>List.mem_range.mp (hy.mem_iff.mp hk)
  have hL:(ys.map fun k=>es.getD k (0,.none)).length=ys.length:=List.length_map _
  refine q _ dr (s.heap.objs.size + 1) ⟨⟨[s.heap.objs.size + 1,a,s.heap.objs.size],ys.map fun k=>es.getD k (0,.none),_,fun b o e=>Heap.get?_push_of_some _ (Heap.get?_push_of_some _ e),Nat.le_succ _,?_,?_,Ziq hh hne2 (Nat.ne_of_lt (Nat.lt_succ_self _)) ys _ hL ?_,hI,g1.keep fun o e=>Heap.get?_push_of_some _ e,hTu⟩⟩
  ·intro b hb
   simp only [List.mem_cons,List.not_mem_nil,or_false] at hb
   rcases hb with h | h | h
   ·exact .inr (by rw [h]; exact Nat.le_succ _)
   ·exact .inl h
   ·exact .inr (Nat.le_of_eq h.symm)
  ·exact (hy.map _).trans (List.Perm.of_eq (Zky es))
  ·intro j k e h1 h2
   rw [List.getElem?_map,h1] at h2
   cases h2
   have:=hin k (List.mem_of_getElem? h1)
   simp [Array.getD,this]
 ·rw [if_neg hd]
  refine wpAny_bind (wpAny_pure ?_)
  refine wpAny_bind (wpAny_setEpoch_of g.get g.dat g.fit ?_)
  refine wpAny_bind (wpAny_newObj_type ?_ (by size_fits))
  have hI:(s.heap.push (setItO (.int 0 0) 0 a es.size ep)).get? s.heap.objs.size=some (setItO (.int 0 0) 0 a es.size ep):=Heap.get?_push_size _ rfl
  refine wpAny_pure ⟨_,rfl,"set_iterator",_,⟨_,hI,rfl⟩,Za6.lookup,?_⟩
  have g1:=g.keep (h':=s.heap.push (setItO (.int 0 0) 0 a es.size ep)) fun o e=>Heap.get?_push_of_some _ e
  have fpo:∀ b ∈ [s.heap.objs.size,a],b=a\/s.heap.objs.size<=b:=fun b hb=>by
   simp at hb
   rcases hb with h | h
   ·right; omega
   ·exact .inl h
  cases hb:byTextB w with
  | true=>
   refine q _ s.drawn s.heap.objs.size ⟨⟨[s.heap.objs.size,a],(pickOrder (w.params.setOrder a ep) es).toList,_,fun b o e=>Heap.get?_push_of_some _ e,Nat.le_refl _,fpo,Zlf _ _,Zgq hh hne1 (fun _=>0) _ ?_ ?_,hI,g1⟩⟩
   ·intro s j e g he A E Q' hq
    refine Zhn hb g ?_
    rw [Array.getElem?_toList] at he
    rw [he]
    exact hq
   ·intro s g A E Q' hq
    refine Zhn hb g ?_
    rw [Array.getElem?_eq_none (by simp)]
    exact hq
  | false=>
   have hd':(!t.plain && decide (es.size > 1))=false:=by
    rw [hb] at hd; simpa using hd
   have hps:t.place.size=es.size:=by
    have:=g.fit
    unfold SetTable.fits at this
    simp only [Bool.and_eq_true,beq_iff_eq] at this
    exact this.1
   refine q _ s.drawn s.heap.objs.size ⟨⟨[s.heap.objs.size,a],es.toList,_,fun b o e=>Heap.get?_push_of_some _ e,Nat.le_refl _,fpo,List.Perm.refl _,Zgq hh hne1 (slotAt t.place) _ ?_ ?_,hI,g1⟩⟩
   ·intro s j e g he A E Q' hq
    refine Zgj hb g hd' ?_
    rw [Array.getElem?_toList] at he
    have hj:=(Array.getElem?_eq_some_iff.mp he).1
    rw [Ze6 g.tab.ris (by omega),he,Array.getElem?_eq_getElem (by omega)]
    have:slotAt t.place (j + 1)=t.place[j] + 1:=by
     show t.place.getD j 0 + 1=_
     simp [Array.getD,show j < t.place.size by omega]
    rw [this] at hq
    exact hq
   ·intro s g A E Q' hq
    refine Zgj hb g hd' ?_
    rw [Array.length_toList,Ze6 g.tab.ris (Nat.le_of_eq hps.symm),Array.getElem?_eq_none (Nat.le_refl _)]
    exact hq
end
end L2
namespace L2
open PySem PySem.Spec PyProof.Rows PySem.SeqAt
section
variable {prog:Program} {w:World} {A:Around} {E:Value->Shared->Prop} {s:Shared}
theorem Zn3 {r:Addr} {Q:Bool->Shared->Prop} (hT:s.TypeIs (.ref r) "set") (h:Q false s):wpAny (model prog w) A (Builtin.List.listLengthHint (.ref r)) Q E s:=by
 unfold Builtin.List.listLengthHint
 refine wpAny_bind (wpAny_specialOf hT F.slot_set_len.lookup ?_)
 generalize hid:("set.__len__":String)=nm
 wp_delta
 rw [show splitId nm=some ("set","__len__") by subst hid; decide +kernel]
 subst hid
 refine wpAny_bind (wpAny_isInstance (T:="set") (b:=true) hT (by rw [isSubtype_type]; kernel_rfl) ?_)
 refine wpAny_ite_split (fun z=>absurd z (by decide)) fun _=>?_
 refine wpAny_ite_split (fun _=>wpAny_bind (wpAny_typeOf hT (wpAny_pure h))) fun z=>absurd (by decide +kernel) z
theorem Zi0 {L:List (Int × Value)} {acc:Array Value} (h:ItemsOf (fun j v=>∃ e,L[j]? = some e/\v=e.2) acc L.length):acc.toList=L.map (·.2):=by
 obtain ⟨h1,h2⟩:=h
 apply List.ext_getElem?
 intro i
 rw [Array.getElem?_toList,List.getElem?_map]
 by_cases hi:i < acc.size
 ·obtain ⟨e,e1,e2⟩:=h2 i _ (Array.getElem?_eq_getElem hi)
  rw [e1,Array.getElem?_eq_getElem hi,e2]; rfl
 ·rw [Array.getElem?_eq_none (by omega),List.getElem?_eq_none (by omega)]; rfl
theorem Zki {R:Result->Shared->Prop} {a S:Addr} {o:Obj} {es:Array (Int × Value)} {ep c₀:Nat} {t:SetTable} {ks:List Int} (hh:A.handled=none) (g:SetG prog w s.heap a o es ep t ks) (hSa:S ≠ a) (res:Value) (hS:s.heap.get? S=some { cls:=.type "list",data:=.seq #[] c₀ })
  (hR:∀ h' tk dr c' (L:List (Int × Value)),(∀ b o,b ≠ S->s.heap.get? b=some o->h'.get? b=some o)->L.Perm es.toList->h'.get? S=some { cls:=.type "list",dict:=none,data:=.seq (L.map (·.2)).toArray c',slots:=#[] } -> R (.ok (.ret res)) { s with heap:=h',toks:=tk,drawn:=dr }) :
  wpAny (model prog w) A.in1 (Builtin.List.listExtendWith (.ref S) (.ref a) res)
   (fun fin s'=>match fin with | .done f=>R (.ok f) s' | .again c'=>c'.quiet=true/\codeAny (model prog w) A c' R s') (fun e s'=>R (.error e) s') s:=by
 have hT:s.TypeIs (.ref a) "set":=⟨o,g.get,g.ex.1⟩
 have hSl:S < s.heap.objs.size:=Heap.lt_size hS
 unfold Builtin.List.listExtendWith
 refine wpAny_bind (wpAny_typeOf (T:="set") hT ?_)
 have h1:Builtin.List.listSameRef (.ref S) (.ref a)=false:=by simp [Builtin.List.listSameRef,hSa]
 have h2:(Value.type "set" == Value.type "list")=false:=by decide +kernel
 have h3:(Value.type "set" == Value.type "tuple")=false:=by decide +kernel
 simp only [h1,h2,h3,Bool.or_false,Bool.false_eq_true,if_false]
 refine wpAny_bind (set_iter hh g fun h1 dr I ⟨K⟩=>?_)
 have hK:=K.perm.length_eq
 have hn:K.L.length<=sizeLine:=by
  have:=g.room
  rw [hK,Array.length_toList,sizeLine_eq]; unfold scanBound at this; omega
 have hSf:S ∉ K.fp:=fun z=>by
  rcases K.fpo S z with z | z
  ·exact hSa z
  ·exact absurd hSl (Nat.not_lt.mpr z)
 have key:∀ (h:Heap) (c₁ tk:Nat),K.St 0 h->(∀ b o,b ≠ S->s.heap.get? b=some o->h.get? b=some o) →
   h.get? S=some { cls:=.type "list",data:=.seq #[] c₁ } -> codeAny (model prog w) A (.builtin "list.extend.loop" ⟨[.ref S,.ref I,res],[]⟩) R { s with heap:=h,toks:=tk,drawn:=dr }:=by
  intro h c₁ tk hst hk hS₁
  refine codeAny_extend_loopS K.W.toS hn S hSf res _ 0 _ #[] c₁ rfl (Nat.zero_le _) hst hS₁ (ItemsOf.nil _) fun s' acc' c' hm hS' hacc=>?_
  rw [Moved.eq_with hm]
  have ea:=Zi0 hacc
  refine hR s'.heap s'.toks dr c' K.L (fun b o hb e=>hm.heap b o (fun hmem=>?_) (hk b o hb e)) K.perm ?_
  ·rcases List.mem_cons.mp hmem with e' | hmem
   ·exact hb e'
   ·exact absurd (Heap.lt_size e) (by rw [List.mem_singleton.mp hmem]; exact Nat.not_lt.mpr K.new)
  ·rw [<- ea,Array.toArray_toList]; exact hS'
 have hS₁:=K.old _ _ hS
 refine wpAny_bind (wpAny_holding (Zn3 ⟨o,K.old _ _ g.get,g.ex.1⟩ ?_))
 refine wpAny_ite_split (fun _=>?_) (fun _=>wpAny_pure ⟨plainId_quiet F.plain_extend_loop _,key _ c₀ _ K.st (fun b o _ e=>K.old _ _ e) hS₁⟩)
 refine wpAny_bind (wpAny_rule ?_)
 refine wpAny_bind ?_
 show wpAny _ _ (updateSeq S (·.push .none) >>= fun _=>updateSeq S (·.pop)) _ _ _
 refine wpAny_bind (wpAny_updateSeq hS₁ rfl ?_)
 have hS₂:=Heap.get?_update_self (Obj.mapSeq (·.push Value.none)) hS₁ rfl
 refine wpAny_updateSeq (hz:=by seq_fits) hS₂ rfl ?_
 have hS₃:=Heap.get?_update_self (Obj.mapSeq (·.pop)) hS₂ rfl
 refine wpAny_pure ⟨plainId_quiet F.plain_extend_loop _,key _ _ _ ?_ (fun b o hb e=>?_) hS₃⟩
 ·refine K.W.frame 0 _ _ K.st fun b hb o e=>?_
  have hbS:S ≠ b:=fun h=>hSf (h ▸ hb)
  exact (Heap.get?_update_other _ _ hbS).trans ((Heap.get?_update_other _ _ hbS).trans e)
 ·exact (Heap.get?_update_other _ _ (Ne.symm hb)).trans ((Heap.get?_update_other _ _ (Ne.symm hb)).trans (K.old _ _ e))
theorem Zil {R:List Value->Shared->Prop} {a:Addr} {o:Obj} {es:Array (Int × Value)} {ep:Nat} {t:SetTable} {ks:List Int} (hh:A.handled=none) (g:SetG prog w s.heap a o es ep t ks)
  (h:∀ (h':Heap) (tk:Nat) dr (L:List (Int × Value)),(∀ b o,s.heap.get? b=some o->h'.get? b=some o)->s.heap.objs.size < h'.objs.size->L.Perm es.toList->R (L.map (·.2)) { s with heap:=h',toks:=tk,drawn:=dr }) :
  wpAny (model prog w) A (collect (.ref a)) R E s:=by
 have hlt:a < s.heap.objs.size:=Heap.lt_size g.get
 unfold collect
 refine wpAny_bind (wpAny_runValue (codeAny_builtin entry_proto_collect' ?_))
 rw [Around.under_plainId F.plain_proto_collect _]
 show wpAny _ A.in1 (newList [] >>= fun l=>again (.builtin "list.__iadd__" ⟨[l,.ref a],[]⟩)) _ _ s
 refine wpAny_bind (wpAny_newList ?_)
 refine wpAny_pure ⟨plainId_quiet F.plain_list_iadd _,codeAny_builtin entry_list_iadd' ?_⟩
 rw [Around.under_plainId F.plain_list_iadd _]
 show wpAny _ A.in1 (Builtin.List.listExtendWith (.ref s.heap.objs.size) (.ref a) (.ref s.heap.objs.size)) _ _ _
 have hS₁:(s.heap.push (seqObj "list" ([]:List Value).toArray 0)).get? s.heap.objs.size=some { cls:=.type "list",data:=.seq #[] 0 }:=Heap.get?_push_size _ rfl
 have z:=Zki (A:=A) (s:={ s with heap:=s.heap.push (seqObj "list" ([]:List Value).toArray 0) })
  (R:=fun (q:Result) (s':Shared)=>∃ (h':Heap) (tk:Nat) (dr:_) (c':Nat) (L:List (Int × Value)),q=.ok (.ret (.ref s.heap.objs.size))/\s' = { s with heap:=h',toks:=tk,drawn:=dr } ∧
   (∀ b o,s.heap.get? b=some o->h'.get? b=some o)/\L.Perm es.toList/\h'.get? s.heap.objs.size=some { cls:=.type "list",dict:=none,data:=.seq (L.map (·.2)).toArray c',slots:=#[] })
  hh (g.keep fun o e=>Heap.get?_push_of_some _ e) (Nat.ne_of_gt hlt) (.ref s.heap.objs.size) hS₁
  fun h' tk dr c' L hk hp hS'=>⟨h',tk,dr,c',L,rfl,rfl,fun b o e=>hk b o (Nat.ne_of_lt (Heap.lt_size e)) (Heap.get?_push_of_some _ e),hp,hS'⟩
 refine wpAny_mono z (fun fin s' x=>?_) fun e s' x=>?_
 ·cases fin with
  | done f=>
   obtain ⟨h',tk,dr,c',L,e,rfl,hk,hp,hS'⟩:=x
   cases e
   show wpAny _ A (load s.heap.objs.size >>= _) _ _ _
   refine wpAny_bind (wpAny_load hS' ?_)
   exact wpAny_pure (h h' tk dr L hk (Heap.lt_size hS') hp)
  | again c₁=>
   refine ⟨x.1,codeAny_mono x.2 fun q s₂ y=>?_⟩
   obtain ⟨h',tk,dr,c',L,rfl,rfl,hk,hp,hS'⟩:=y
   show wpAny _ A (load s.heap.objs.size >>= _) _ _ _
   refine wpAny_bind (wpAny_load hS' ?_)
   exact wpAny_pure (h h' tk dr L hk (Heap.lt_size hS') hp)
 ·obtain ⟨h',tk,dr,c',L,e,_⟩:=x
  cases e
theorem Zf3:∀ {vs:List Value},(∀ v ∈ vs,∃ t,v=.int (numOf v) t)->IntsAre vs (vs.map numOf)
 | [],_=>.nil
 | v :: vs,h=>by
  obtain ⟨t,e⟩:=h v (by simp)
  have:=Zf3 (vs:=vs) fun u hu=>h u (List.mem_cons_of_mem _ hu)
  rw [List.map_cons]
  generalize numOf v=n at e ⊢
  subst e
  exact .cons _ t this
theorem Zkz {a:Addr} {ks:List Int} {Q:Value->Shared->Prop} (hh:A.handled=none) (hS:SetI prog w s.heap a ks) (h64:ks.length < 64)
  (h:∀ (h':Heap) (tk:Nat) dr (l:Addr) (out:List Value) (ms:List Int) (c:Nat),(∀ b o,s.heap.get? b=some o->h'.get? b=some o)->s.heap.objs.size<=l->h'.get? l=some (seqObj "list" out.toArray c)->IntsAre out ms->ms.Perm ks->ms.Pairwise (· <= ·)->Q (.ref l) { s with heap:=h',toks:=tk,drawn:=dr }) :
  wpAny (model prog w) A (call (.builtin "sorted") [.ref a]) Q E s:=by
 obtain ⟨o,es,ep,t,g⟩:=hS
 refine Calls.call_function_entry kind_sorted plain_sorted entry_sorted (args_sorted1 _) ?_
 unfold Builtin.«sorted»
 refine wpAny_bind (m:=checkCount "sorted" 1 1 _) (wpAny_pure ?_)
 refine wpAny_bind (Zil hh g fun h' tk dr L hk hsz hp=>?_)
 have hI:IntsAre (L.map (·.2)) ((L.map (·.2)).map numOf):=Zf3 fun v hv=>by
  obtain ⟨e,he,rfl⟩:=List.mem_map.mp hv
  exact Zj0 g.el (hp.mem_iff.mp he)
 have hpk:((L.map (·.2)).map numOf).Perm ks:=by
  rw [List.map_map]
  exact (hp.map _).trans g.perm
 have hlen:(L.map (·.2)).length < 64:=by
  have:=hpk.length_eq
  rw [List.length_map] at this; omega
 refine wpAny_bind (wpAny_newList ?_ (by rw [sizeLine_eq]; omega))
 have hoL:(h'.push (seqObj "list" (L.map (·.2)).toArray 0)).get? h'.objs.size=some (seqObj "list" (L.map (·.2)).toArray 0):=Heap.get?_push_size _ rfl
 refine wpAny_bind (wpAny_holding (wpAny_call_entry slot_list_sort ⟨_,hoL,rfl⟩ entry_list_sort (list_sort_tree hoL hI hlen fun out ms a1 a2 a3=>⟨_,rfl,?_⟩) (args_list_sort _)))
 obtain ⟨c,hc⟩:=sortedHeap_at (out:=out) hoL
 refine wpAny_pure ⟨_,rfl,h _ tk dr _ out.toList ms c (fun b o e=>?_) (Nat.le_of_lt hsz) (by rw [Array.toArray_toList]; exact hc) a1 (a2.trans hpk) a3⟩
 have hb:=hk b o e
 have hbl:=Heap.lt_size hb
 rw [sortedHeap_old (Nat.ne_of_lt hbl) (by rw [size_push']; exact Nat.lt_succ_of_lt hbl)]
 exact Heap.get?_push_of_some _ hb
end
end L2
namespace L2
open PySem PySem.Spec PyProof.Rows PySem.SeqAt
section
variable {X:Cx}
theorem Inv.drew {pins:List (Addr × Obj)} {σ:List (Option V)} {H:Hp} {s:Shared} (I:Inv X pins σ H s) (dr:_):Inv X pins σ H { s with drawn:=dr }:=
 ⟨I.ok,I.os,I.bare,I.base,I.loc,I.cell,I.free,I.freeC,I.pin,I.hok,I.len⟩
theorem Zm9 {ms:List Int} (h1:ms.Pairwise (· <= ·)) (h2:ms.Nodup):ms.Pairwise (· < ·):=by
 have:=List.Pairwise.and h1 h2
 exact this.imp fun hq_=>by obtain ⟨a,b⟩:=hq_; omega
theorem Zhk {ns:List Int} {x:Int}:x ∈ metK (fun i=>ns.getD i 0) ns.length ↔ x ∈ ns:=by
 rw [Zoo]
 constructor
 ·rintro ⟨j,hj,rfl⟩
  rw [List.getD_eq_getElem?_getD,List.getElem?_eq_getElem hj]
  exact List.getElem_mem hj
 ·intro h
  obtain ⟨j,hj,rfl⟩:=List.getElem_of_mem h
  exact ⟨j,hj,by rw [List.getD_eq_getElem?_getD,List.getElem?_eq_getElem hj]; rfl⟩
def tSS (K:PySem.W.Frag) (ta:TA):TE:=fun σ H Q=>ta σ H fun vs H1=>∃ (p:Addr) (ns:List Int),vs=[.ref p]/\SqL K H1 p (ns.map V.int)/\ns.length < 64/\∀ (l:Addr) (ms:List Int),ms.Pairwise (· < ·)->(∀ x,x ∈ ms ↔ x ∈ ns)->H1 l=none->Q (.ref l) (upd H1 l (.lst (ms.map V.int)))
theorem Zgp {a:Expr} {ta:TA} {p p2 pos pos2:Pos} {K:PySem.W.Frag} (hK:X.K=K) (hc:X.calm=true) (hgL:Gl X "sorted") (hmL:X.mg "sorted" = none) (hgR:Gl X "set") (hmR:X.mg "set" = none) (ha:PA X [a] ta) (hs:starEach [a] X.env=[(false,eval a X.env)]:=by rfl)
  (he:starEach [.Call (.Name "set" p2) [a] [] pos2] X.env=[(false,eval (.Call (.Name "set" p2) [a] [] pos2) X.env)]:=by rfl) :
  PE X (.Call (.Name "sorted" p) [.Call (.Name "set" p2) [a] [] pos2] [] pos) (tSS K ta):=by
 subst hK
 intro pins s σ H Q I h
 refine wpAny_Call_Name_kw (Zd1 I hgL hmL Zmo ?_)
 refine PyProof.Rows.callWith_builtin1 ?_ he rfl
 rw [he]
 show wpAny _ _ (spliced ((false,eval (.Call (.Name "set" p2) [a] [] pos2) X.env) :: backTo pos [])) _ _ s
 refine Calls.spliced_cons ?_
 refine wpAny_Call_Name_kw (Zd1 I hgR hmR Zs4 ?_)
 refine PyProof.Rows.callWith_type1 (thn (ha pos2 pins s σ H _ I h) fun us s1 ⟨vs,H1,I1,r1,q1⟩=>?_) hs rfl
 obtain ⟨p,ns,e,hx,hl,q⟩:=q1
 subst e
 obtain ⟨u,rfl,ru⟩:=vals1 r1
 cases (show u=Value.ref p from ru)
 obtain ⟨its,w1,p1,hz⟩:=I1.list hx
 have hi:=Zkp w1
 have hlen:=hi.length
 refine Zmx (I1.ok.hd hc) p1.isList (by simpa using hi) (by rw [List.size_toArray]; unfold scanBound; omega) fun h' tk hS hk=>?_
 rw [show its.toArray.size=ns.length by rw [List.size_toArray]; exact hlen] at hS
 refine Calls.spliced_nil ?_
 have I2:Inv X pins σ H1 { s1 with heap:=h',toks:=tk }:=I1.kept hk
 have hm:=Zji (fun i=>ns.getD i 0) ns.length
 refine Zkz (s:={ s1 with heap:=h',toks:=tk }) (I1.ok.hd hc) hS (by omega) fun h2 tk2 dr l out ms c k2 hl2 ho2 hi2 hp2 hs2=>?_
 have hml:=hp2.length_eq
 have nd:ms.Nodup:=by
  obtain ⟨_,_,_,_,g⟩:=hS
  exact hp2.nodup_iff.mpr g.nd
 have I3:=(I2.laid (t':=tk2) k2 hl2 (show ObjOk X.prog X.w _ h2 l (.lst (ms.map V.int)) from ⟨by rw [List.length_map]; exact Nat.le_of_lt (small1000 (by omega)),out,c,Zeh hi2,ho2⟩)).drew dr
 exact ⟨.ref l,_,I3,rfl,q l ms (Zm9 hs2 nd) (fun x=>hp2.mem_iff.trans Zhk) (I2.hok.fresh hl2)⟩
end
section
variable {K:PySem.W.Frag} {Δ:Evt}
theorem Zsb {ta:TA} {Po:OD->Evt->Prop} (h:JA K ta Δ fun ds Δ1=>∃ ns:List Int,ds=[.lst (ns.map .int)]/\ns.length < 64/\∀ ms:List Int,ms.Pairwise (· < ·)->(∀ x,x ∈ ms ↔ x ∈ ns)->Po (.lst (ms.map .int)) Δ1):JO K (tSS K ta) Δ Po:=fun g G H σ Q k c=>
 h g G H σ _ k fun vs ds G1 H1 Δ1 k1 s1 r1 hq_=>by
  obtain ⟨ns,e,hl,p⟩:=hq_
  subst e
  obtain ⟨_,_,rfl,r,t⟩:=r1.inv
  next=>
   cases t.inv
   obtain ⟨a,us,rfl,ha,rr⟩:=r.inv
   next=>
    have ev:=rr.ints
    subst ev
    refine ⟨a,ns,rfl,SqL.of (k1.live _ _ ha),hl,fun l ms o1 o2 hl=>?_⟩
    obtain ⟨k2,pd⟩:=k1.fresh (od:=.lst (ms.map .int)) hl (show OwnRep K G1 (.lst (ms.map V.int)) (.lst (ms.map .int)) from Reps.ofInts ms)
    exact c l _ G1 _ Δ1 k2 s1 pd (p ms o1 o2)
end
end L2
set_option Elab.async false
set_option linter.all false
set_option maxRecDepth 100000
namespace L2
open PySem PySem.Spec PyProof.Rows
structure CompScK (osc:Scope) (oN:List Str) (y:Str) (scope:Scope) (fvs:List Str) (sel:List Nat):Prop where
 kind:scope.kind=.function
 one:scope.names.filter (fun z=>z.2 == .cell)=[(y,.cell)]
 own:∀ z ∈ scope.names,z.1=y->z.2=.cell
 names:∀ z ∈ scope.names,z.2=.local->scope.names.lookup z.1=some .local
 free:∀ z ∈ scope.names,z.2=.free->osc.names.lookup z.1=some .cell\/osc.names.lookup z.1=some .free
 len:fvs.length=sel.length
 fv:∀ p ∈ fvs.zip sel,oN[p.2]? = some p.1/\scope.names.lookup p.1=some .free
def compCxK (X:Cx) (y:Str) (scope:Scope) (N:List Str) (C:Addr) (s:Shared) (H:Hp) (ex:List Addr) (pn:List (Addr × Obj)):Cx:=
 { compCx X scope N C s H ex pn with env:=compEnvC scope ((y,C + 1) :: clOf X.env scope.names []) C X.env,fn:=fun x=>x == y }
theorem Zdm {y:Str}:∀ (names:List (Str × NameKind)) (n:Nat) (acc:List (Str × Addr)),(names.filter (fun z=>z.2 == .cell)=[]->cellsFrom n names acc=acc)/\(names.filter (fun z=>z.2 == .cell)=[(y,.cell)]->cellsFrom n names acc=(y,n) :: acc)
 | [],n,acc=>⟨fun _=>rfl,fun h=>by simp at h⟩
 | (x,k) :: r,n,acc=>by
  unfold cellsFrom
  rw [List.filter_cons]
  cases hk:k == NameKind.cell with
  | true=>
   simp only [hk,if_true]
   refine ⟨fun h=>by simp at h,fun h=>?_⟩
   have h1:=(List.cons.inj h).1
   have h2:=(List.cons.inj h).2
   cases h1
   exact (Zdm (y:=y) r (n + 1) _).1 h2
  | false=>
   simp only [hk,Bool.false_eq_true,if_false]
   exact Zdm r n acc
theorem Zdo {y:Str}:∀ (names:List (Str × NameKind)) (h:Heap),(names.filter (fun z=>z.2 == .cell)=[]->pushCells h names=h)/\(names.filter (fun z=>z.2 == .cell)=[(y,.cell)]->pushCells h names=h.push { cls:=.type "cell",data:=.cell none })
 | [],h=>⟨fun _=>rfl,fun h=>by simp at h⟩
 | (x,k) :: r,h=>by
  unfold pushCells
  rw [List.filter_cons]
  cases hk:k == NameKind.cell with
  | true=>
   simp only [hk,if_true]
   exact ⟨fun h=>by simp at h,fun e=>(Zdo (y:=y) r _).1 (List.cons.inj e).2⟩
  | false=>
   simp only [hk,Bool.false_eq_true,if_false]
   exact Zdo r h
section
variable {X:Cx} {pins:List (Addr × Obj)} {σ:St} {H:Hp} {s:Shared} {fp:List Addr} {scope:Scope} {tgs fvs:List Str} {sel:List Nat} {y:Str}
theorem newEnvK {M:Model} {A:Around} {E:Value->Shared->Prop} {osc:Scope} {oN:List Str} {g:Addr} {cl:List (Str × Addr)} {qual:Str} {env:Env} {Q:Env->Shared->Prop} (S:CompScK osc oN y scope fvs sel)
  (q:∀ h',h'.Ns s.heap.objs.size (fun _=>none)->h'.IsCell (s.heap.objs.size + 1) none->(∀ b o,s.heap.get? b=some o->h'.get? b=some o) →
   Q { scope,locals:=s.heap.objs.size,globals:=g,cells:=(y,s.heap.objs.size + 1) :: cl,qual,func:=none,code:=env.code,frame:=env.frame,builtins:=env.builtins } { s with heap:=h' }) :
  wpAny M A (newFunctionEnv scope g cl [] qual none .none (some env)) Q E s:=by
 simp only [newFunctionEnv,Option.isSome_some,if_true]
 refine wpAny_bind (wpAny_alloc ?_)
 refine wpAny_bind (wpAny_layCells _ (fun name kind cells=>by cases hkc:kind == NameKind.cell <;> simp [hkc]) _ _ _ _ ?_)
 have hsz:(s.heap.push { cls:=.type "dict",data:=.dict #[] }).objs.size=s.heap.objs.size + 1:=Heap.size_push ..
 rw [(Zdm (y:=y) _ _ _).2 S.one,(Zdo (y:=y) _ _).2 S.one]
 show wpAny M A _ Q E { s with heap:=(s.heap.push { cls:=.type "dict",data:=.dict #[] }).push { cls:=.type "cell",data:=.cell none } }
 refine wpAny_bind (wpAny_pure (wpAny_pure ?_))
 have hc:((s.heap.push { cls:=.type "dict",data:=.dict #[] }).push { cls:=.type "cell",data:=.cell none }).get? (s.heap.objs.size + 1)=some { cls:=.type "cell",data:=.cell none }:=by
  rw [<- hsz]; exact Heap.get?_push_size _ rfl
 have z:=q _ ((Heap.Ns.new s.heap (.type "dict")).keeps fun b o e=>Heap.get?_push_of_some { cls:=.type "cell",data:=.cell none } e) ⟨_,hc,rfl⟩ fun b o e=>Heap.get?_push_of_some _ (Heap.get?_push_of_some _ e)
 rw [<- hsz] at z
 exact z
theorem ownK {env:Env} {names:List (Str × NameKind)} {n:Nat} {x:Str} {c:Addr} (e:((y,n) :: clOf env names []).lookup x=some c):(x=y/\c=n)\/env.cells.lookup x=some c:=by
 rw [List.lookup_cons] at e
 split at e
 ·rename_i h
  cases e
  exact .inl ⟨by simpa using h,rfl⟩
 ·exact .inr (Zbu _ _ (fun _ _ z=>by simp at z) e)
theorem Zec (S:CompScK X.env.scope X.N y scope fvs sel) (ok:X.Ok):∀ n,(n,NameKind.free) ∈ scope.names->∃ a,X.env.cells.lookup n=some a:=fun n hn=>
 ok.has n (S.free _ hn rfl)
theorem Zn1 (S:CompScK X.env.scope X.N y scope fvs sel) (N:List Str) (I:Inv X pins σ H s) (hf:∀ b ∈ fp,FpOk X pins H b) (hlt:∀ b ∈ fp,b < s.heap.objs.size):(compCxK X y scope N s.heap.objs.size s H fp (X.pn ++ pins)).Ok where
 mod:=I.ok.mod
 kind:=S.kind
 glob:=I.ok.glob
 blt:=I.ok.blt
 above:=Nat.le_refl _
 inj:=fun x z c h1 h2=>by
  have old:∀ x,X.env.cells.lookup x=some c->c ≠ s.heap.objs.size + 1:=fun x e=>by
   obtain ⟨v,q⟩:=I.cell x c e
   exact Nat.ne_of_lt (Nat.lt_succ_of_lt q.lt)
  rcases ownK h1 with ⟨a,b⟩ | a
  ·rcases ownK h2 with ⟨a',b'⟩ | a'
   ·rw [a,a']
   ·exact absurd b (old _ a')
  ·rcases ownK h2 with ⟨a',b'⟩ | a'
   ·exact absurd b' (old _ a)
   ·exact I.ok.inj x z c a a'
 has:=fun x hx=>by
  by_cases hxy:x=y
  ·subst hxy
   exact ⟨s.heap.objs.size + 1,by show ((x,_) :: clOf X.env scope.names []).lookup x=_; simp⟩
  have hm:(x,NameKind.free) ∈ scope.names:=by
   have key:∀ k,(k=.cell\/k=.free)->(relab X.env.scope scope).names.lookup x=some k->(x,NameKind.free) ∈ scope.names:=fun k hk h=>by
    obtain ⟨⟨n,j⟩,hy,e⟩:=List.mem_map.mp (PySem.mem_of_lookup h)
    dsimp only at e
    split at e
    ·rename_i hj
     have e1:n=x:=congrArg Prod.fst e
     have hj':j=.free:=by
      simp only [Bool.and_eq_true,beq_iff_eq] at hj
      exact hj.1.1
     rw [<- e1,<- hj']; exact hy
    ·have e1:n=x:=congrArg Prod.fst e
     have e2:j=k:=congrArg Prod.snd e
     rcases hk with z | z
     ·have hin:((n,j):Str × NameKind) ∈ scope.names.filter (fun z=>z.2 == .cell):=List.mem_filter.mpr ⟨hy,by rw [e2,z]; rfl⟩
      rw [S.one,List.mem_singleton] at hin
      exact absurd (e1.symm.trans (congrArg Prod.fst hin)) hxy
     ·rw [<- e1,<- z,<- e2]; exact hy
   rcases hx with z | z
   ·exact key _ (.inl rfl) z
   ·exact key _ (.inr rfl) z
  obtain ⟨c,hc⟩:=Zdl scope.names [] hm (Zec S I.ok x hm)
  exact ⟨c,by
   show ((y,_) :: clOf X.env scope.names []).lookup x=_
   rw [List.lookup_cons,show (x == y)=false from by simpa using hxy]
   exact hc⟩
 cab:=fun x c h e=>by
  rcases ownK e with ⟨_,z⟩ | z
  ·rw [z]; exact Nat.le_succ _
  ·have hx:x=y:=by simpa using (show (x == y)=true from h)
   subst hx
   have:((x,s.heap.objs.size + 1) :: clOf X.env scope.names []).lookup x=some c:=e
   simp at this
   rw [<- this]; exact Nat.le_succ _
 hd:=I.ok.hd
 frames:=I.ok.frames
 stk:=.inl rfl
 exf:=fun b hb=>⟨Nat.ne_of_lt (hlt b hb),fun x c e=>by
  rcases ownK e with ⟨_,z⟩ | z
  ·rw [z]; exact Nat.ne_of_gt (Nat.lt_succ_of_lt (hlt b hb))
  ·exact (hf b hb).2.2.2.2.1 x c z⟩
 bs:=I.bs
 bsz:=Nat.le_trans I.ok.bsz I.sz
 noex:=fun b o e hb=>by
  rcases (hf b hb).2.2.2.1 with z | z
  ·exact I.ok.noex b o e z
  ·exact absurd (Nat.lt_of_lt_of_le (Heap.lt_size e) (Nat.le_trans I.ok.bsz z)) (Nat.lt_irrefl _)
 exfs:=fun b hb z=>by
  rcases List.mem_cons.mp (I.stkSub b z) with e | z
  ·exact (hf b hb).2.1 e
  ·exact (hf b hb).2.2.1 z
 funs:=I.stack
 frf:=I.stkFree
theorem Zmq (S:CompScK X.env.scope X.N y scope fvs sel) (I:Inv X pins σ H s) (hf:∀ b ∈ fp,FpOk X pins H b) (hlt:∀ b ∈ fp,b < s.heap.objs.size) {h':Heap} {tk:Nat} {m:Str->Option Value}
  (hns:h'.Ns s.heap.objs.size m) (hcl:h'.IsCell (s.heap.objs.size + 1) none) (old:∀ b o,s.heap.get? b=some o->h'.get? b=some o) :
  Inv (compCxK X y scope (tgs ++ fvs) s.heap.objs.size s H fp (X.pn ++ pins)) [] (compSt tgs.length sel σ) H { s with heap:=h',toks:=tk } where
 ok:=Zn1 S _ I hf hlt
 os:=rfl
 bare:=I.bare
 base:=Un.kept old
 loc:=by
  refine ⟨m,hns,fun i x v h1 h2 h3=>?_⟩
  have h1:(tgs ++ fvs)[i]? = some x:=h1
  unfold compSt at h2
  by_cases hi:i < tgs.length
  ·rw [List.getElem?_append_left (by simpa using hi),List.getElem?_replicate,if_pos hi] at h2
   cases h2
  ·have hi':tgs.length<=i:=Nat.le_of_not_lt hi
   rw [List.getElem?_append_right (by simpa using hi'),List.getElem?_map,List.length_replicate] at h2
   rw [List.getElem?_append_right hi'] at h1
   cases hj:sel[i - tgs.length]? with
   | none=>rw [hj] at h2; cases h2
   | some j=>
    rw [hj] at h2
    have h2:(σ[j]?).getD none=some v:=by simpa using h2
    have hz:(x,j) ∈ fvs.zip sel:=by
     refine List.mem_of_getElem? (i:=i - tgs.length) ?_
     rw [List.getElem?_zip_eq_some]
     exact ⟨h1,hj⟩
    obtain ⟨hN,hfr⟩:=S.fv _ hz
    have hσ:σ[j]? = some (some v):=by
     cases q:σ[j]? with
     | none=>rw [q] at h2; cases h2
     | some o=>rw [q] at h2; exact congrArg some h2
    have hko:X.env.scope.names.lookup x=some .cell\/X.env.scope.names.lookup x=some .free:=S.free (x,.free) (PySem.mem_of_lookup hfr) rfl
    obtain ⟨m0,hn0,hl0⟩:=I.loc
    obtain ⟨u,r,l⟩:=hl0 j x v hN hσ (.inr hko)
    refine ⟨u,r,.inr ⟨Zey hfr,?_⟩⟩
    rcases l with ⟨hk,_⟩ | ⟨_,c,hc,hcell⟩
    ·have hk:X.env.scope.names.lookup x=some .local:=hk
     rcases hko with z | z <;> (rw [hk] at z; cases z)
    ·obtain ⟨c',hc'⟩:=Zdl scope.names [] (PySem.mem_of_lookup hfr) ⟨c,hc⟩
     have e:=Zbu scope.names [] (fun _ _ z=>by simp at z) hc'
     rw [hc] at e; cases e
     obtain ⟨o,ho,hd⟩:=hcell
     have hxy:(x == y)=false:=by
      cases q:x == y with
      | false=>rfl
      | true=>
       have:x=y:=by simpa using q
       have:=S.own (x,.free) (PySem.mem_of_lookup hfr) this
       cases this
     exact ⟨c,by show ((y,s.heap.objs.size + 1) :: clOf X.env scope.names []).lookup x=some c; rw [List.lookup_cons,hxy]; exact hc',o,old _ _ ho,hd⟩
 cell:=fun x c e=>by
  rcases ownK e with ⟨_,z⟩ | z
  ·rw [z]; exact ⟨none,hcl⟩
  ·obtain ⟨v,o,ho,hd⟩:=I.cell x c z
   exact ⟨v,o,old _ _ ho,hd⟩
 free:=I.hok.fresh (Nat.le_refl _)
 freeC:=fun x c e=>by
  rcases ownK e with ⟨_,z⟩ | z
  ·rw [z]; exact I.hok.fresh (Nat.le_succ _)
  ·exact I.freeC x c z
 pin:=fun p hp=>by
  have hp:p ∈ (X.pn ++ pins) ++ []:=hp
  rw [List.append_nil] at hp
  obtain ⟨e,n,ne,nf,d⟩:=I.pin p hp
  refine ⟨old _ _ e,n,Nat.ne_of_lt (Heap.lt_size e),fun z=>?_,d⟩
  rcases List.mem_cons.mp (I.stkSub p.1 z) with q | q
  ·exact ne q
  ·exact nf q
 hok:=I.hok.kept old
 len:=by
  unfold compSt
  show _=(tgs ++ fvs).length
  rw [List.length_append,List.length_append,List.length_replicate,List.length_map,S.len]
theorem Zkg {N:List Str} {σ':St} {H':Hp} {s':Shared} {h':Heap} (I:Inv X pins σ H s) (hf:∀ b ∈ fp,FpOk X pins H b)
  (J:Inv (compCxK X y scope N s.heap.objs.size s H fp (X.pn ++ pins)) [] σ' H' s') (sb:Heap.SameBut s.heap.objs.size s'.heap h'):Inv X pins σ H' { s' with heap:=h' }:=by
 have B:Un (frs X.stack) fp H H' s.heap s'.heap:=J.base
 have ne:∀ b o,s.heap.get? b=some o->b ≠ s.heap.objs.size:=fun b o e=>Nat.ne_of_lt (Heap.lt_size e)
 have fr:H' s.heap.objs.size=none:=J.free
 refine I.call' (s':={ s' with heap:=h' }) (ch:=fp) J.os ⟨fun b o e n h1 h2=>?_,fun b o e n h1 h2=>?_,B.free,fun b o e h2=>?_,B.tups,B.frzs,B.tbls⟩ (fun b ob e=>?_) J.bare fun b hb=>?_
 ·exact (sb.2 b (ne b o e)).trans (B.keep b o e n h1 h2)
 ·obtain ⟨sl,q⟩:=B.slot b o e n h1 h2
  exact ⟨sl,(sb.2 b (ne b o e)).trans q⟩
 ·obtain ⟨o',q⟩:=B.there b o e h2
  exact ⟨o',(sb.2 b (ne b o e)).trans q⟩
 ·refine (J.hok b ob e).stay (fun c w' hc q=>(sb.2 c ?_).trans q) (fun _ q=>q) fun _ _ q=>q
  intro z
  rcases hc with hc | hc
  ·rw [<- hc,z,fr] at e; cases e
  ·rw [z,fr] at hc; cases hc
 ·exact ⟨(hf b hb).2.2.2.1,(hf b hb).2.1,(hf b hb).2.2.2.2.1,(hf b hb).2.2.2.2.2⟩
end
section
variable {X:Cx}
theorem Zgo {y:Str} {elt tg iter:Expr} {ifs:List Expr} {scope:Scope} {pos:Pos} {tgs fvs:List Str} {sel:List Nat} {g:TG} {tc:TT} {te:TE} (S:CompScK X.env.scope X.N y scope fvs sel) (hc:X.calm=true)
  (hg:∀ C s H ex pn,PG (compCxK X y scope (tgs ++ fvs) C s H ex pn) tg g) (ht:∀ C s H ex pn,PTs (compCxK X y scope (tgs ++ fvs) C s H ex pn) ifs tc) (he:∀ C s H ex pn,PE (compCxK X y scope (tgs ++ fvs) C s H ex pn) elt te)
  {pins:List (Addr × Obj)} {σ:St} {s:Shared} {itv:Value} {Q:VK} {E:Value->Shared->Prop} {RR:Value->Addr->Result->Shared->Prop}
  (h2:PIE X pins σ tg (fun J H1=>∀ acc,H1 acc=none->∃ W:Nat->Nat->St->Hp->Prop,
   (∃ m,W 0 m (compSt tgs.length sel σ) (upd H1 acc (.lst [])))/\∀ i m σ' H',W i m σ' H' →
   (J.stop i H' /\ Q (.ref acc) H')\/(J.go i H' /\ ∃ N:St->Hp->Prop,(∀ σ2 H2,N σ2 H2->∃ m',m' < m/\W (i + 1) m' σ2 H2) ∧
   ∀ x H2,J.yld i H' x H2->g x σ' H2 fun σ2 H3=>tc σ2 H3 fun b H4=>if b=true then te σ2 H4 fun y H5=>∃ ys,H5 acc=some (.lst ys)/\ys.length < sizeLine/\N σ2 (upd H5 acc (.lst (ys ++ [y]))) else N σ2 H4)) itv s)
  (fin:∀ (s':Shared) (C acc:Addr) (H':Hp) (m:Str->Option Value),s'.heap.Ns C m->FpOk X pins H' C->(∀ h',Heap.SameBut C s'.heap h' -> Inv X pins σ H' { s' with heap:=h' })->Q (.ref acc) H' -> RR (.ref acc) C (.ok .next) s') :
  wpAny (model X.prog X.w) X.A (newList []) (fun acc s3=>wpAny (model X.prog X.w) X.A (newFunctionEnv scope X.env.globals (clOf X.env scope.names []) [] X.env.qual none .none (some X.env)) (fun cenv s4=>
   codeAny (model X.prog X.w) X.A (.compStart (.ListComp elt [⟨tg,iter,ifs,0⟩] scope pos) 0 itv acc { cenv with scope:=relabel scope X.env }) (RR acc cenv.locals) s4) E s3) E s:=by
 obtain ⟨it,fp,tn,J,H1,e,I,T,st,f2,h2⟩:=h2
 subst e
 have hlt:∀ b ∈ fp,b < s.heap.objs.size:=fun b hb=>let ⟨o,ho,_⟩:=T.obj 0 _ st b hb; Heap.lt_size ho
 refine wpAny_newObj_type (newEnvK S fun h1 hns hcl old=>?_)
 dsimp only at hns hcl old ⊢
 have I3:Inv X pins σ (upd H1 s.heap.objs.size (.lst [])) { s with heap:=s.heap.push { cls:=.type "list",data:=.seq ([]:List Value).toArray },toks:=s.toks }:=I.lnew (its:=[]) .nil (by decide)
 have hacc:H1 s.heap.objs.size=none:=I.hok.fresh (Nat.le_refl _)
 obtain ⟨W,⟨m0,w0⟩,turn⟩:=h2 s.heap.objs.size hacc
 generalize hs3:({ s with heap:=s.heap.push { cls:=.type "list",data:=.seq ([]:List Value).toArray },toks:=s.toks }:Shared)=s3 at I3
 have hh3:s3.heap=s.heap.push { cls:=.type "list",data:=.seq ([]:List Value).toArray }:=by rw [<- hs3]
 have old3:∀ b o,s.heap.get? b=some o->s3.heap.get? b=some o:=fun b o q=>by rw [hh3]; exact Heap.get?_push_of_some _ q
 have hf3:∀ b ∈ fp,FpOk X pins (upd H1 s.heap.objs.size (.lst [])) b:=fun b hb=>⟨by rw [Zao (Nat.ne_of_lt (hlt b hb))]; exact (f2 b hb).1,(f2 b hb).2⟩
 have hlt3:∀ b ∈ fp,b < s3.heap.objs.size:=fun b hb=>by rw [hh3,Heap.size_push]; exact Nat.lt_succ_of_lt (hlt b hb)
 have tn3:tn 0 s3.heap:=T.keep 0 _ _ st fun b hb o q=>old3 b o q
 have old4:∀ b o,s3.heap.get? b=some o->h1.get? b=some o:=fun b o q=>by
  rw [hh3] at q
  exact old b o q
 have tn4:tn 0 h1:=T.keep 0 _ _ tn3 fun b hb o q=>old4 b o q
 have hC:(s.heap.push { cls:=.type "list",data:=.seq ([]:List Value).toArray }).objs.size=s3.heap.objs.size:=by rw [hh3]
 rw [hC] at hns hcl
 have J0:=Zmq (tgs:=tgs) (tk:=s.toks) S I3 hf3 hlt3 hns hcl old4
 have es:({ s3 with heap:=h1,toks:=s.toks }:Shared) = { s with heap:=h1,toks:=s.toks }:=by rw [<- hs3]
 rw [es] at J0
 generalize hY:compCxK X y scope (tgs ++ fvs) s3.heap.objs.size s3 (upd H1 s.heap.objs.size (.lst [])) fp (X.pn ++ pins)=Y at J0
 have hYp:Y.prog=X.prog:=by rw [<- hY]; rfl
 have hYw:Y.w=X.w:=by rw [<- hY]; rfl
 have hYK:Y.K=X.K:=by rw [<- hY]; rfl
 have hYA:Y.A=X.A:=by rw [<- hY]; rfl
 have hYc:Y.calm=true:=by rw [<- hY]; exact hc
 have hYx:Y.xe=fun _ _=>False:=by rw [<- hY]; rfl
 have hYe:Y.env=compEnvC scope ((y,s3.heap.objs.size + 1) :: clOf X.env scope.names []) s3.heap.objs.size X.env:=by rw [<- hY]; rfl
 have stat:∀ {H':Hp},(∀ b ∈ fp,H' b=none)->∀ b ∈ fp,FpOk Y [] H' b:=fun hn b hb=>by
  rw [<- hY]
  refine ⟨hn b hb,Nat.ne_of_lt (hlt3 b hb),fun z=>?_,.inl hb,fun x c e=>?_,fun p hp z=>?_⟩
  ·rcases List.mem_cons.mp (I3.stkSub b z) with q | q
   ·exact (hf3 b hb).2.1 q
   ·exact (hf3 b hb).2.2.1 q
  ·rcases ownK e with ⟨_,z⟩ | z
   ·rw [z]; exact Nat.ne_of_gt (Nat.lt_succ_of_lt (hlt3 b hb))
   ·exact (hf3 b hb).2.2.2.2.1 x c z
  ·have hp:p ∈ (X.pn ++ pins) ++ []:=hp
   rw [List.append_nil] at hp
   exact (hf3 b hb).2.2.2.2.2 p hp z
 have loop:codeAny (model X.prog X.w) X.A (.compLoop (.ListComp elt [⟨tg,iter,ifs,0⟩] scope pos) 0 (.ref it) (.ref s.heap.objs.size) Y.env) (RR (.ref s.heap.objs.size) s3.heap.objs.size)
   { s with heap:=h1,toks:=s.toks }:=by
  refine codeAny_loop rfl (fun n s'=>∃ i σ' H',Inv Y [] σ' H' s' /\ tn i s'.heap/\(∀ b ∈ fp,H' b=none)/\W i n σ' H') ?_ m0 ⟨0,_,_,J0,tn4,fun b hb=>(hf3 b hb).1,w0⟩
  rintro n s5 ⟨i,σ5,H5,I5,st5,fr5,w5⟩
  show wpAny _ X.A ((compTurn (.ListComp elt [⟨tg,iter,ifs,0⟩] scope pos) 0 (.ref it) (.ref s.heap.objs.size) Y.env).onRaise (fun x=>do noteFrame x Y.env; theTreesLotGoes x)) _ _ s5
  refine wpAny_noted (wpAny_mono (E:=fun _ _=>False) ?_ (fun _ _ q=>q) fun _ _ z=>z.elim)
  rw [compTurn_list]
  refine wpAny_bind (wpAny_standAt (wpAny_bind ?_))
  rcases turn i n σ5 H5 w5 with ⟨stop,qn⟩ | ⟨go,N,hN,step⟩
  ·have D:=T.done Y hYp hYw hYK hYc i [] s5 σ5 H5 (fun _ _=>False) I5 (stat fr5) st5 stop
   rw [hYA] at D
   refine thn D fun r s6 ⟨hr,I6⟩=>?_
   subst hr
   refine wpAny_pure ?_
   obtain ⟨m6,hn6,_⟩:=I6.loc
   rw [hYe] at hn6
   refine fin s6 _ _ H5 m6 hn6 (I3.fpOk (Nat.le_refl _) (by have z:=I6.free; rw [hYe] at z; exact z)) (fun h' sb=>?_) qn
   have I6':Inv (compCxK X y scope (tgs ++ fvs) s3.heap.objs.size s3 (upd H1 s.heap.objs.size (.lst [])) fp (X.pn ++ pins)) [] σ5 H5 s6:=by rw [hY]; exact I6
   exact Zkg I3 hf3 I6' sb
  ·have D:=T.item Y hYp hYw hYK hYc i [] s5 σ5 H5 (fun _ _=>False) I5 (stat fr5) st5 go
   rw [hYA] at D
   refine thn D fun r s6 ⟨u,hr,h6⟩=>?_
   subst hr
   refine wpAny_bind (thn h6 fun _ s7 ⟨x,H7,I7,r7,y7,st7,fr7⟩=>?_)
   have I7':=I7.pinned (stat fr7) (T.obj _ _ st7)
   have G:=hg s3.heap.objs.size s3 (upd H1 s.heap.objs.size (.lst [])) fp (X.pn ++ pins)
   have TT:=ht s3.heap.objs.size s3 (upd H1 s.heap.objs.size (.lst [])) fp (X.pn ++ pins)
   have EE:=he s3.heap.objs.size s3 (upd H1 s.heap.objs.size (.lst [])) fp (X.pn ++ pins)
   rw [hY] at G TT EE
   have G1:=G _ s7 σ5 H7 x u _ I7' r7 (step x H7 y7)
   rw [hYp,hYw,hYA,hYx] at G1
   refine wpAny_bind (thn G1 fun _ s8 ⟨σ8,H8,I8,q8⟩=>?_)
   have T1:=TT _ s8 σ8 H8 _ I8 q8
   rw [hYp,hYw,hYA,hYx] at T1
   refine wpAny_bind (thn T1 fun ok s9 ⟨H9,I9,q9⟩=>?_)
   have again:∀ {s':Shared} {σ':St} {H':Hp},Inv Y ([] ++ pinsAt fp s7.heap) σ' H' s' -> N σ' H' -> ∃ m,m < n/\∃ i σ' H',Inv Y [] σ' H' s' /\ tn i s'.heap/\(∀ b ∈ fp,H' b=none)/\W i m σ' H':=fun {s' σ' H'} K7 n7=>by
    obtain ⟨m',hm,w7⟩:=hN σ' H' n7
    refine ⟨m',hm,i + 1,σ',H',K7.unpinned,T.keep _ _ _ st7 fun b hb o e=>(K7.pin (b,o) (List.mem_append_right _ (List.mem_append_right _ (Zct hb e)))).1,fun b hb=>?_,w7⟩
    obtain ⟨o,e,d⟩:=T.obj _ _ st7 b hb
    exact (K7.pin (b,o) (List.mem_append_right _ (List.mem_append_right _ (Zct hb e)))).2.1
   cases ok with
   | false=>
    have q9:N σ8 H9:=q9
    exact wpAny_pure ⟨by rw [hYe],again I9 q9⟩
   | true=>
    have q9:te σ8 H9 fun y H5=>∃ ys,H5 s.heap.objs.size=some (.lst ys)/\ys.length < sizeLine/\N σ8 (upd H5 s.heap.objs.size (.lst (ys ++ [y]))):=q9
    have E1:=EE _ s9 σ8 H9 _ I9 q9
    rw [hYp,hYw,hYA,hYx] at E1
    refine wpAny_bind (wpAny_bind (thn E1 fun v sa ⟨y,Ha,Ia,ra,ys,ea,za,na⟩=>?_))
    have M:=Zdb (X:=Y) _ sa σ8 Ha (.ref s.heap.objs.size) [y] (.ref s.heap.objs.size) [v] (fun _ H=>N σ8 H) Ia rfl (.cons ra .nil) ⟨_,ys,y,rfl,rfl,ea,za,na⟩
    rw [hYp,hYw,hYA,hYx] at M
    refine wpAny_bind (thn M fun _ sb ⟨_,Hb,Ib,_,nb⟩=>wpAny_pure (wpAny_pure ⟨by rw [hYe],again Ib nb⟩))
 have hcs:(relabel scope X.env)=(relabel scope X.env):=rfl
 have loop':=loop
 rw [hYe] at loop'
 show codeAny (model X.prog X.w) X.A (.compStart (.ListComp elt [⟨tg,iter,ifs,0⟩] scope pos) 0 (.ref it) (.ref s.heap.objs.size) (compEnvC scope ((y,(s.heap.push { cls:=.type "list",data:=.seq ([]:List Value).toArray }).objs.size + 1) :: clOf X.env scope.names []) (s.heap.push { cls:=.type "list",data:=.seq ([]:List Value).toArray }).objs.size X.env)) (RR (.ref s.heap.objs.size) (s.heap.push { cls:=.type "list",data:=.seq ([]:List Value).toArray }).objs.size) _
 rw [hC]
 exact codeAny_compStart_list loop' (T.self _ 0 _ _ _ tn4 loop')
theorem Zna {y:Str} {elt tg iter:Expr} {ifs:List Expr} {scope:Scope} {pos:Pos} {fvs:List Str} {sel:List Nat} {wi:TI} {g:TG} {tc:TT} {te:TE} (tgs:List Str) (S:CompScK X.env.scope X.N y scope fvs sel) (hc:X.calm=true)
  (hi:PI X tg iter wi) (hg:∀ C s H ex pn,PG (compCxK X y scope (tgs ++ fvs) C s H ex pn) tg g) (ht:∀ C s H ex pn,PTs (compCxK X y scope (tgs ++ fvs) C s H ex pn) ifs tc) (he:∀ C s H ex pn,PE (compCxK X y scope (tgs ++ fvs) C s H ex pn) elt te)
  (hs:∀ x,foldedSetIterable iter X.env x=pure x:=by intro _; rfl) :
  PE X (.ListComp elt [⟨tg,iter,ifs,0⟩] scope pos) (tComp tgs.length sel wi g tc te):=by
 intro pins s σ H Q I h
 rw [eval_ListComp]
 refine wpAny_comprehension_free (use:=none) rfl hs (Zcf (Zec S I.ok)) S.kind S.names (thn (hi pins s σ H _ I h) fun v s1 h1=>thn h1 fun itv s2 h2=>?_)
 refine Zgo S hc hg ht he (RR:=fun acc C=>compPost (model X.prog X.w) X.A X.xe none (EP X pins σ Q) acc C) (Q:=Q) h2 ?_
 intro s' C acc H' m hn _ hI q
 exact ⟨m,hn,fun h' sb=>⟨.ref acc,H',hI h' sb,rfl,q⟩⟩
end
end L2
set_option Elab.async false
set_option linter.all false
set_option maxRecDepth 100000
namespace L2
open PySem PySem.Spec PyProof.Rows PySem.SeqAt
section
variable {K:PySem.W.Frag} {Δ:Evt} {P:D->Evt->Prop}
end
end L2
set_option Elab.async false
set_option linter.all false
set_option maxRecDepth 100000
namespace L2
open PySem PySem.Spec PyProof.Rows
end L2
set_option Elab.async false
set_option linter.all false
set_option maxRecDepth 100000
namespace L2
open PySem PySem.Spec PyProof.Rows
section
variable {K:PySem.W.Frag} {Δ:Evt}
theorem Zov {te:TE} {d:D} {ds:List D} {P:List D->Evt->Prop} (hd:d=.tup ds\/d=.lst ds) (h:JE K te Δ fun e Δ1=>e=d/\P ds Δ1):JI K (iSeq K te) Δ P:=by
 rcases hd with rfl | rfl
 ·exact Zc7 (h.mono fun e Δ1 ⟨e1,p⟩=>⟨_,e1,p⟩)
 ·exact Zeq (h.mono fun e Δ1 ⟨e1,p⟩=>⟨_,Or.inl e1,p⟩)
end
end L2
set_option Elab.async false
set_option linter.all false
set_option maxRecDepth 100000
namespace L2
open PySem PySem.Spec PyProof.Rows PySem.SeqAt
section
variable {K:PySem.W.Frag} {Δ:Evt} {P:D->Evt->Prop}
end
end L2
set_option Elab.async false
set_option linter.all false
set_option maxRecDepth 100000
namespace L2
open PySem PySem.Spec PyProof.Rows
section
variable {K:PySem.W.Frag} {Δ:Evt}
end
end L2
set_option Elab.async false
set_option linter.all false
set_option maxRecDepth 100000
namespace L2
open PySem PySem.Spec PyProof.Rows
section
variable {K:PySem.W.Frag} {Δ:Evt}
end
end L2
set_option Elab.async false
set_option linter.all false
set_option maxRecDepth 100000
namespace L2
open PySem PySem.Spec PyProof.Rows
section
variable {X:Cx}
end
end L2
set_option Elab.async false
set_option linter.all false
set_option maxRecDepth 100000
namespace L2
open PySem PySem.Spec PyProof.Rows
section
variable {X:Cx}
def rStrU:List V->Hp->VK->Prop:=fun xs H Q=>(∃ i,xs=[.int i]/\i.natAbs.log2 < 1920/\Q (.str (toString i)) H)\/∃ x,xs=[.str x]/\Q (.str x) H
theorem strUK:CallR X (.type "str") rStrU:=by
 intro pins s σ H xs us Q I r h
 rcases h with ⟨i,rfl,hz,q⟩ | ⟨x,rfl,q⟩
 ·obtain ⟨u,rfl,t,rfl⟩:=vals1 r
  exact PySem.P.str_of_int hz ⟨.str _,H,I.tok _,⟨_,rfl⟩,q⟩
 ·obtain ⟨u,rfl,t,rfl⟩:=vals1 r
  exact PySem.P.str_of_str ⟨.str _,H,I,⟨_,rfl⟩,q⟩
end
section
variable {K:PySem.W.Frag} {Δ:Evt} {P:D->Evt->Prop}
theorem Zs2 {x:Str} (p:P (.bl false) Δ):JR2 K rNe (.str x) (.str x) Δ P:=fun g G H σ Q u v k rx ry c=>by
 cases rx.inv; cases ry.inv
 refine ⟨rfl,?_⟩
 rw [decide_eq_true rfl]
 exact c _ _ G H Δ k (Same.refl _) (.bl _) p
theorem Znd {i:Int} (hz:i.natAbs.log2 < 1920) (p:P (.str (toString i)) Δ):JC K rStrU [.int i] Δ P:=fun g G H σ Q vs k rs c=>by
 obtain ⟨_,_,rfl,r,t⟩:=rs.inv
 next=>cases t.inv; cases r.inv; exact .inl ⟨i,rfl,hz,c _ _ G H Δ k (Same.refl _) (.str _) p⟩
end
end L2
set_option Elab.async false
set_option linter.all false
set_option maxRecDepth 100000
namespace L2
open PySem PySem.Spec PyProof.Rows
end L2
set_option Elab.async false
set_option linter.all false
set_option maxRecDepth 100000
namespace L2
open PySem PySem.Spec PyProof.Rows
end L2
set_option Elab.async false
set_option linter.all false
set_option maxRecDepth 100000
namespace L2
open PySem PySem.Spec PyProof.Rows
section
variable {X:Cx}
end
end L2
set_option Elab.async false
set_option linter.all false
set_option maxRecDepth 100000
namespace L2
open PySem PySem.Spec PyProof.Rows
end L2
set_option Elab.async false
set_option linter.all false
set_option maxRecDepth 100000
namespace L2
open PySem PySem.Spec PyProof.Rows
end L2
set_option Elab.async false
set_option linter.all false
set_option maxRecDepth 100000
namespace L2
open PySem PySem.Spec PyProof.Rows
section
variable {K:PySem.W.Frag} {Δ:Evt}
end
section
variable {K:PySem.W.Frag} {Δ:Evt} {P:D->Evt->Prop}
end
end L2
set_option Elab.async false
set_option linter.all false
set_option maxRecDepth 100000
namespace L2
open PySem PySem.Spec PyProof.Rows
section
variable {X:Cx} {pins:List (Addr × Obj)} {σ:St} {H H':Hp} {s:Shared} {h':Heap} {b:Addr}
end
section
variable {X:Cx} {pins:List (Addr × Obj)} {σ:St} {H H':Hp} {s:Shared} {h':Heap} {a C T:Addr}
variable {M:Model} {E:Value->Shared->Prop} {Q:Unit->Shared->Prop}
end
end L2
set_option Elab.async false
set_option linter.all false
set_option maxRecDepth 100000
namespace L2
open PySem PySem.Spec PyProof.Rows
end L2
set_option Elab.async false
set_option linter.all false
set_option maxRecDepth 100000
namespace L2
open PySem PySem.Spec PyProof.Rows
end L2
set_option Elab.async false
set_option linter.all false
set_option maxRecDepth 100000
namespace L2
open PySem PySem.Spec PyProof.Rows
section
variable {X:Cx} {pins:List (Addr × Obj)} {σ:St} {H:Hp} {s:Shared} {a C:Addr}
end
end L2
set_option Elab.async false
set_option linter.all false
set_option maxRecDepth 100000
namespace L2
open PySem PySem.Spec PyProof.Rows
section
variable {X:Cx}
end
end L2
set_option Elab.async false
set_option linter.all false
set_option maxRecDepth 100000
namespace L2
open PySem PySem.Spec PyProof.Rows
section
variable {P:Program} {w:World} {K:PySem.W.Frag} {mg:Str->Option Value} {base:Heap}
end
section
variable {K:PySem.W.Frag} {Δ:Evt} {E:XK} {Xp:Addr->Prop} {nx bk ct:Evt->Prop} {rt:D->Evt->Prop} {ro:OD->Evt->Prop}
end
end L2
set_option Elab.async false
set_option linter.all false
set_option maxRecDepth 100000
namespace L2
open PySem PySem.Spec PyProof.Rows PySem.SeqAt
section
variable {K:PySem.W.Frag} {Δ:Evt} {P:D->Evt->Prop}
end
end L2
set_option Elab.async false
set_option linter.all false
set_option maxRecDepth 100000
namespace L2
open PySem PySem.Spec PyProof.Rows
end L2
set_option Elab.async false
set_option linter.all false
set_option maxRecDepth 100000
namespace L2
open PySem PySem.Spec PyProof.Rows
section
variable {K:PySem.W.Frag} {Δ:Evt}
end
end L2
set_option Elab.async false
set_option linter.all false
set_option maxRecDepth 100000
namespace L2
open PySem PySem.Spec PyProof.Rows
section
variable {X:Cx}
def CDivB (i j:Int):Prop:=0 < j/\j<=100000000000000000000000000000000000000000000000000000000000
theorem Zhj:OpR X (binaryOp .FloorDiv) (rI CDivB fun i j=>.int (i / j)):=opI fun i j _ _ _ _ _ hc q=>by
 have h1:(0:Int) < j:=hc.1
 have h2:=hc.2
 refine floordiv_int (by omega) (by rw [Int.fdiv_eq_ediv_of_nonneg i (by omega)]; exact q) (.inl (PyProof.noPylong_of_log2 ?_))
 have h3:j.natAbs<=100000000000000000000000000000000000000000000000000000000000:=by omega
 have h4:j.natAbs < 2 ^ 200:=Nat.lt_of_le_of_lt h3 (by decide)
 exact Nat.lt_trans ((Nat.log2_lt (by omega)).2 h4) (by decide)
end
section
variable {K:PySem.W.Frag} {Δ:Evt} {E:XK} {Xp:Addr->Prop} {P:D->Evt->Prop}
theorem Zri (p:P (.dct [] []) Δ):JE K tDNewK Δ P:=fun g G H σ Q k c q hq=>by
 obtain ⟨k2,sg⟩:=k.laid hq (.dK [])
 exact c _ _ _ _ Δ k2 sg (.dct (vs:=[]) Zat rfl .nil) p
end
def keyPd:Key->PyData
 | .inl i=>.int i
 | .inr x=>.str x
mutual
def D.pd:D->PyData
 | .non=>.none
 | .bl b=>.bool b
 | .int i=>.int i
 | .str x=>.str x
 | .tup ds=>.tuple (D.pds ds)
 | .lst ds=>.list (D.pds ds)
 | .dct ks ds=>.dict ((ks.map keyPd).zip (D.pds ds))
 | _=>.none
def D.pds:List D->List PyData
 | []=>[]
 | d :: ds=>D.pd d :: D.pds ds
end
mutual
def D.shw:D->Bool
 | .non=>true
 | .bl _=>true
 | .str _=>true
 | .int i=>decide (i.natAbs.log2 < 1920)
 | .tup ds=>D.shws ds
 | .lst ds=>D.shws ds
 | _=>false
def D.shws:List D->Bool
 | []=>true
 | d :: ds=>D.shw d && D.shws ds
end
def D.shT (d:D):Prop:=d.shw=true\/∃ ks ns:List Int,d=.dct (ks.map .inl) (ns.map .int)/\(∀ k ∈ ks,k.natAbs.log2 < 1920)/\∀ n ∈ ns,n.natAbs.log2 < 1920
mutual
theorem Zl1:∀ d:D,d.shw=true->d.pd.showable=true/\d.pd.hasDict=false
 | .non,_=>⟨rfl,rfl⟩
 | .bl _,_=>⟨rfl,rfl⟩
 | .int i,h=>⟨h,rfl⟩
 | .str _,_=>⟨rfl,rfl⟩
 | .tup ds,h=>Zi8 ds h
 | .lst ds,h=>Zi8 ds h
 | .ty _,h=>by cases h
 | .scr _,h=>by cases h
 | .adr _,h=>by cases h
 | .dct _ _,h=>by cases h
 | .exc _ _,h=>by cases h
theorem Zi8:∀ ds:List D,D.shws ds=true->PyData.showableAll (D.pds ds)=true/\PyData.hasDictAll (D.pds ds)=false
 | [],_=>⟨rfl,rfl⟩
 | d :: ds,h=>by
  have h:(d.shw && D.shws ds)=true:=h
  rw [Bool.and_eq_true] at h
  obtain ⟨a1,a2⟩:=Zl1 d h.1
  obtain ⟨b1,b2⟩:=Zi8 ds h.2
  show (d.pd.showable && PyData.showableAll (D.pds ds))=true/\(d.pd.hasDict || PyData.hasDictAll (D.pds ds))=false
  rw [a1,a2,b1,b2]
  exact ⟨rfl,rfl⟩
end
section
variable {P:Program} {w:World} {K:PySem.W.Frag} {G H:Hp} {h:Heap}
mutual
theorem Zhe (ok:HOk P w H h) (sg:Same G H):∀ {v:V} {d:D} {u:Value},Rep K G v d->d.shw=true->RelV v u->∃ as,Reads h u d.pd as
 | _,_,_,.non,_,r=>by cases r; exact ⟨_,.none⟩
 | _,_,_,.bl b,_,r=>by cases r; exact ⟨_,.bool b⟩
 | _,_,_,.int i,_,r=>by obtain ⟨t,rfl⟩:=r; exact ⟨_,.int i t⟩
 | _,_,_,.str x,_,r=>by obtain ⟨t,rfl⟩:=r; exact ⟨_,.str x t⟩
 | _,_,_,.ty _,z,_=>by cases z
 | _,_,_,.tup e rs,z,r=>by
  cases r
  obtain ⟨_,its,rv,o,ho,⟨hc,n,hd⟩,_⟩:=ok _ _ (sg _ _ e)
  obtain ⟨as,ra⟩:=Zea ok sg rs z rv
  exact ⟨_,.tuple ho hc hd ra⟩
 | _,_,_,.lst e rs,z,r=>by
  cases r
  obtain ⟨_,its,n,rv,ho⟩:=ok _ _ (sg _ _ e)
  obtain ⟨as,ra⟩:=Zea ok sg rs z rv
  exact ⟨_,.list ho rfl rfl ra⟩
 | _,_,_,.scr _ _,z,_=>by cases z
 | _,_,_,.adr _,z,_=>by cases z
 | _,_,_,.dct _ _ _,z,_=>by cases z
 | _,_,_,.exc _,z,_=>by cases z
theorem Zea (ok:HOk P w H h) (sg:Same G H):∀ {vs:List V} {ds:List D} {us:List Value},Reps K G vs ds->D.shws ds=true->Vals vs us->∃ as,ReadsAll h us (D.pds ds) as
 | _,_,_,.nil,_,r=>by cases r; exact ⟨_,.nil⟩
 | _,_,_,.cons (d:=d) (ds:=ds) a b,z,r=>by
  have z:(d.shw && D.shws ds)=true:=z
  rw [Bool.and_eq_true] at z
  cases r with
  | cons ra rb=>
   obtain ⟨as,ha⟩:=Zhe ok sg a z.1 ra
   obtain ⟨bs,hb⟩:=Zea ok sg b z.2 rb
   exact ⟨_,.cons ha hb⟩
end
theorem Zew:∀ {ks ns:List Int} {kvs:List (Key × Value)} {es:List DictEntry},ks.length=ns.length->KV ((ks.map (Sum.inl:Int->Key)).zip (ns.map V.int)) kvs->Pairs (mixKind P w) es kvs →
  ReadsAll h (es.map (·.key)) (ks.map PyData.int) []/\ReadsAll h (es.map (·.val)) (ns.map PyData.int) []
 | [],[],_,_,_,r,p=>by cases r; cases p; exact ⟨.nil,.nil⟩
 | k :: ks,n :: ns,_,_,l,r,p=>by
  cases r with
  | @cons a b as bs h1 h2=>
   cases p with
   | @cons e kv es kvs q1 q2 q3=>
    obtain ⟨i1,i2⟩:=Zew (ks:=ks) (ns:=ns) (by simpa using l) h2 q3
    obtain ⟨hk,hv⟩:=h1
    obtain ⟨t,hv⟩:=hv
    have q1:keyIs b.1 e.key=true:=q1
    rw [<- hk] at q1
    have hk2:∃ t,e.key=.int k t:=Value.isInt_shape (k:=k) (v:=e.key) q1
    obtain ⟨t2,hk2⟩:=hk2
    refine ⟨?_,?_⟩
    ·rw [List.map_cons,List.map_cons,hk2]; exact .cons (as:=[]) (.int k t2) i1
    ·rw [List.map_cons,List.map_cons,q2,hv]; exact .cons (as:=[]) (.int n t) i2
 | [],_ :: _,_,_,l,_,_=>by cases l
 | _ :: _,[],_,_,l,_,_=>by cases l
end
theorem Zix:∀ {ks ns:List Int},ks.length=ns.length->(((ks.map Sum.inl).map keyPd).zip (D.pds (ns.map D.int))).map (·.1)=ks.map PyData.int/\(((ks.map Sum.inl).map keyPd).zip (D.pds (ns.map D.int))).map (·.2)=ns.map PyData.int
 | [],[],_=>⟨rfl,rfl⟩
 | k :: ks,n :: ns,l=>by
  obtain ⟨h1,h2⟩:=Zix (ks:=ks) (ns:=ns) (by simpa using l)
  simp only [List.map_cons,D.pds,List.zip_cons_cons]
  rw [h1,h2]
  exact ⟨rfl,rfl⟩
 | [],_ :: _,l=>by cases l
 | _ :: _,[],l=>by cases l
theorem shkv:∀ {ks ns:List Int},(∀ k ∈ ks,k.natAbs.log2 < 1920)->(∀ n ∈ ns,n.natAbs.log2 < 1920)->PyData.showableKv (((ks.map Sum.inl).map keyPd).zip (D.pds (ns.map D.int)))=true
 | [],_,_,_=>rfl
 | _ :: _,[],_,_=>rfl
 | k :: ks,n :: ns,h1,h2=>by
  have i:=shkv (ks:=ks) (ns:=ns) (fun a ha=>h1 a (List.mem_cons_of_mem _ ha)) (fun a ha=>h2 a (List.mem_cons_of_mem _ ha))
  show (decide (k.natAbs.log2 < 1920) && decide (n.natAbs.log2 < 1920) && PyData.showableKv _)=true
  rw [Bool.and_eq_true,Bool.and_eq_true]
  exact ⟨⟨decide_eq_true (h1 k (List.mem_cons_self ..)),decide_eq_true (h2 n (List.mem_cons_self ..))⟩,i⟩
def rRepr (K:PySem.W.Frag):List V->Hp->VK->Prop:=fun xs H Q=>∃ (G:Hp) (v:V) (d:D),xs=[v]/\Same G H/\Rep K G v d/\d.shT/\d.pd.depth<=20/\d.pd.shown.length<=sizeLine/\Q (.str d.pd.shown) H
section
variable {X:Cx}
theorem reprK (K:PySem.W.Frag) (hg:X.A.guards=some []) (hu:X.A.units + 30 < cLine) (hK:X.K=K:=by rfl):CallR X (.builtin "repr") (rRepr K):=by
 subst hK
 intro pins s σ H xs us Q I r h
 obtain ⟨G,v,d,rfl,sg,rep,sh,dp,sz,q⟩:=h
 obtain ⟨u,rfl,ru⟩:=vals1 r
 have fin:∀ (a:Addr),u=.ref a->(∃ as,Reads s.heap (.ref a) d.pd as/\d.pd.showable=true/\(d.pd.hasDict=true->sysModules ∉ as))->wpAny (model X.prog X.w) X.A (call (.builtin "repr") [u]) (EP X pins σ Q) X.xe s:=fun a e ⟨as,h1,h2,h3⟩=>by
  subst e
  exact repr_of_reads' h1 h2 h3 hg (by omega) (fun _ _ e=>e) (fun h' t tk hk=>⟨.str _,H,I.kept hk,⟨_,rfl⟩,q⟩) sz
 rcases sh with z | ⟨ks,ns,rfl,z1,z2⟩
 ·obtain ⟨as,h1⟩:=Zhe I.hok sg rep z ru
  obtain ⟨h2,h3⟩:=Zl1 d z
  have big:∀ a,u=.ref a->wpAny (model X.prog X.w) X.A (call (.builtin "repr") [u]) (EP X pins σ Q) X.xe s:=fun a e=>fin a e ⟨as,e ▸ h1,h2,fun h4=>by rw [h3] at h4; cases h4⟩
  cases rep with
  | non=>cases ru; exact PySem.P.repr_of_none ⟨.str _,H,I.tok _,⟨_,rfl⟩,q⟩
  | bl b=>cases ru; exact PySem.P.repr_of_bool ⟨.str _,H,I.tok _,⟨_,rfl⟩,q⟩
  | int i=>obtain ⟨t,rfl⟩:=ru; exact PySem.P.repr_of_int (of_decide_eq_true z) ⟨.str _,H,I.tok _,⟨_,rfl⟩,q⟩
  | str x=>obtain ⟨t,rfl⟩:=ru; exact PySem.P.repr_of_str ⟨.str _,H,I.tok _,⟨_,rfl⟩,q⟩ sz
  | tup e rs=>exact big _ ru
  | lst e rs=>exact big _ ru
  | _=>cases z
 ·cases rep with
  | @dct a _ vs _ e l rs=>
   cases (show u=Value.ref a from ru)
   have ev:=Reps.ints rs
   subst ev
   have l2:ks.length=ns.length:=by simpa using l
   obtain ⟨_,hS,kvs,rk,o,es,ep,ho,hc,hd,_,hp,_⟩:=Znu I.hok (sg _ _ e)
   obtain ⟨r1,r2⟩:=Zew (h:=s.heap) l2 rk hp
   obtain ⟨e1,e2⟩:=Zix l2
   rw [<- e1] at r1
   rw [<- e2] at r2
   have rd:Reads s.heap (.ref a) (D.pd (.dct (ks.map Sum.inl) (ns.map D.int))) (a :: [] ++ []):=.dict ho hc.1 hd r1 r2
   refine fin a rfl ⟨_,rd,shkv z1 z2,fun _ hm=>?_⟩
   ·have hm:sysModules=a:=by simpa using hm
    subst hm
    exact absurd hS (by rw [beq_self_eq_true]; decide)
end
section
variable {K:PySem.W.Frag} {Δ:Evt} {P:D->Evt->Prop}
theorem Zlv:bootBuiltins "repr" = some (.builtin "repr"):=by decide +kernel
theorem Zsx {A:Around} {k:Nat} (hr:Room k A):A.units + 30 < cLine:=Nat.lt_of_le_of_lt (Nat.add_le_add_left (by decide:30<=64) _) hr.units
theorem Zhu {i:Int} (h1:-1000000000000000000000000000000000000000000000000000000000000<=i) (h2:i<=1000000000000000000000000000000000000000000000000000000000000):i.natAbs.log2 < 1920:=by
 by_cases z:i.natAbs=0
 ·rw [z]; decide
 ·have h4:i.natAbs < 2 ^ 200:=Nat.lt_of_le_of_lt (m:=1000000000000000000000000000000000000000000000000000000000000) (by omega) (by decide)
  exact Nat.lt_trans ((Nat.log2_lt z).2 h4) (by decide)
theorem Zqn {d:D} (h1:d.shT) (h2:d.pd.depth<=20) (h3:d.pd.shown.length<=sizeLine) (p:P (.str d.pd.shown) Δ):JC K (rRepr K) [d] Δ P:=fun g G H σ Q vs k rs c=>by
 obtain ⟨_,_,rfl,r,t⟩:=rs.inv
 next=>cases t.inv; exact ⟨G,_,d,rfl,k.live,r,h1,h2,h3,c _ _ G H Δ k (Same.refl _) (.str _) p⟩
end
end L2
set_option Elab.async false
set_option linter.all false
set_option maxRecDepth 100000
namespace L2
open PySem PySem.Spec PyProof.Rows
section
variable {P:Program} {w:World} {K:PySem.W.Frag} {G H:Hp} {h:Heap}
theorem Zph (ok:HOk P w H h) (sg:Same G H) {v:V} {d:D} {u:Value} (rep:Rep K G v d) (sh:d.shT) (ru:RelV v u):∃ as,Reads h u d.pd as/\d.pd.showable=true/\(d.pd.hasDict=true->sysModules ∉ as):=by
 rcases sh with z | ⟨ks,ns,rfl,z1,z2⟩
 ·obtain ⟨as,h1⟩:=Zhe ok sg rep z ru
  obtain ⟨h2,h3⟩:=Zl1 d z
  exact ⟨as,h1,h2,fun h4=>by rw [h3] at h4; cases h4⟩
 ·cases rep with
  | @dct a _ vs _ e l rs=>
   cases (show u=Value.ref a from ru)
   have ev:=Reps.ints rs
   subst ev
   have l2:ks.length=ns.length:=by simpa using l
   obtain ⟨_,hS,kvs,rk,o,es,ep,ho,hc,hd,_,hp,_⟩:=Znu ok (sg _ _ e)
   obtain ⟨r1,r2⟩:=Zew (h:=h) l2 rk hp
   obtain ⟨e1,e2⟩:=Zix l2
   rw [<- e1] at r1
   rw [<- e2] at r2
   have rd:Reads h (.ref a) (D.pd (.dct (ks.map Sum.inl) (ns.map D.int))) (a :: [] ++ []):=.dict ho hc.1 hd r1 r2
   refine ⟨_,rd,shkv z1 z2,fun _ hm=>?_⟩
   have hm:sysModules=a:=by simpa using hm
   subst hm
   exact absurd hS (by rw [beq_self_eq_true]; decide)
def D.shU (d:D):Prop:=d.shT\/∃ x:Str,d=.tup [.str x,.dct [] []]
theorem Zo2 (ok:HOk P w H h) (sg:Same G H) {v:V} {d:D} {u:Value} (rep:Rep K G v d) (sh:d.shU) (ru:RelV v u):∃ as,Reads h u d.pd as/\d.pd.showable=true/\(d.pd.hasDict=true->sysModules ∉ as):=by
 rcases sh with z | ⟨x,rfl⟩
 ·exact Zph ok sg rep z ru
 ·cases rep with
  | tup e rs=>
   cases ru
   obtain ⟨_,its,rv,o,ho,⟨hc,n,hd⟩,_⟩:=ok _ _ (sg _ _ e)
   cases rs with
   | cons r1 rs=>
    cases rs with
    | cons r2 rs=>
     cases rs
     cases rv with
     | cons v1 rv=>
      cases rv with
      | cons v2 rv=>
       cases rv
       cases r1
       obtain ⟨t,rfl⟩:=v1
       obtain ⟨as,h1,h2,h3⟩:=Zph ok sg r2 (.inr ⟨[],[],rfl,by simp,by simp⟩) v2
       exact ⟨_,.tuple ho hc hd (.cons (.str x t) (.cons h1 .nil)),rfl,fun _=>by rw [List.nil_append,List.append_nil]; exact h3 rfl⟩
theorem Znh (ok:HOk P w H h) (sg:Same G H):∀ {vs:List V} {ds:List D} {us:List Value},Reps K G vs ds->(∀ x ∈ ds,x.shU)->Vals vs us->(∀ t ∈ PyData.shownAll (D.pds ds),t.length<=sizeLine) →
  (∃ as,ReadsAll h us (D.pds ds) as)/\∃ bs,ReadAtMost h (PyData.depthAll (D.pds ds)) bs/\ReprAllK P w bs h (PyData.depthAll (D.pds ds)) us (PyData.shownAll (D.pds ds))
 | _,_,_,.nil,_,r,_=>by cases r; exact ⟨⟨_,.nil⟩,[],(fun _ h=>nomatch h),.nil⟩
 | _,_,_,.cons (d:=d) (ds:=ds) a b,z,r,hz=>by
  cases r with
  | cons ra rb=>
   obtain ⟨as,h1,h2,h3⟩:=Zo2 ok sg a (z _ (List.mem_cons_self ..)) ra
   obtain ⟨⟨as2,h4⟩,b2,hb2,k2⟩:=Znh ok sg b (fun x hx=>z x (List.mem_cons_of_mem _ hx)) rb (fun t ht=>hz t (List.mem_cons_of_mem _ ht))
   obtain ⟨b1,hb1,k1⟩:=ReprK.of_reads (prog:=P) (w:=w) h1 h2 h3 (hz _ (List.mem_cons_self ..))
   refine ⟨⟨_,.cons h1 h4⟩,b1 ++ b2,fun b hm=>?_,.cons ((k1.more fun b hb=>List.mem_append_left _ hb).level_le (Nat.le_max_left _ _)) (k2.more_le (fun b hb=>List.mem_append_right _ hb) (Nat.le_max_right _ _))⟩
   rcases List.mem_append.mp hm with hm | hm
   ·obtain ⟨d',as',r',hd'⟩:=hb1 b hm
    exact ⟨d',as',r',Nat.le_trans hd' (Nat.le_max_left _ _)⟩
   ·obtain ⟨d',as',r',hd'⟩:=hb2 b hm
    exact ⟨d',as',r',Nat.le_trans hd' (Nat.le_max_right _ _)⟩
end
section
variable {K:PySem.W.Frag} {Δ:Evt} {P:D->Evt->Prop}
end
section
variable {K:PySem.W.Frag} {Δ:Evt} {P:D->Evt->Prop}
end
def PV (K:PySem.W.Frag) (te:TE) (Δ:Evt) (d:D):Prop:=∀ P:D->Evt->Prop,P d Δ -> JE K te Δ P
def PVs (K:PySem.W.Frag) (ta:TA) (Δ:Evt) (ds:List D):Prop:=∀ P:List D->Evt->Prop,P ds Δ -> JA K ta Δ P
def PR2 (K:PySem.W.Frag) (r:R2) (d e:D) (Δ:Evt) (x:D):Prop:=∀ P:D->Evt->Prop,P x Δ -> JR2 K r d e Δ P
section
variable {K:PySem.W.Frag} {Δ:Evt}
theorem Za1 {te:TE} {d:D} {P:D->Evt->Prop} (h:PV K te Δ d) (p:P d Δ):JE K te Δ P:=h P p
theorem Zsu {ta:TA} {ds:List D} {P:List D->Evt->Prop} (h:PVs K ta Δ ds) (p:P ds Δ):JA K ta Δ P:=h P p
theorem Zag {i:Nat} {d:D} (h:Δ[i]? = some (.val d)):PV K (tVar i) Δ d:=fun P p=>Zad h p
theorem Zal {i:Int}:PV K (tC (.int i)) Δ (.int i):=fun P p=>Zay p
theorem Zom {b:Bool}:PV K (tC (.bl b)) Δ (.bl b):=fun P p=>Zcg p
theorem Zjm:PV K (tC .non) Δ .non:=fun P p=>Zjn p
theorem Zry {x:Str}:PV K (tC (.str x)) Δ (.str x):=fun P p=>Zs9 p
theorem Zl8:PV K tDNewK Δ (.dct [] []):=fun P p=>Zri p
theorem Za3:PVs K tNil Δ []:=fun P p=>Zah p
theorem Zai {ta:TE} {tr:TA} {d:D} {ds:List D} (h:PV K ta Δ d) (t:PVs K tr Δ ds):PVs K (tCons ta tr) Δ (d :: ds):=fun P p=>Zab (h _ (t _ p))
theorem Zcn {ta:TA} {ds:List D} (h:PVs K ta Δ ds) (z:ds.length<=sizeLine):PV K (tTup ta) Δ (.tup ds):=fun P p=>Zdf (h _ ⟨z,p⟩)
theorem Zc1 {ta:TA} {ds:List D} (h:PVs K ta Δ ds) (z:ds.length<=sizeLine):PV K (tLst ta) Δ (.lst ds):=fun P p=>Zjr (h _ ⟨z,p⟩)
theorem Za7 {r:R2} {ta tb:TE} {d e x:D} (a:PV K ta Δ d) (b:PV K tb Δ e) (h:PR2 K r d e Δ x):PV K (tOp r ta tb) Δ x:=fun P p=>Zaz (a _ (b _ (h P p)))
theorem Zsq {ds:List D} {i:Int} {d:D} (h:atI ds i=some d):PR2 K (rIxU K) (.tup ds) (.int i) Δ d:=fun P p=>Zez h p
theorem Zsc {ds:List D} {i:Int} {d:D} (h:atI ds i=some d):PR2 K (rIxU K) (.lst ds) (.int i) Δ d:=fun P p=>Zcd h p
theorem Zf4 {ds es:List D} (hz:ds.length + es.length<=sizeLine):PR2 K (rAddU K) (.lst ds) (.lst es) Δ (.lst (ds ++ es)):=fun P p=>Zre hz p
theorem Zbt {i j:Int}:PR2 K (rAddU K) (.int i) (.int j) Δ (.int (i + j)):=fun P p=>Zcc p
theorem Zc4 {f:Int->Int->Int} {i j:Int}:PR2 K (rI0 fun i j=>.int (f i j)) (.int i) (.int j) Δ (.int (f i j)):=fun P p=>Zkh p
theorem pr_I {C:Int->Int->Prop} {f:Int->Int->Int} {i j:Int} (hc:C i j):PR2 K (rI C fun i j=>.int (f i j)) (.int i) (.int j) Δ (.int (f i j)):=fun P p=>jr_I hc p
theorem Zaw {ta tb:TE} {ds:List D} {i:Int} {d:D} (a:PV K ta Δ (.tup ds)) (b:PV K tb Δ (.int i)) (h:atI ds i=some d):PV K (tOp (rIxU K) ta tb) Δ d:=Za7 a b (Zsq h)
theorem Zsf {ta tb:TE} {ds:List D} {i:Int} {d:D} (a:PV K ta Δ (.lst ds)) (b:PV K tb Δ (.int i)) (h:atI ds i=some d):PV K (tOp (rIxU K) ta tb) Δ d:=Za7 a b (Zsc h)
theorem Zdz {ta:TE} {ds:List D} (a:PV K ta Δ (.tup ds)):PV K (tCB (rLenU K) (tCons ta tNil)) Δ (.int ds.length):=fun P p=>Za4 (Zab (a _ (Zah (Zbp (.inr rfl) p))))
end
end L2
set_option Elab.async false
set_option linter.all false
set_option maxRecDepth 100000
namespace L2
open PySem PySem.Spec PyProof.Rows PySem.SeqAt
section
variable {K:PySem.W.Frag} {Δ:Evt} {P:D->Evt->Prop}
end
end L2
set_option Elab.async false
set_option linter.all false
set_option maxRecDepth 100000
namespace L2
open PySem PySem.Spec PyProof.Rows PySem.SeqAt
section
variable {K:PySem.W.Frag} {Δ:Evt}
end
end L2
set_option Elab.async false
set_option linter.all false
set_option maxRecDepth 100000
namespace L2
open PySem PySem.Spec PyProof.Rows
section
variable {K:PySem.W.Frag} {Δ:Evt} {nx bk ct:Evt->Prop} {rt:D->Evt->Prop} {ro:OD->Evt->Prop}
end
end L2
set_option Elab.async false
set_option linter.all false
set_option maxRecDepth 100000
namespace L2
open PySem PySem.Spec PyProof.Rows
section
variable {K:PySem.W.Frag} {Δ:Evt} {P:D->Evt->Prop}
end
end L2
set_option Elab.async false
set_option linter.all false
set_option maxRecDepth 100000
namespace L2
open PySem PySem.Spec PyProof.Rows
section
variable {K:PySem.W.Frag} {Δ:Evt} {P:D->Evt->Prop}
theorem Zjj {G:Hp}:∀ {kvs:List (Key × V)} {kds:List (Key × D)},Paired (fun (p:Key × V) (q:Key × D)=>p.1=q.1/\Rep K G p.2 q.2) kvs kds->(kds.map (·.1)).zip (kvs.map (·.2))=kvs/\Reps K G (kvs.map (·.2)) (kds.map (·.2))
 | _,_,.nil=>⟨rfl,.nil⟩
 | (k1,v1) :: kvs,(k2,d2) :: kds,.cons ⟨e,r⟩ t=>by
  have e:k1=k2:=e
  subst e
  obtain ⟨h1,h2⟩:=Zjj t
  refine ⟨?_,.cons r h2⟩
  show (k1,v1) :: (kds.map (·.1)).zip (kvs.map (·.2))=_
  rw [h1]
theorem Zfb {G:Hp}:∀ {ks:List Key} {vs:List V} {ds:List D},ks.length=vs.length->Reps K G vs ds->Paired (fun (p:Key × V) (q:Key × D)=>p.1=q.1/\Rep K G p.2 q.2) (ks.zip vs) (ks.zip ds)
 | [],_,_,_,_=>.nil
 | _ :: _,_,_,l,.nil=>by cases l
 | k :: ks,_,_,l,.cons r rs=>.cons ⟨rfl,r⟩ (Zfb (Nat.succ.inj l) rs)
theorem Zff (kds:List (Key × D)):(kds.map (·.1)).zip (kds.map (·.2))=kds:=by
 induction kds with
 | nil=>rfl
 | cons a t ih=>rw [List.map_cons,List.map_cons,List.zip_cons_cons,ih]
theorem Ok.freezeD {g:Gm} {G H:Hp} {σ:St} (k:Ok K g G H σ Δ) {a:Addr} {kds:List (Key × D)} {kvs:List (Key × V)} (p:Pend K g G H σ Δ a (.dct kds)) (hv:H a=some (.dK kvs)):Ok K g (upd G a (.dK kvs)) H σ Δ /\ Same G (upd G a (.dK kvs))/\Rep K (upd G a (.dK kvs)) (.ref a) (.dct (kds.map (·.1)) (kds.map (·.2))):=by
 obtain ⟨o,p1,p2,p3,p4,p5,p6⟩:=p
 rw [hv] at p1; cases p1
 obtain ⟨r1,r2⟩:=Zjj (K:=K) p2
 have sg:Same G (upd G a (.dK kvs)):=fun b u e=>by rw [Zao (Zaq e p3)]; exact e
 refine ⟨⟨k.same,k.lent,k.sub.trans sg,fun b u e=>?_,fun b u e=>?_,k.len,fun j d h=>?_,fun j x od e1 e2=>?_,k.dis⟩,sg,.dct (vs:=kvs.map (·.2)) (by rw [r1]; exact Zat) (by rw [List.length_map,List.length_map]; exact (Paired.length p2).symm) (r2.mono sg)⟩
 ·by_cases hb:b=a
  ·subst hb; rw [Zat] at e; cases e; exact ⟨hv,.inl p4⟩
  ·rw [Zao hb] at e; exact k.frz b u e
 ·obtain ⟨h1,h2,h3⟩:=k.ext b u e
  have hb:b ≠ a:=by intro z; subst z; rw [p5] at e; cases e
  exact ⟨h1,by rw [Zao hb]; exact h2,h3⟩
 ·obtain ⟨v,h1,h2⟩:=k.val j d h
  exact ⟨v,h1,h2.mono sg⟩
 ·obtain ⟨c,o,w1,w2,w3,w4,w5⟩:=k.own j x od e1 e2
  have hc:c ≠ a:=by intro z; subst z; exact p6 j x od e1 e2 w1
  exact ⟨c,o,w1,w2,w3.mono sg,by rw [Zao hc]; exact w4,w5⟩
def dctD (kds:List (Key × D)):D:=.dct (kds.map (·.1)) (kds.map (·.2))
theorem Zmf {t:TE} (h:JO K t Δ fun od Δ1=>∃ kds,od=.dct kds/\P (dctD kds) Δ1):JE K t Δ P:=fun g G H σ Q k c=>
 h g G H σ Q k fun a od G1 H1 Δ1 k1 s1 pd hq_=>by
  obtain ⟨kds,e,p1⟩:=hq_
  subst e
  obtain ⟨o,q1,q2,_⟩:=id pd
  cases o with
  | dK kvs=>
   obtain ⟨k2,sg,r⟩:=k1.freezeD pd q1
   exact c _ _ _ H1 Δ1 k2 (s1.trans sg) r p1
  | _=>exact absurd q2 (fun z=>z)
theorem Zqz {kds:List (Key × D)} {i:Int} {d:D} (h:valD kds (.inl i)=some d) (p:P d Δ):JR2 K (rIxU K) (dctD kds) (.int i) Δ P:=fun g G H σ Q x y k rx ry c=>by
 obtain ⟨a,vs,rfl,ha,hl,rs⟩:=rx.inv
 cases ry.inv
 have pr:=Zfb hl rs
 rw [Zff] at pr
 obtain ⟨u,z1,z2⟩:=Zio pr h
 exact .inr ⟨a,u,rfl,(by have:=DGet.k (k:=Sum.inl i) (k.live _ _ ha); rw [z1] at this; exact this),c u d G H Δ k (Same.refl _) z2 p⟩
end
end L2
set_option Elab.async false
set_option linter.all false
set_option maxRecDepth 100000
namespace HT
open PySem PyProof.Rows
end HT
namespace L2
open PySem PySem.Spec PyProof.Rows
section
variable {K:PySem.W.Frag} {Δ:Evt} {P:D->Evt->Prop}
end
end L2
set_option Elab.async false
set_option linter.all false
set_option maxRecDepth 100000
namespace L2
open PySem PySem.Spec PyProof.Rows
section
variable {prog:Program} {w:World} {A:Around} {R:Result->Shared->Prop} {I:Addr} {fp wr:List Addr} {G:Array GenState->Array GenState->Prop} {n:Nat} {P:Nat->Value->Prop} {St:Nat->Shared->Prop} {K:Type} [DecidableEq K] {knd:KeyKind prog w K}
end
section
variable {X:Cx}
end
end L2
set_option Elab.async false
set_option linter.all false
set_option maxRecDepth 100000
namespace L2
open PySem PySem.Spec PyProof.Rows
end L2
namespace L2
open PySem PySem.Spec PyProof.Rows
section
variable {prog:Program} {w:World} {A:Around} {E:Value->Shared->Prop} {s:Shared}
end
section
variable {K:PySem.W.Frag} {Δ:Evt} {P:D->Evt->Prop}
end
end L2
namespace L2
open PySem PySem.Spec PyProof.Rows
end L2
set_option Elab.async false
set_option linter.all false
set_option maxRecDepth 100000
namespace L2
open PySem PySem.Spec PyProof.Rows PySem.SeqAt
section
variable {prog:Program} {w:World} {A:Around} {E:Value->Shared->Prop} {s:Shared}
end
section
variable {K:PySem.W.Frag} {Δ:Evt}
end
end L2
set_option Elab.async false
set_option linter.all false
set_option maxRecDepth 100000
namespace L2
open PySem PySem.Spec PyProof.Rows PySem.SeqAt
section
open PySem.AutoSeq1 (wpAny_loadPart')
open PySem.MeetsSeq PySem.MeetsSeq2 PySem.MeetsSeq3
end
section
variable {prog:Program} {w:World} {A:Around} {R:Result->Shared->Prop} {I:Addr} {fp wr:List Addr} {n:Nat} {P:Nat->Value->Prop} {St:Nat->Heap->Prop}
end
end L2
namespace L2
open PySem PySem.Spec PyProof.Rows PySem.SeqAt
section
variable {K:PySem.W.Frag} {Δ:Evt} {P:D->Evt->Prop}
end
end L2
set_option Elab.async false
set_option linter.all false
set_option maxRecDepth 100000
namespace L2
open PySem PySem.Spec PyProof.Rows PySem.SeqAt
section
variable {K:PySem.W.Frag} {Δ:Evt} {P:D->Evt->Prop}
end
end L2
set_option Elab.async false
set_option linter.all false
set_option maxRecDepth 100000
namespace L2
open PySem PySem.Spec PyProof.Rows PySem.SeqAt
section
variable {K:PySem.W.Frag} {Δ:Evt} {P:D->Evt->Prop}
end
end L2
set_option Elab.async false
set_option linter.all false
set_option maxRecDepth 100000
namespace L2
open PySem PySem.Spec PyProof.Rows PySem.SeqAt
end L2
set_option Elab.async false
set_option linter.all false
set_option maxRecDepth 100000
namespace L2
open PySem PySem.Spec PyProof.Rows PySem.SeqAt
section
variable {X:Cx}
end
section
variable {prog:Program} {w:World} {A:Around} {E:Value->Shared->Prop} {s:Shared}
theorem Znw {l:Addr} {vs:List Value} {k:Nat} {d:Option Addr} {sl:Array (Option Value)} {x:Int} {u:Tok} {Q:Value->Shared->Prop} (ho:s.heap.get? l=some { cls:=.type "list",dict:=d,data:=.seq vs.toArray k,slots:=sl }) (hlo:-(2 ^ 63:Int)<=x) (hhi:x < 2 ^ 63) (hsz:vs.length * x.toNat<=2 ^ 24)
  (h:Q (.ref s.heap.objs.size) { s with heap:=s.heap.push { cls:=.type "list",data:=.seq (List.replicate x.toNat vs).flatten.toArray } }):wpAny (model prog w) A (binaryOp .Mult (.ref l) (.int x u)) Q E s:=by
 have hsz':vs.toArray.size * x.toNat<=2 ^ 24:=by simpa using hsz
 refine wpAny_binaryOp_repeat_ref (T:="list") (U:="int") (by decide) ⟨_,ho,rfl⟩ (fun s'=>typeIs_int s' x u) noFill_list_mul F.fills_int_mul F.slot_int_rmul repeat_list F.slot_int_index.lookup
  (call_meets F.slot_int_rmul (typeIs_int s x u) F.entry_int_rmul (F.args_int_rmul_2 _ _) (lm_int_rmul_list_any x u l vs.toArray k d sl)
   ⟨ho,rfl,⟨_,ho,rfl⟩,call_meets F.slot_list_mul ⟨_,ho,rfl⟩ F.entry_list_mul (F.args_list_mul_2 _ _)
    (lm_list_mul_any l vs.toArray k d sl x u (by simp [Builtin.List.listFitsIndex]; omega) (by omega) (by simp [Builtin.List.listTooLong,sizeLine]; omega))
    ⟨ho,?_⟩⟩)
 rw [listMul_foldl_if]
 exact h
end
section
variable {X:Cx}
def rMulL (K:PySem.W.Frag):R2:=fun x y H Q=>∃ (a:Addr) (u:V) (n:Nat),x=.ref a/\y=.int (n:Int)/\SqL K H a [u]/\n<=1000/\∀ l,H l=none->Q (.ref l) (upd H l (.lst (List.replicate n u)))
theorem Zkb {u:V} {v:Value} (r:RelV u v):∀ n,Vals (List.replicate n u) (List.replicate n v)
 | 0=>.nil
 | n + 1=>.cons r (Zkb r n)
theorem Zlb (K:PySem.W.Frag) (hK:X.K=K:=by rfl):OpR X (binaryOp .Mult) (rMulL K):=by
 subst hK
 intro pins s σ H x y v u Q I rx ry h
 obtain ⟨a,z,n,rfl,rfl,ha,hn,q⟩:=h
 cases rx
 obtain ⟨t,rfl⟩:=ry
 obtain ⟨its,r1,p1,_⟩:=I.list ha
 obtain ⟨⟨cls,dd,data,sl⟩,ho,hc,k,hd⟩:=p1.isList
 simp only at hc hd
 subst hc hd
 have hl1:its.length=1:=r1.length.symm
 refine Znw ho (by omega) (by omega) (by rw [hl1,Int.toNat_natCast]; omega) ?_
 rw [Int.toNat_natCast]
 obtain ⟨v,rfl,rv⟩:=r1.one
 rw [List.flatten_replicate_singleton]
 refine ⟨.ref s.heap.objs.size,_,I.laid (t':=s.toks) (o:=.lst (List.replicate n z)) (fun b ob q=>Heap.get?_push_of_some _ q) (Nat.le_refl _) ?_,rfl,q _ (I.hok.fresh (Nat.le_refl _))⟩
 have hz:(List.replicate n z).length<=sizeLine:=by rw [List.length_replicate]; exact Nat.le_trans hn (show 1000<=sizeLine by decide)
 exact ⟨hz,List.replicate n v,0,Zkb rv n,Heap.get?_push_size _ rfl⟩
end
section
variable {K:PySem.W.Frag} {Δ:Evt} {P:D->Evt->Prop}
theorem Zhg {G:Hp} {v:V} {d:D} (r:Rep K G v d):∀ n,Reps K G (List.replicate n v) (List.replicate n d)
 | 0=>.nil
 | n + 1=>.cons r (Zhg r n)
theorem Zqu {d:D} {n:Nat} (hn:n<=1000) (p:P (.lst (List.replicate n d)) Δ):JR2 K (rMulL K) (.lst [d]) (.int (n:Int)) Δ P:=fun g G H σ Q x y k rx ry c=>by
 cases ry.inv
 obtain ⟨a,us,rfl,ha,rs⟩:=rx.inv
 obtain ⟨u,t,rfl,r,tt⟩:=rs.inv
 cases tt.inv
 refine ⟨a,u,n,rfl,rfl,SqL.of (k.live _ _ ha),hn,fun l hl=>?_⟩
 obtain ⟨k2,sg⟩:=k.laid hl (.lst (List.replicate n u))
 exact c _ _ _ _ Δ k2 sg (.lst Zat (Zhg (r.mono sg) n)) p
theorem Zse {i:Nat} {ds:List D} {t:TS} {P:Pst} (h:Δ[i]? = some (.own (.lst ds))) (p:JS K t (Δ.set i (.val (.lst ds))) P):JS K t Δ P:=
 JS.conv (fun g G H σ k=>by
  obtain ⟨a,h1,pd⟩:=k.take h
  obtain ⟨o,q1,q2,_⟩:=id pd
  cases o with
  | lst vs=>
   obtain ⟨k2,sg,r⟩:=(k.drop i).freeze pd q1
   have k3:=k2.setVal (i:=i) (by simpa using (List.getElem?_eq_some_iff.mp h).1) r
   have e1:σ.set i (some (.ref a)) = σ:=by
    apply List.ext_getElem?
    intro j
    by_cases hj:j=i
    ·subst hj; rw [List.getElem?_set_self (k.lt h),h1]
    ·rw [List.getElem?_set_ne (Ne.symm hj)]
   rw [e1,List.set_set] at k3
   exact ⟨_,sg,k3⟩
  | _=>exact absurd q2 (fun z=>z)) p
end
end L2
set_option Elab.async false
set_option linter.all false
set_option maxRecDepth 100000
namespace L2
open PySem PySem.Spec PyProof.Rows PySem.SeqAt
section
variable {prog:Program} {w:World} {A:Around} {E:Value->Shared->Prop} {s:Shared}
end
section
variable {K:PySem.W.Frag} {Δ:Evt}
end
section
variable {K:PySem.W.Frag} {Δ:Evt} {P:D->Evt->Prop}
end
section
variable {X:Cx}
end
end L2
set_option Elab.async false
set_option linter.all false
set_option maxRecDepth 100000
namespace L2
open PySem
def stp (m:Nat):Nat->Nat->Nat
 | 0,i=>i
 | k + 1,i=>(stp m k i * 5 + 1) % (m + 1)
def orb (m:Nat):Nat->Nat->List Nat
 | 0,_=>[]
 | f + 1,i=>i :: orb m f ((i * 5 + 1) % (m + 1))
end L2
set_option Elab.async false
set_option linter.all false
set_option maxRecDepth 100000
namespace L2
open PySem PySem.Spec PyProof.Rows
def SmP (k:Int × Int):Prop:=0<=k.1/\k.1 < 64/\0<=k.2/\k.2 < 2
section
variable {prog:Program} {w:World} {A:Around} {E:Value->Shared->Prop} {s:Shared}
variable {hf:Int × Int->Int} (hfi:∀ {a b:Int × Int},SmP a->SmP b->hf a=hf b->a=b)
include hfi
end
end L2
set_option Elab.async false
set_option linter.all false
set_option maxRecDepth 100000
namespace L2
open PySem PySem.Spec PyProof.Rows
section
variable {X:Cx}
variable {o e:Expr} {es:List Expr} {to:TE} {t:TA} {name:Str} {apos cpos:Pos} {id:String} {r:V->List V->Hp->VK->Prop}
end
end L2
namespace L2
open PySem PySem.Spec PyProof.Rows
end L2
namespace L2
open PySem PySem.Spec PyProof.Rows
end L2
set_option Elab.async false
set_option linter.all false
set_option maxRecDepth 100000
namespace L2
open PySem PySem.Spec PyProof.Rows PySem.SeqAt
section
variable {X:Cx}
end
end L2
set_option Elab.async false
set_option linter.all false
set_option maxRecDepth 100000
namespace L2
open PySem PySem.Spec PyProof.Rows
section
variable {K:PySem.W.Frag} {Δ:Evt}
theorem Zmu {P:D->Evt->Prop} {sel:List Nat} {wi:TI} {tc:TT} {te:TE} (hsel:sel.Nodup)
  (h:JI K wi Δ fun ds Δ1=>ds.length < sizeLine/\∃ (p:D->Bool) (f:D->D),
   (∀ (i:Nat) d,ds[i]? = some d->∃ a b c,d=.tup [a,.tup [b,c]]/\JT K tc (.val a :: .val b :: .val c :: fixD sel Δ1) fun t Δ4=>t=p d/\if t=true then JE K te Δ4 fun e Δ5=>e=f d/\∃ x y z,Δ5=x :: y :: z :: fixD sel Δ1 else ∃ x y z,Δ4=x :: y :: z :: fixD sel Δ1) ∧
   P (.lst ((ds.filter p).map f)) Δ1):JE K (tComp 3 sel wi (gTup K 2 (gCons (gName 0) (gCons (gTup K 2 (gCons (gName 1) (gCons (gName 2) gNil))) gNil))) tc te) Δ P:=by
 refine Zhc hsel fun g G H σ R k c=>h g G H σ R k fun J ds G' H' Δ' k' s' it ⟨z,p,f,ht,he⟩=>c J ds G' H' Δ' k' s' it ⟨z,fixD sel Δ',p,f,rfl,fun i d ts hd hts=>?_,?_⟩
 ·obtain ⟨a,b,c,rfl,hj⟩:=ht i d hd
  refine Zir rfl (Zdi (Zd9 (by decide) (Zdi (Zir rfl (Zdi (Zd9 (by decide) (Zdi (Zd9 (by decide) (Zg8 (Zg8 ?_))))))))))
  obtain ⟨x,y,z,rfl⟩:∃ x y z,ts=[x,y,z]:=by
   match ts,hts with
   | [x,y,z],_=>exact ⟨x,y,z,rfl⟩
  intro g G H σ Q k c
  refine hj g G H σ Q k fun b G1 H1 Δ1 k1 s1 ⟨e1,q⟩=>c b G1 H1 Δ1 k1 s1 ⟨e1,?_⟩
  cases b with
  | true=>
   rw [if_pos rfl] at q ⊢
   exact q.mono fun e Δ5 ⟨e2,x,y,z,e3⟩=>⟨e2,[x,y,z],rfl,e3⟩
  | false=>
   rw [if_neg Bool.false_ne_true] at q ⊢
   obtain ⟨x,y,z,e3⟩:=q
   exact ⟨[x,y,z],rfl,e3⟩
 ·rw [Zd4 (by simp)]; exact he
end
end L2
set_option Elab.async false
set_option linter.all false
set_option maxRecDepth 100000
namespace L2
open PySem PySem.Spec PyProof.Rows PySem.SeqAt
section
variable {K:PySem.W.Frag} {Δ:Evt}
end
end L2
set_option Elab.async false
set_option linter.all false
set_option maxRecDepth 100000
namespace L2
open PySem PySem.Spec PyProof.Rows PySem.SeqAt
section
variable {K:PySem.W.Frag} {Δ:Evt} {P:D->Evt->Prop}
end
end L2
set_option Elab.async false
set_option linter.all false
set_option maxRecDepth 100000
namespace L2
open PySem PySem.Spec PyProof.Rows PySem.Builtin PySem.Builtin.Str
section
variable {K:PySem.W.Frag} {Δ:Evt}
end
end L2
set_option Elab.async false
set_option linter.all false
set_option maxRecDepth 100000
namespace L2
open PySem PySem.Spec PyProof.Rows
section
variable {K:PySem.W.Frag} {Δ:Evt} {P:D->Evt->Prop}
end
end L2
set_option Elab.async false
set_option linter.all false
set_option maxRecDepth 100000
namespace L2
open PySem PySem.Spec PyProof.Rows
section
variable {K:PySem.W.Frag} {Δ:Evt}
end
end L2
set_option Elab.async false
set_option linter.all false
set_option maxRecDepth 100000
namespace L2
open PySem PySem.Spec PyProof.Rows
end L2
set_option Elab.async false
set_option linter.all false
set_option maxRecDepth 100000
namespace L2
open PySem PySem.Spec PyProof.Rows
section
variable {K:PySem.W.Frag} {Δ:Evt} {P:D->Evt->Prop}
end
end L2
set_option Elab.async false
set_option linter.all false
set_option maxRecDepth 100000
namespace L2
open PySem PySem.Spec PyProof.Rows
end L2
set_option Elab.async false
set_option linter.all false
set_option maxRecDepth 100000
namespace L2
open PySem PySem.Spec PyProof.Rows
section
variable {K:PySem.W.Frag} {Δ:Evt}
end
end L2
set_option Elab.async false
set_option linter.all false
set_option maxRecDepth 100000
namespace L2
open PySem PySem.Spec PyProof.Rows
section
variable {X:Cx}
end
end L2
set_option Elab.async false
set_option linter.all false
set_option maxRecDepth 100000
namespace L2
open PySem PySem.Spec PyProof.Rows
section
variable {X:Cx}
def rGetN:V->List V->Hp->VK->Prop:=fun x vs H Q=>∃ a kvs i,x=.ref a/\vs=[.int i]/\H a=some (.dK kvs)/\Q ((valV kvs (Sum.inl i)).getD .non) H
theorem Zq4:MtM X "dict.get" rGetN:=by
 intro pins s σ H x vs v us Q I rx rv h
 obtain ⟨a,kvs,i,rfl,rfl,hH,q⟩:=h
 cases rx
 obtain ⟨u,rfl,ru⟩:=rv.one
 obtain ⟨z,hd,ws,rel,dd⟩:=Zh8 I.hok (.inl hH)
 have hT:s.TypeIs (.ref a) "dict":=by
  obtain ⟨o,es,ep,ho,hc,_⟩:=dd
  exact ⟨o,ho,hc.1⟩
 refine call_meetsIn F.slot_dict_get hT F.entry_dict_get (F.args_dict_get_2 _ _) (meets_dict_get (mixKind X.prog X.w) (k:=(Sum.inl i:Key)) (key:=u) a (Zhl (k:=(Sum.inl i:Key)) ru) hd) ⟨_,dd.mapOf,?_⟩
 have rel':=rel.val (Sum.inl i)
 cases hv:valV kvs (Sum.inl i) with
 | some w'=>
  rw [hv] at q rel'
  obtain ⟨w2,hw,rw'⟩:=RelO.some_of rel'
  rw [hw]
  exact ⟨w',H,I.tok _,rw',q⟩
 | none=>
  rw [hv] at q rel'
  rw [RelO.none_of rel']
  exact ⟨.non,H,I.tok _,rfl,q⟩
def rGetI:V->List V->Hp->VK->Prop:=fun x vs H Q=>∃ a z kvs i,x=.ref a/\vs=[.int i,z]/\H a=some (.dK kvs)/\Q ((valV kvs (Sum.inl i)).getD z) H
theorem Zq3 (hu:X.A.units + 1 < cLine):MtM X "dict.get" rGetI:=by
 intro pins s σ H x vs v us Q I rx rv h
 obtain ⟨a,z,kvs,i,rfl,rfl,hH,q⟩:=h
 cases rx
 obtain ⟨u1,u2,rfl,r1,ru⟩:=rv.two
 exact Zts hu I (DGet.k (k:=Sum.inl i) hH) r1 ru fun w' s3 I3 rw'=>⟨_,H,I3,rw',q⟩
end
section
variable {K:PySem.W.Frag} {Δ:Evt} {P:D->Evt->Prop}
theorem Zkd {G:Hp} {kvs:List (Key × V)} {kds:List (Key × D)} (pr:Paired (fun (p:Key × V) (q:Key × D)=>p.1=q.1/\Rep K G p.2 q.2) kvs kds) (k:Key) {z:V} {dz:D} (rz:Rep K G z dz):Rep K G ((valV kvs k).getD z) ((valD kds k).getD dz):=by
 cases h:valD kds k with
 | some d=>
  obtain ⟨u,z1,z2⟩:=Zio pr h
  rw [z1]; exact z2
 | none=>
  have:=Zem (K:=K) (k:=k) pr
  rw [h] at this
  rw [Option.isSome_eq_false_iff.mp this |> Option.isNone_iff_eq_none.mp]
  exact rz
theorem Zmi {n:Nat} {te:TE} {x:Slot} {kvs0:List (Key × D)} (hx:Δ[n]? = some x) (ho:x.od=some (.dct kvs0)) (h:JE K te Δ fun e Δ1=>∃ y kvs i,Δ1[n]? = some y/\y.od=some (.dct kvs)/\e=.int i/\P ((valD kvs (.inl i)).getD .non) Δ1) :
  JE K (tBM K "dict" rGetN (tVar n) (tCons te tNil)) Δ P:=fun g G H σ Q k c=>by
 obtain ⟨a,o,h1,h2,h3,h4,h5⟩:=k.own n x _ hx ho
 cases o with
 | dK vs0=>
  refine ⟨.ref a,h1,.inr (.inr (.inl ⟨rfl,.inl ⟨_,h2⟩⟩)),h g G H σ _ k fun v e G1 H1 Δ1 k1 s1 r1 ⟨y,kvs,i,q1,q2,q3,p⟩=>?_⟩
  subst q3
  cases r1.inv
  obtain ⟨a',o',w1,w2,w3,w4,w5⟩:=k1.own n y _ q1 q2
  rw [h1] at w1; cases w1
  cases o' with
  | dK vs=>exact ⟨a,vs,i,rfl,rfl,w2,c _ _ G1 H1 Δ1 k1 s1 (Zkd w3 (.inl i) .non) p⟩
  | _=>exact absurd w3 (fun z=>z)
 | _=>exact absurd h3 (fun z=>z)
theorem Zqa {n:Nat} {te tx:TE} {kds:List (Key × D)} (hx:Δ[n]? = some (.val (dctD kds))) (h:JE K te Δ fun e Δ1=>JE K tx Δ1 fun z Δ2=>∃ i,e=.int i/\P ((valD kds (.inl i)).getD z) Δ2) :
  JE K (tBM K "dict" rGetI (tVar n) (tCons te (tCons tx tNil))) Δ P:=fun g G H σ Q k c=>by
 obtain ⟨v0,w1,w2⟩:=k.val n _ hx
 obtain ⟨a,vs,rfl,ha,hl,rs⟩:=w2.inv
 refine ⟨.ref a,w1,.inr (.inr (.inl ⟨rfl,.inl ⟨_,k.live _ _ ha⟩⟩)),h g G H σ _ k fun v e G1 H1 Δ1 k1 s1 r1 p1=>p1 g G1 H1 σ _ k1 fun z dz G2 H2 Δ2 k2 s2 r2 ⟨i,q3,p⟩=>?_⟩
 subst q3
 cases r1.inv
 have ha2:=s2 _ _ (s1 _ _ ha)
 have pr:=Zfb hl ((rs.mono s1).mono s2)
 rw [Zff] at pr
 exact ⟨a,z,_,i,rfl,rfl,k2.live _ _ ha2,c _ _ G2 H2 Δ2 k2 (s1.trans s2) (Zkd pr (.inl i) r2) p⟩
theorem Zpo {neg:Bool} {kds:List (Key × D)} {i:Int} (p:P (.bl (if neg then !(valD kds (.inl i)).isSome else (valD kds (.inl i)).isSome)) Δ):JR2 K (rInU K neg) (.int i) (dctD kds) Δ P:=fun g G H σ Q x y k rx ry c=>by
 obtain ⟨a,vs,rfl,ha,hl,rs⟩:=ry.inv
 cases rx.inv
 have pr:=Zfb hl rs
 rw [Zff] at pr
 refine .inr (.inl ⟨a,_,rfl,DGet.k (k:=Sum.inl i) (k.live _ _ ha),?_⟩)
 rw [Zem (K:=K) (G:=G) pr]
 exact c _ _ G H Δ k (Same.refl _) (.bl _) p
theorem Zsp {te:TE} {i:Int} {Po:OD->Evt->Prop} (h:JE K te Δ fun d Δ1=>∃ j,d=.int j/\Po (.dct [(.inl j,.int i)]) Δ1):JO K (tDisp [(te,tC (.int i))]) Δ Po:=fun g G H σ Q k c p hp=>by
 obtain ⟨k2,pd⟩:=k.fresh (od:=.dct []) hp (show OwnRep K G (.dK []) (.dct []) from .nil)
 obtain ⟨o,p1,p2,p3,p4,p5,p6⟩:=pd
 have k3:Ok K ⟨g.B,g.F,g.Hz,fun b=>if b=p then some (.dK []) else g.Xo b⟩ G (upd H p (.dK [])) σ Δ:=⟨k2.same,k2.lent,k2.sub,k2.frz,fun b u e=>by
  have e:(if b=p then some (HO.dK []) else g.Xo b)=some u:=e
  by_cases hb:b=p
  ·rw [if_pos hb] at e; cases e; subst hb; exact ⟨Zat,p3,p6⟩
  ·rw [if_neg hb] at e; exact k2.ext b u e,k2.len,k2.val,k2.own,k2.dis⟩
 refine h _ G _ σ _ k3 fun v d G1 H1 Δ1 k4 s1 r1 ⟨j,e,q⟩=>?_
 subst e
 cases r1.inv
 obtain ⟨x1,x2,x3⟩:=k4.ext p (.dK []) (by show (if p=p then _ else _)=_; rw [if_pos rfl])
 have nz:∀ {b:Addr} {u:HO},G1 b=some u->b ≠ p:=fun {b u} e z=>by subst z; rw [x2] at e; cases e
 have k5:Ok K g G1 (upd H1 p (.dK [(.inl j,.int i)])) σ Δ1:=by
  refine ⟨fun b u hb e=>?_,fun b hb=>?_,k4.sub,fun b u e=>?_,fun b u e=>?_,k4.len,k4.val,fun a x od e1 e2=>?_,k4.dis⟩
  ·have:b ≠ p:=fun z=>by subst z; rw [p4] at e; cases e
   rw [Zao this]; exact k4.same b u hb e
  ·by_cases z:b=p
   ·subst z; rw [Zat]; exact fun y=>nomatch y
   ·rw [Zao z]; exact k4.lent b hb
  ·rw [Zao (nz e)]; exact k4.frz b u e
  ·have:b ≠ p:=fun z=>by subst z; rw [p5] at e; cases e
   rw [Zao this]
   exact k4.ext b u (by show (if b=p then _ else _)=_; rw [if_neg this]; exact e)
  ·obtain ⟨c1,o1,w1,w2,w3,w4,w5⟩:=k4.own a x od e1 e2
   have:c1 ≠ p:=fun z=>by subst z; exact x3 a x od e1 e2 w1
   exact ⟨c1,o1,w1,by rw [Zao this]; exact w2,w3,w4,w5⟩
 refine ⟨x1,[(.inl j,.int i)],rfl,by show 1<=15; decide,?_⟩
 exact c p _ G1 _ Δ1 k5 s1 ⟨_,Zat,show OwnRep K G1 (.dK [(.inl j,.int i)]) (.dct [(.inl j,.int i)]) from .cons ⟨rfl,.int i⟩ .nil,x2,p4,p5,x3⟩ q
theorem Zqv {j:Int} (p:P (.bl false) Δ):JR2 K rEq .non (.int j) Δ P:=fun g G H σ Q x y k rx ry c=>by
 cases rx.inv; cases ry.inv
 exact ⟨rfl,c _ _ G H Δ k (Same.refl _) (.bl _) p⟩
theorem Zoe (p:P (.bl false) Δ):JR2 K (fun x y H Q=>y=.non/\Q (.bl (!decide (x=.non))) H) .non .non Δ P:=fun g G H σ Q x y k rx ry c=>by
 cases rx.inv; cases ry.inv
 exact ⟨rfl,c _ _ G H Δ k (Same.refl _) (.bl _) p⟩
end
end L2
set_option Elab.async false
set_option linter.all false
set_option maxRecDepth 100000
namespace L2
open PySem PySem.Spec PyProof.Rows
section
abbrev zm1 (h:Heap) (a:Addr):Heap:=h.push ⟨.type "list_iterator",none,.fields #[.ref a,.int 0 0],#[]⟩
abbrev zm2 (h:Heap) (a c:Addr):Heap:=(zm1 h a).push ⟨.type "tuple_iterator",none,.fields #[.ref c,.int 0 0],#[]⟩
abbrev zm3 (h:Heap) (a c:Addr):Heap:=(zm2 h a c).push ⟨.type "tuple",none,.seq #[.ref h.objs.size,.ref (zm1 h a).objs.size],#[]⟩
abbrev zm4 (h:Heap) (a c:Addr):Heap:=(zm3 h a c).push ⟨.type "tuple",none,.seq #[.none,.none],#[]⟩
abbrev zm5 (h:Heap) (a c:Addr):Heap:=(zm4 h a c).push ⟨.type "zip",none,.fields #[.none,.bool false,.bool false,.ref (zm2 h a c).objs.size,.ref (zm3 h a c).objs.size],#[]⟩
theorem Zn2 (a c:Addr) (vs us:Array Value) :
  Meets (Builtin.«zip.__new__» ⟨[.type "zip",.ref a,.ref c],[]⟩) (fun _ R s=>s.heap.IsList a vs/\s.heap.IsTuple c us/\R (.ok (.ret (.ref (zm4 s.heap a c).objs.size))) { s with heap:=zm5 s.heap a c }):=.of_wp fun prog w A R s h=>by
 obtain ⟨hp,g,d,tk,os⟩:=s; obtain ⟨u1,u2,h⟩:=h
 have sub0:=sub_zip
 have v1:Heap.IsList (Shared.heap ⟨hp,g,d,tk,os⟩) a vs:=u1
 have v2:Heap.IsTuple (Shared.heap ⟨hp.push { cls:=.type "list_iterator",data:=.fields #[.ref a,.int 0 0] },g,d,tk,os⟩) c us:=Heap.IsTuple.push u2 _
 wp_walk using wpAny_pyIter_list v1,wpAny_pyIter_tuple v2
 exact ⟨_,rfl,h⟩
variable {prog:Program} {w:World} {A:Around} {E:Value->Shared->Prop} {s:Shared}
theorem Zqb {a c:Addr} {vs us:Array Value} {Q:Value->Shared->Prop} (l1:HsB false s.heap a vs) (l2:HsB true s.heap c us)
  (q:∀ h',IsZip h' (s.heap.objs.size + 4) (s.heap.objs.size + 2) (s.heap.objs.size + 3) .none->IsPair h' (s.heap.objs.size + 2) (.ref s.heap.objs.size) (.ref (s.heap.objs.size + 1))->IsPair h' (s.heap.objs.size + 3) .none .none →
   ItB false h' s.heap.objs.size a 0->ItB true h' (s.heap.objs.size + 1) c 0->(∀ d o,s.heap.get? d=some o->h'.get? d=some o)->Q (.ref (s.heap.objs.size + 4)) { s with heap:=h' }):wpAny (model prog w) A (call (.type "zip") [.ref a,.ref c]) Q E s:=by
 refine callType_new F.called_zip (by decide) (F.typeCall_zip_2 _ _) (F.newCall_zip_2 _ _) (fun obj=>F.args_object_init_3 obj _ _) F.entry_zip_new (Zn2 a c vs us) ⟨l1,l2,?_⟩
 have z1:(zm1 s.heap a).objs.size=s.heap.objs.size + 1:=Heap.size_push ..
 have z2:(zm2 s.heap a c).objs.size=s.heap.objs.size + 2:=by rw [Heap.size_push,z1]
 have z3:(zm3 s.heap a c).objs.size=s.heap.objs.size + 3:=by rw [Heap.size_push,z2]
 have z4:(zm4 s.heap a c).objs.size=s.heap.objs.size + 4:=by rw [Heap.size_push,z3]
 have p5:(zm5 s.heap a c).get? (zm4 s.heap a c).objs.size=some _:=Heap.get?_push_size _ rfl
 have p4:(zm5 s.heap a c).get? (zm3 s.heap a c).objs.size=some _:=Heap.get?_push_of_some _ (Heap.get?_push_size _ rfl)
 have p3:(zm5 s.heap a c).get? (zm2 s.heap a c).objs.size=some _:=Heap.get?_push_of_some _ (Heap.get?_push_of_some _ (Heap.get?_push_size _ rfl))
 have p2:(zm5 s.heap a c).get? (zm1 s.heap a).objs.size=some _:=Heap.get?_push_of_some _ (Heap.get?_push_of_some _ (Heap.get?_push_of_some _ (Heap.get?_push_size _ rfl)))
 have p1:(zm5 s.heap a c).get? s.heap.objs.size=some _:=Heap.get?_push_of_some _ (Heap.get?_push_of_some _ (Heap.get?_push_of_some _ (Heap.get?_push_of_some _ (Heap.get?_push_size _ rfl))))
 show _/\_
 rw [z2,z3,z4] at p5
 rw [z1,z2] at p3
 rw [z3] at p4
 rw [z1] at p2
 rw [z4]
 exact ⟨⟨_,p5,rfl⟩,q _ p5 p3 p4 ⟨_,p1,rfl,rfl⟩ ⟨_,p2,rfl,rfl⟩ fun d o e=>Heap.get?_push_of_some _ (Heap.get?_push_of_some _ (Heap.get?_push_of_some _ (Heap.get?_push_of_some _ (Heap.get?_push_of_some _ e))))⟩
end
def Izm (K:PySem.W.Frag) (l1 l2:Addr):It:=
 ⟨fun i H=>∃ xs ys x y,SqB false K H l1 xs/\SqB true K H l2 ys/\xs[i]? = some x/\ys[i]? = some y,
  fun i H v H'=>∃ p x y,H p=none/\v=.ref p/\H' = upd H p (.tup [x,y])/\∀ xs ys,SqB false K H l1 xs->SqB true K H l2 ys->xs[i]? = some x/\ys[i]? = some y,
  fun i H=>∃ xs ys,SqB false K H l1 xs/\SqB true K H l2 ys/\(xs.length<=i\/ys.length<=i)⟩
theorem Zq7 {P:Program} {w:World} {K:PySem.W.Frag} {es:List Expr} {kk:Nat} {tp:Pos} (l1 l2 z TI TO i1 i2:Addr) (D:ZipApart z TI TO i1 i2 l1 l2):Turn P w K (.Tuple es kk tp) (Izm K l1 l2) [z,TI,TO,i1,i2] z
  (fun i h=>IsZip h z TI TO .none/\IsPair h TI (.ref i1) (.ref i2)/\(∃ a b,IsPair h TO a b)/\ItB false h i1 l1 i/\ItB true h i2 l2 i) where
 mem:=by simp
 obj:=fun i h st b2 hb=>by
  obtain ⟨hz,hTI,⟨a,b',hTO⟩,h1,h2⟩:=st
  obtain ⟨o1,e1,d1⟩:=h1.obj
  obtain ⟨o2,e2,d2⟩:=h2.obj
  simp only [List.mem_cons,List.not_mem_nil,or_false] at hb
  rcases hb with rfl | rfl | rfl | rfl | rfl
  ·exact ⟨_,hz,fun v q=>by cases q⟩
  ·exact ⟨_,hTI,fun v q=>by cases q⟩
  ·exact ⟨_,hTO,fun v q=>by cases q⟩
  ·exact ⟨o1,e1,fun v q=>by rw [d1] at q; cases q⟩
  ·exact ⟨o2,e2,fun v q=>by rw [d2] at q; cases q⟩
 keep:=fun i h h' st k=>by
  obtain ⟨hz,hTI,⟨a,b',hTO⟩,h1,h2⟩:=st
  exact ⟨k z (by simp) _ hz,k TI (by simp) _ hTI,⟨a,b',k TO (by simp) _ hTO⟩,h1.at fun o e=>k i1 (by simp) o e,h2.at fun o e=>k i2 (by simp) o e⟩
 item:=by
  intro X hP hw hK hc i pins s σ H E I hf st hg
  subst hP hw hK
  obtain ⟨hz,hTI,⟨a,b',hTO⟩,h1,h2⟩:=st
  obtain ⟨xs,ys,x,y,hq1,hq2,hx,hy⟩:=hg
  obtain ⟨its1,r1,p1⟩:=I.seqB hq1
  obtain ⟨its2,r2,p2⟩:=I.seqB hq2
  obtain ⟨u1,hu1,ru1⟩:=r1.get hx
  obtain ⟨u2,hu2,ru2⟩:=r2.get hy
  refine Zpz D hz hTI hTO h1 h2 p1 p2 (x:=u1) (y:=u2) (by simpa using hu1) (by simpa using hu2) fun h' b1 b2 b3 b4 b5 b6 hk=>?_
  refine ⟨_,rfl,wpAny_letOwnedTupleGo_zip (s:={ s with heap:=h' }) b1 fun h'' hz'' hs''=>?_⟩
  have lt:∀ {c o},s.heap.get? c=some o->c ≠ s.heap.objs.size:=fun e=>Nat.ne_of_lt (Heap.lt_size e)
  have hTz:s.heap.objs.size ≠ z:=Ne.symm (lt hz)
  have hTfree:H s.heap.objs.size=none:=I.hok.fresh (Nat.le_refl _)
  have kept:∀ c o,c ∉ [z,TI,TO,i1,i2]->s.heap.get? c=some o->h''.get? c=some o:=fun c o hc e=>by
   simp only [List.mem_cons,List.not_mem_nil,or_false,not_or] at hc
   exact hs''.extBut _ _ hc.1 (hk c o hc.1 hc.2.2.1 hc.2.2.2.1 hc.2.2.2.2 e)
  have hT:h''.get? s.heap.objs.size=some { cls:=.type "tuple",data:=.seq #[u1,u2] }:=hs''.extBut _ _ hTz b5
  have ntr:∀ c o,H c=some o->c ∉ [z,TI,TO,i1,i2]:=fun c o e hc=>by rw [(hf c hc).1] at e; cases e
  have hok:HOk X.prog X.w (upd H s.heap.objs.size (.tup [x,y])) h'':=fun c o e=>by
   by_cases hcT:c=s.heap.objs.size
   ·subst hcT
    rw [Zat] at e
    cases e
    exact ⟨by show 2<=sizeLine; decide,[u1,u2],.cons ru1 (.cons ru2 .nil),_,hT,⟨rfl,_,rfl⟩,rfl⟩
   ·rw [Zao hcT] at e
    refine (I.hok c o e).stay (fun d v hd q=>kept d v ?_ q) (fun d q=>by rw [Zao (Zaq q hTfree)]; exact q) fun d zs q=>by rw [Zao (Zaq q hTfree)]; exact q
    rcases hd with hd | hd
    ·rw [hd]; exact ntr c o e
    ·exact ntr d _ hd
  have I2:Inv X pins σ (upd H s.heap.objs.size (.tup [x,y])) { s with heap:=h'' }:=by
   refine I.call (g':=s.gens) (t':=s.toks) (d':=s.drawn) (ch:=[z,TI,TO,i1,i2]) ⟨fun c o e n hc hx=>kept c o hx e,fun c o e n hc hx=>⟨o.slots,kept c o hx e⟩,fun c o e n hx=>by rw [Zao (lt e)]; exact n,fun c o e hx=>⟨o,kept c o hx e⟩,
    fun c zs q=>by rw [Zao (Zaq q hTfree)]; exact q,fun c o zs q=>by rw [Zao (Zaq q hTfree)]; exact q,fun c zs q=>⟨#[],by rw [Zao (Zaq q hTfree),q]; simp⟩⟩ hok I.bare fun c hcc=>?_
   obtain ⟨f0,f1,f2,f3,f4,f5⟩:=hf c hcc
   exact ⟨f3,f1,f4,f5⟩
  refine ⟨.ref s.heap.objs.size,_,I2,rfl,⟨s.heap.objs.size,x,y,hTfree,rfl,rfl,fun xs' ys' q1 q2=>?_⟩,⟨hz'',hs''.extBut _ _ D.TIz (hk _ _ D.TIz D.TITO D.TIi1 D.TIi2 hTI),⟨_,_,hs''.extBut _ _ D.TOz b2⟩,b3.off hs''.extBut D.i1z,b4.off hs''.extBut D.i2z⟩,fun c hcc=>?_⟩
  ·rw [I.seqB_inj q1 hq1,I.seqB_inj q2 hq2]; exact ⟨hx,hy⟩
  ·have hcl:c ≠ s.heap.objs.size:=by
    simp only [List.mem_cons,List.not_mem_nil,or_false] at hcc
    obtain ⟨_,e1,_⟩:=h1.obj
    obtain ⟨_,e2,_⟩:=h2.obj
    rcases hcc with rfl | rfl | rfl | rfl | rfl
    ·exact lt hz
    ·exact lt hTI
    ·exact lt hTO
    ·exact lt e1
    ·exact lt e2
   rw [Zao hcl]; exact (hf c hcc).1
 done:=by
  intro X hP hw hK hc i pins s σ H E I hf st hg
  subst hP hw hK
  obtain ⟨hz,hTI,⟨a,b',hTO⟩,h1,h2⟩:=st
  obtain ⟨xs,ys,hq1,hq2,hend⟩:=hg
  obtain ⟨its1,r1,p1⟩:=I.seqB hq1
  obtain ⟨its2,r2,p2⟩:=I.seqB hq2
  have l1':=r1.length
  have l2':=r2.length
  refine Ztl (I.ok.hd hc) D hz hTI hTO h1 h2 p1 p2 ?_ fun h' hk=>⟨rfl,?_⟩
  ·rcases hend with q | q
   ·left; simp; omega
   ·right; simp; omega
  ·have kept:∀ c o,c ∉ [z,TI,TO,i1,i2]->s.heap.get? c=some o->h'.get? c=some o:=fun c o hc e=>by
    simp only [List.mem_cons,List.not_mem_nil,or_false,not_or] at hc
    exact hk c o hc.1 hc.2.2.1 hc.2.2.2.1 hc.2.2.2.2 e
   have ntr:∀ c o,H c=some o->c ∉ [z,TI,TO,i1,i2]:=fun c o e hc=>by rw [(hf c hc).1] at e; cases e
   refine I.call (g':=s.gens) (t':=s.toks) (d':=s.drawn) (ch:=[z,TI,TO,i1,i2]) ⟨fun c o e n hc hx=>kept c o hx e,fun c o e n hc hx=>⟨o.slots,kept c o hx e⟩,fun c o e n hx=>n,fun c o e hx=>⟨o,kept c o hx e⟩,
    fun c zs q=>q,fun c o zs q=>q,fun c zs q=>⟨#[],by rw [q]; simp⟩⟩ (fun c o e=>?_) I.bare fun c hcc=>?_
   ·refine (I.hok c o e).stay (fun d v hd q=>kept d v ?_ q) (fun d q=>q) fun d zs q=>q
    rcases hd with hd | hd
    ·rw [hd]; exact ntr c o e
    ·exact ntr d _ hd
   ·obtain ⟨f0,f1,f2,f3,f4,f5⟩:=hf c hcc
    exact ⟨f3,f1,f4,f5⟩
 self:=fun _ _ _ _ _ st h=>wpAny_pyIter_zip st.1 h
section
variable {X:Cx}
def iZipM (K:PySem.W.Frag) (ta:TA):TI:=fun σ H R=>ta σ H fun vs H1=>∃ l1 l2,vs=[.ref l1,.ref l2]/\(∃ xs,SqB false K H1 l1 xs)/\(∃ ys,SqB true K H1 l2 ys)/\R (Izm K l1 l2) H1
theorem Zpy (K:PySem.W.Frag) {es:List Expr} {kk:Nat} {tp:Pos} {a b:Expr} {ta:TA} {p pos:Pos} (hg:Gl X "zip") (hm:X.mg "zip" = none) (ha:PA X [a,b] ta) (hs:starEach [a,b] X.env=[(false,eval a X.env),(false,eval b X.env)]:=by rfl) (hs2:starEach [b] X.env=[(false,eval b X.env)]:=by rfl) (hK:X.K=K:=by rfl) :
  PI X (.Tuple es kk tp) (.Call (.Name "zip" p) [a,b] [] pos) (iZipM K ta):=by
 subst hK
 intro pins s σ H R I h
 refine Call_ (Zd1 I hg hm (Zsv) (PyProof.Rows.callWith_type1 (thn (ha pos pins s σ H _ I h) fun us s1 ⟨vs,H1,I1,r1,q1⟩=>?_) (by rw [hs,hs2]) (by rw [hs2]; rfl)))
 obtain ⟨l1,l2,e,⟨xs,hx⟩,⟨ys,hy⟩,q⟩:=q1
 subst e
 obtain ⟨u1,u2,rfl,q1,q2⟩:=r1.two
 cases (show u1=Value.ref l1 from q1)
 cases (show u2=Value.ref l2 from q2)
 obtain ⟨its1,w1,p1⟩:=I1.seqB hx
 obtain ⟨its2,w2,p2⟩:=I1.seqB hy
 have lt1:l1 < s1.heap.objs.size:=p1.lt
 have lt2:l2 < s1.heap.objs.size:=p2.lt
 refine Zqb p1 p2 fun h' b1 b2 b3 b4 b5 hk=>?_
 refine wpAny_pyIter_zip b1 ?_
 have I2:Inv X pins σ H1 { s1 with heap:=h' }:=I1.kept (t':=s1.toks) hk
 refine ⟨s1.heap.objs.size + 4,[s1.heap.objs.size + 4,s1.heap.objs.size + 2,s1.heap.objs.size + 3,s1.heap.objs.size,s1.heap.objs.size + 1],_,_,H1,rfl,I2,Zq7 l1 l2 _ _ _ _ _ (zipApart_new lt1 lt2),⟨b1,b2,⟨_,_,b3⟩,b4,b5⟩,fun b hb=>?_,q⟩
 have hge:s1.heap.objs.size<=b:=by
  simp only [List.mem_cons,List.not_mem_nil,or_false] at hb
  rcases hb with rfl | rfl | rfl | rfl | rfl <;> omega
 exact I1.fpOk hge (I1.hok.fresh hge)
end
section
variable {K:PySem.W.Frag} {Δ:Evt}
theorem Zm7 {G:Hp} {l1 l2:Addr} {xs ys:List V} {ds es:List D} (h1:∀ G1 H1,Same G G1->Same G1 H1->SqB false K H1 l1 xs) (h2:∀ G1 H1,Same G G1->Same G1 H1->SqB true K H1 l2 ys) (r1:Reps K G xs ds) (r2:Reps K G ys es) (hl:ds.length=es.length) :
  ItOk K G (Izm K l1 l2) ((ds.zip es).map fun p=>D.tup [p.1,p.2]):=fun G1 H1 sg sh=>by
 have hl1:=r1.length
 have hl2:=r2.length
 have e1:=h1 G1 H1 sg sh
 have e2:=h2 G1 H1 sg sh
 refine ⟨⟨xs,ys,e1,e2,.inl (by rw [List.length_map,List.length_zip]; omega)⟩,fun i d hd=>?_⟩
 rw [List.getElem?_map] at hd
 cases q:(ds.zip es)[i]? with
 | none=>rw [q] at hd; cases hd
 | some pr=>
  rw [q] at hd
  have hd:D.tup [pr.1,pr.2]=d:=by simpa using hd
  subst hd
  rw [List.getElem?_zip_eq_some] at q
  obtain ⟨u,hu,ru⟩:=r1.get q.1
  obtain ⟨v,hv,rv⟩:=r2.get q.2
  refine ⟨⟨xs,ys,u,v,e1,e2,hu,hv⟩,fun x H2 ⟨p,a,b',hp,ex,eH,hab⟩=>?_⟩
  obtain ⟨ha,hb⟩:=hab xs ys e1 e2
  rw [hu] at ha; rw [hv] at hb
  cases ha; cases hb
  subst ex; subst eH
  have hG:G1 p=none:=by
   cases z:G1 p with
   | none=>rfl
   | some o=>rw [sh _ _ z] at hp; cases hp
  refine ⟨upd G1 p (.tup [u,v]),fun c o e=>by rw [Zao (Zaq e hG)]; exact e,fun c o e=>by rw [Zao (Zaq e hp)]; exact e,fun c o e=>?_,?_⟩
  ·by_cases hc:c=p
   ·subst hc; rw [Zat] at e ⊢; exact ⟨e,.inr hp⟩
   ·rw [Zao hc] at e ⊢; exact ⟨sh c o e,.inl e⟩
  ·have sg2:Same G1 (upd G1 p (.tup [u,v])):=fun c o e=>by rw [Zao (Zaq e hG)]; exact e
   exact .tup Zat (.cons ((ru.mono sg).mono sg2) (.cons ((rv.mono sg).mono sg2) .nil))
theorem Zrj {ta:TA} {P:List D->Evt->Prop} (h:JA K ta Δ fun ds Δ1=>∃ as bs,ds=[.lst as,.tup bs]/\as.length=bs.length/\P ((as.zip bs).map fun p=>D.tup [p.1,p.2]) Δ1):JI K (iZipM K ta) Δ P:=fun g G H σ R k c=>
 h g G H σ _ k fun vs ds G1 H1 Δ1 k1 s1 r1 hq_=>by
  obtain ⟨as,bs,e,hl,p1⟩:=hq_
  subst e
  obtain ⟨_,_,rfl,ra,rr⟩:=r1.inv
  next=>
   obtain ⟨_,_,rfl,rb,rr⟩:=rr.inv
   next=>
    cases rr.inv
    obtain ⟨_,_,rfl,ha,rsa⟩:=ra.inv
    next=>
     obtain ⟨_,_,rfl,hb,rsb⟩:=rb.inv
     next=>
      exact ⟨_,_,rfl,⟨_,SqL.of (k1.live _ _ ha)⟩,⟨_,SqT.of (k1.live _ _ hb)⟩,c _ _ G1 H1 Δ1 k1 s1 (Zm7 (fun _ _ sg sh=>SqL.of (sh _ _ (sg _ _ ha))) (fun _ _ sg sh=>SqT.of (sh _ _ (sg _ _ hb))) rsa rsb hl) p1⟩
end
section
variable {X:Cx}
theorem Zli {yk:Str} {elt tg iter:Expr} {ifs:List Expr} {scope:Scope} {pos spos py:Pos} {fvs:List Str} {sel:List Nat} {wi:TI} {g:TG} {tc:TT} {te:TE} {i:Nat} {y:Str} (tgs:List Str) (S:CompScK X.env.scope X.N yk scope fvs sel) (hc:X.calm=true)
  (hN:X.N.Nodup) (hiy:X.N[i]? = some y) (hx:Loc X.env.scope y)
  (hi:PI X tg iter wi) (hg:∀ C s H ex pn,PG (compCxK X yk scope (tgs ++ fvs) C s H ex pn) tg g) (ht:∀ C s H ex pn,PTs (compCxK X yk scope (tgs ++ fvs) C s H ex pn) ifs tc) (he:∀ C s H ex pn,PE (compCxK X yk scope (tgs ++ fvs) C s H ex pn) elt te)
  (hs:∀ x,foldedSetIterable iter X.env x=pure x:=by intro _; rfl) (hsw:swapsWith (.ListComp elt [⟨tg,iter,ifs,0⟩] scope pos) (some (.Name y py)) spos.line X.env=pure true:=by rfl)
  (hf:X.fn y=true\/X.env.scope.names.lookup y=some .local:=by first | exact .inl rfl | exact .inr rfl | assumption) :
  PS X (.Assign [.Name y py] (.ListComp elt [⟨tg,iter,ifs,0⟩] scope pos) spos) (tAsg (tComp tgs.length sel wi g tc te) (gName i)):=by
 intro pins s σ H D I h
 rw [exec_Assign_Name_used _ _ _ _ hsw]
 refine wpAny_bind (wpAny_standAt (wpAny_bind ?_))
 show wpAny _ X.A (do let _ ← comprehension (.ListComp elt [⟨tg,iter,ifs,0⟩] scope pos) scope X.env _ (newList []) false (eval iter X.env) (some (assign (.Name y py) X.env))) _ _ s
 refine wpAny_bind (wpAny_mono (wpAny_comprehension_free (use:=some (assign (.Name y py) X.env)) (Q:=fun _ s'=>SP X pins D .next s') rfl hs (Zcf (Zec S I.ok)) S.kind S.names
  (thn (hi pins s σ H _ I h) fun v s1 h1=>thn h1 fun itv s2 h2=>?_)) (fun _ s' hq=>wpAny_pure (wpAny_pure hq)) fun _ _ e=>e)
 refine Zgo S hc hg ht he (RR:=fun acc C=>compPost (model X.prog X.w) X.A X.xe (some (assign (.Name y py) X.env)) (fun _ s'=>SP X pins D .next s') acc C) (Q:=fun v H'=>D.nx (σ.set i (some v)) H') h2 ?_
 intro s' C acc H' m hn fp hI q
 have I0:Inv X pins σ H' s':=hI s'.heap (.refl ..)
 show wpAny _ X.A (assign (.Name y py) X.env (.ref acc)) _ _ _
 refine wpAny_assign_Name (Zgf (v:=.ref acc) I0 hN hiy hx rfl (fun s2 I2 hsb=>?_) hf)
 obtain ⟨a,sb,ha⟩:=hsb
 have hCa:C ≠ a:=by
  rcases ha with z | z
  ·rw [z]; exact fp.2.1
  ·exact Ne.symm (fp.2.2.2.2.1 y a z)
 refine ⟨m,hn.sameBut sb hCa,fun h' sb'=>?_⟩
 obtain ⟨f0,f1,f2,f3,f4,f5⟩:=fp
 exact ⟨_,H',I2.turned (t':=s2.toks) (it:=C) (fun b o hb e=>(sb'.2 b hb).trans e) f0 f1 f3 f4 f5,q⟩
end
end L2
set_option Elab.async false
set_option linter.all false
set_option maxRecDepth 100000
namespace L2
open PySem PySem.Spec PyProof.Rows
theorem strNewIn {prog:Program} {w:World} {v:Value} {S:PySem.Spec} (hs:∀ (A:Around) (R:Result->Shared->Prop) (s:Shared),S A R s->wpAny (model prog w) A.in1 (Builtin.Str.strOf v) (fun r s'=>R (.ok (.ret r)) s') (fun e s'=>R (.error e) s') s):MeetsIn prog w (Builtin.«str.__new__» ⟨[.type "str",v],[]⟩) S:=by
 refine MeetsIn.of_wp fun A R s h=>?_
 rw [str_new_tree v]
 refine wpAny_bind (wpAny_pure ?_)
 refine wpAny_bind (wpAny_of_eq isSubtype_str_str ?_)
 exact wpAny_bind (wpAny_mono (hs A R s h) (fun r s' h'=>wpAny_pure ⟨_,rfl,h'⟩) fun _ _ e=>e)
def rReprT (K:PySem.W.Frag):List V->Hp->VK->Prop:=fun xs H Q=>∃ (G:Hp) (a:Addr) (ds:List D),xs=[.ref a]/\Same G H/\Rep K G (.ref a) (.tup ds)/\(∀ x ∈ ds,x.shU)/\(D.pd (.tup ds)).depth<=20/\(D.pd (.tup ds)).shown.length<=sizeLine/\Q (.str (D.pd (.tup ds)).shown) H
section
variable {X:Cx}
theorem tupRepr {A:Around} {E:Value->Shared->Prop} {pins:List (Addr × Obj)} {σ:St} {H G:Hp} {s:Shared} {a:Addr} {ds:List D} {Q:Value->Shared->Prop} (I:Inv X pins σ H s) (sg:Same G H) (rep:Rep X.K G (.ref a) (.tup ds)) (sh:∀ x ∈ ds,x.shU) (dp:(D.pd (.tup ds)).depth<=20) (sz:(D.pd (.tup ds)).shown.length<=sizeLine) (hg:A.guards=some []) (hu:A.units + 28 < cLine)
  (q:∀ h' u tk,(∀ b o,s.heap.get? b=some o->h'.get? b=some o)->Q (.str (D.pd (.tup ds)).shown u) { s with heap:=h',toks:=tk }):s.TypeIs (.ref a) "tuple" /\ wpAny (model X.prog X.w) A (call (.builtin "tuple.__repr__") [.ref a]) Q E s:=by
 cases rep with
 | tup e rs=>
  obtain ⟨_,its,rv,o,ho,⟨hc,n,hd⟩,hdd⟩:=I.hok _ _ (sg _ _ e)
  have sz':(tupleText (PyData.shownAll (D.pds ds))).length<=sizeLine:=sz
  obtain ⟨⟨as,ra⟩,bs,hb,hk⟩:=Znh I.hok sg rs sh rv (fun t ht=>Nat.le_trans (tupleText_mem_le ht) sz')
  have dp':PyData.depthAll (D.pds ds) + 1<=20:=dp
  have r:Reads s.heap (.ref a) (.tuple (D.pds ds)) _:=.tuple ho hc hd ra
  have hna:a ∉ bs:=not_mem_of_deeper r (by show _ < PyData.depthAll (D.pds ds) + 1; omega) hb
  exact ⟨⟨o,ho,hc⟩,call_tuple_reprK ho hc hd hna hk (g:=[]) hg (fun b _=>Clear.nil b) (by omega) (fun _ _ e=>e) q sz'⟩
theorem strTK (K:PySem.W.Frag) (hg:X.A.guards=some []) (hu:X.A.units + 40 < cLine) (hK:X.K=K:=by rfl):CallR X (.type "str") (rReprT K):=by
 subst hK
 intro pins s σ H xs us Q I r h
 obtain ⟨G,a,ds,rfl,sg,rep,sh,dp,sz,q⟩:=h
 obtain ⟨u,rfl,ru⟩:=vals1 r
 cases (show u=Value.ref a from ru)
 have ty:s.TypeIs (.ref a) "tuple":=(tupRepr (A:=X.A) (E:=X.xe) (Q:=fun _ _=>True) I sg rep sh dp sz hg (by omega) fun _ _ _ _=>trivial).1
 refine callType_newIn (S:=fun A R s1=>wpAny (model X.prog X.w) A.in1 (Builtin.Str.strOf (.ref a)) (fun r s'=>R (.ok (.ret r)) s') (fun e s'=>R (.error e) s') s1) F.called_str (by decide) (F.typeCall_str_1 _) (F.newCall_str_1 _) (fun obj=>F.args_object_init_2 obj _) F.entry_str_new (strNewIn fun _ _ _ h=>h) ?_
 refine wpAny_strOf_slot rfl (by show X.A.units + 1 + 1 + 1 < cLine; omega) ty F.slot_tuple_str F.slot_tuple_repr ?_
 exact (tupRepr (A:=X.A.in1.in1.in1) I sg rep sh dp sz hg (by show X.A.units + 1 + 1 + 1 + 28 < cLine; omega) fun h' u tk hk=>⟨_,_,rfl,typeIs_str _ _ _,.str _,H,I.kept hk,⟨_,rfl⟩,q⟩).2
theorem strAK (K:PySem.W.Frag) (hg:X.A.guards=some []) (hu:X.A.units + 40 < cLine) (hK:X.K=K:=by rfl):CallR X (.type "str") (fun xs H Q=>rStrU xs H Q\/rReprT K xs H Q):=CallR.or strUK (strTK K hg hu hK)
end
theorem Zt0 {A:Around} {k:Nat} (hr:Room k A):A.units + 40 < cLine:=Nat.lt_of_le_of_lt (Nat.add_le_add_left (by decide:40<=64) _) hr.units
section
variable {K:PySem.W.Frag} {Δ:Evt} {P:D->Evt->Prop}
theorem Zqj {ds:List D} (z:∀ x ∈ ds,x.shU) (h2:(D.pd (.tup ds)).depth<=20) (h3:(D.pd (.tup ds)).shown.length<=sizeLine) (p:P (.str (D.pd (.tup ds)).shown) Δ):JC K (fun xs H Q=>rStrU xs H Q\/rReprT K xs H Q) [.tup ds] Δ P:=fun g G H σ Q vs k rs c=>by
 obtain ⟨_,_,rfl,r,t⟩:=rs.inv
 cases t.inv
 obtain ⟨a,us,rfl,ha,rr⟩:=r.inv
 exact .inr ⟨G,_,ds,rfl,k.live,.tup ha rr,z,h2,h3,c _ _ G H Δ k (Same.refl _) (.str _) p⟩
end
end L2
set_option Elab.async false
set_option linter.all false
set_option maxRecDepth 100000
namespace L2
open PySem PySem.Spec PyProof.Rows PySem.SeqAt
section
variable {X:Cx}
end
end L2
set_option Elab.async false
set_option linter.all false
set_option maxRecDepth 100000
namespace L2
open PySem PySem.Spec PyProof.Rows PySem.SeqAt
section
variable {K:PySem.W.Frag} {Δ:Evt}
def PVO (K:PySem.W.Frag) (tl:TO) (Δ:Evt) (o:Option Int):Prop:=∀ P:Option Int->Evt->Prop,P o Δ -> JO2 tl Δ K P
theorem Zcm:PVO K tNoPart Δ none:=fun P p=>Zfx p
theorem Zcb {te:TE} {i:Int} (h:PV K te Δ (.int i)):PVO K (tPart te) Δ (some i):=fun P p=>Zfw (h _ ⟨i,rfl,p⟩)
theorem Zfp {te:TE} {tl th:TO} {ds:List D} {lo hi:Option Int} (a:PV K te Δ (.tup ds)) (b:PVO K tl Δ lo) (c:PVO K th Δ hi):PV K (tSl (rSlU K) te tl th) Δ (.tup (cutD ds lo hi)):=fun P p=>Zl2 (a _ (b _ (c _ ⟨_,rfl,p⟩)))
theorem Zo6 {te:TE} {ds:List D} (a:PV K te Δ (.tup ds)):PV K (tSlR K te) Δ (.tup ds.reverse):=fun P p=>Zo3 (a _ ⟨_,rfl,p⟩)
theorem Zp9 {ds es:List D} (hz:ds.length + es.length<=sizeLine):PR2 K (rAddU K) (.tup ds) (.tup es) Δ (.tup (ds ++ es)):=fun P p=>Zih hz p
theorem Zlw {r:List V->Hp->VK->Prop} {ta:TA} {ds:List D} {d:D} (a:PVs K ta Δ ds) (h:∀ P:D->Evt->Prop,P d Δ -> JC K r ds Δ P):PV K (tCB r ta) Δ d:=fun P p=>Za4 (a _ (h P p))
theorem Zqf {ds:List D} {lo hi:Option Int} {x:D} (h:x ∈ cutD ds lo hi):x ∈ ds:=List.mem_of_mem_drop (List.mem_of_mem_take h)
theorem Zm5 (ds:List D) (lo hi:Option Int):(cutD ds lo hi).length<=ds.length:=by
 unfold cutD
 rw [List.length_take,List.length_drop]; omega
end
end L2
set_option Elab.async false
set_option linter.all false
set_option maxRecDepth 100000
namespace L2
open PySem PySem.Spec PyProof.Rows
def shD:Nat->D->Prop
 | 0,d=>d.shU
 | n + 1,d=>d.shU\/∃ ds,(d=.tup ds\/d=.lst ds)/\∀ x ∈ ds,shD n x
section
variable {P:Program} {w:World} {K:PySem.W.Frag} {G H:Hp} {h:Heap}
theorem Zfy {n:Nat} (it:∀ {v:V} {d:D} {u:Value},Rep K G v d->shD n d->RelV v u->d.pd.shown.length<=sizeLine->(∃ as,Reads h u d.pd as)/\∃ bs,ReadAtMost h d.pd.depth bs/\ReprK P w bs h d.pd.depth u d.pd.shown):∀ {vs:List V} {ds:List D} {us:List Value},Reps K G vs ds->(∀ x ∈ ds,shD n x)->Vals vs us->(∀ t ∈ PyData.shownAll (D.pds ds),t.length<=sizeLine) →
  (∃ as,ReadsAll h us (D.pds ds) as)/\∃ bs,ReadAtMost h (PyData.depthAll (D.pds ds)) bs/\ReprAllK P w bs h (PyData.depthAll (D.pds ds)) us (PyData.shownAll (D.pds ds))
 | _,_,_,.nil,_,r,_=>by cases r; exact ⟨⟨_,.nil⟩,[],(fun _ h=>nomatch h),.nil⟩
 | _,_,_,.cons (d:=d) (ds:=ds) a b,z,r,hz=>by
  cases r with
  | cons ra rb=>
   obtain ⟨⟨as,h1⟩,b1,hb1,k1⟩:=it a (z _ (List.mem_cons_self ..)) ra (hz _ (List.mem_cons_self ..))
   obtain ⟨⟨as2,h4⟩,b2,hb2,k2⟩:=Zfy it b (fun x hx=>z x (List.mem_cons_of_mem _ hx)) rb (fun t ht=>hz t (List.mem_cons_of_mem _ ht))
   refine ⟨⟨_,.cons h1 h4⟩,b1 ++ b2,fun b hm=>?_,.cons ((k1.more fun b hb=>List.mem_append_left _ hb).level_le (Nat.le_max_left _ _)) (k2.more_le (fun b hb=>List.mem_append_right _ hb) (Nat.le_max_right _ _))⟩
   rcases List.mem_append.mp hm with hm | hm
   ·obtain ⟨d',as',r',hd'⟩:=hb1 b hm
    exact ⟨d',as',r',Nat.le_trans hd' (Nat.le_max_left _ _)⟩
   ·obtain ⟨d',as',r',hd'⟩:=hb2 b hm
    exact ⟨d',as',r',Nat.le_trans hd' (Nat.le_max_right _ _)⟩
theorem Znl (ok:HOk P w H h) (sg:Same G H) {v:V} {d:D} {u:Value} (rep:Rep K G v d) (sh:d.shU) (ru:RelV v u) (sz:d.pd.shown.length<=sizeLine):(∃ as,Reads h u d.pd as)/\∃ bs,ReadAtMost h d.pd.depth bs/\ReprK P w bs h d.pd.depth u d.pd.shown:=by
 obtain ⟨as,h1,h2,h3⟩:=Zo2 ok sg rep sh ru
 exact ⟨⟨as,h1⟩,ReprK.of_reads (prog:=P) (w:=w) h1 h2 h3 sz⟩
theorem Zjq (ok:HOk P w H h) (sg:Same G H):∀ {n:Nat} {v:V} {d:D} {u:Value},Rep K G v d->shD n d->RelV v u->d.pd.shown.length<=sizeLine->(∃ as,Reads h u d.pd as)/\∃ bs,ReadAtMost h d.pd.depth bs/\ReprK P w bs h d.pd.depth u d.pd.shown
 | 0,_,_,_,rep,sh,ru,sz=>Znl ok sg rep sh ru sz
 | n + 1,v,d,u,rep,sh,ru,sz=>by
  rcases sh with z | ⟨ds,rfl | rfl,z⟩
  ·exact Znl ok sg rep z ru sz
  ·cases rep with
   | tup e rs=>
    rename_i a vs
    cases (show u=Value.ref a from ru)
    obtain ⟨_,its,rv,o,ho,⟨hc,k,hd⟩,hdd⟩:=ok _ _ (sg _ _ e)
    have sz':(tupleText (PyData.shownAll (D.pds ds))).length<=sizeLine:=sz
    obtain ⟨⟨as,ra⟩,bs,hb,hk⟩:=Zfy (n:=n) (fun r s q z=>Zjq ok sg r s q z) rs z rv (fun t ht=>Nat.le_trans (tupleText_mem_le ht) sz')
    have r:Reads h (.ref a) (.tuple (D.pds ds)) _:=.tuple ho hc hd ra
    have hna:a ∉ bs:=not_mem_of_deeper r (by show _ < PyData.depthAll (D.pds ds) + 1; omega) hb
    refine ⟨⟨_,r⟩,a :: bs,fun b hm=>?_,ReprK.tuple ho hc hd hna hk⟩
    rcases List.mem_cons.mp hm with rfl | hm
    ·exact ⟨_,_,r,Nat.le_refl _⟩
    ·obtain ⟨d',as',r',hd'⟩:=hb b hm
     exact ⟨d',as',r',Nat.le_succ_of_le hd'⟩
  ·cases rep with
   | lst e rs=>
    rename_i a vs
    cases (show u=Value.ref a from ru)
    obtain ⟨_,its,k,rv,ho⟩:=ok _ _ (sg _ _ e)
    have sz':(listText (PyData.shownAll (D.pds ds))).length<=sizeLine:=sz
    obtain ⟨⟨as,ra⟩,bs,hb,hk⟩:=Zfy (n:=n) (fun r s q z=>Zjq ok sg r s q z) rs z rv (fun t ht=>Nat.le_trans (listText_mem_le ht) sz')
    have r:Reads h (.ref a) (.list (D.pds ds)) _:=.list ho rfl rfl ra
    have hna:a ∉ bs:=not_mem_of_deeper r (by show _ < PyData.depthAll (D.pds ds) + 1; omega) hb
    have mm:ReadAtMost h (PyData.depthAll (D.pds ds) + 1) (a :: bs):=fun b hm=>by
     rcases List.mem_cons.mp hm with rfl | hm
     ·exact ⟨_,_,r,Nat.le_refl _⟩
     ·obtain ⟨d',as',r',hd'⟩:=hb b hm
      exact ⟨d',as',r',Nat.le_succ_of_le hd'⟩
    cases its with
    | nil=>cases rv; cases rs; exact ⟨⟨_,r⟩,a :: bs,mm,ReprK.listEmpty ho rfl rfl⟩
    | cons x l=>exact ⟨⟨_,r⟩,a :: bs,mm,ReprK.list ho rfl rfl hna (by simpa using hk.length_eq) (fun i y e=>hk.item i y (by simpa using e))⟩
end
def rReprLV (K:PySem.W.Frag):List V->Hp->VK->Prop:=fun xs H Q=>∃ (G:Hp) (a:Addr) (d:D) (ds:List D) (n:Nat),xs=[.ref a]/\Same G H/\Rep K G (.ref a) (.lst (d :: ds))/\(∀ x ∈ d :: ds,shD n x)/\(D.pd (.lst (d :: ds))).depth<=20/\(D.pd (.lst (d :: ds))).shown.length<=sizeLine/\Q (.str (D.pd (.lst (d :: ds))).shown) H
def rReprTV (K:PySem.W.Frag):List V->Hp->VK->Prop:=fun xs H Q=>∃ (G:Hp) (a:Addr) (ds:List D) (n:Nat),xs=[.ref a]/\Same G H/\Rep K G (.ref a) (.tup ds)/\(∀ x ∈ ds,shD n x)/\(D.pd (.tup ds)).depth<=20/\(D.pd (.tup ds)).shown.length<=sizeLine/\Q (.str (D.pd (.tup ds)).shown) H
section
variable {X:Cx}
theorem reprLVK (K:PySem.W.Frag) (hg:X.A.guards=some []) (hu:X.A.units + 30 < cLine) (hK:X.K=K:=by rfl):CallR X (.builtin "repr") (rReprLV K):=by
 subst hK
 intro pins s σ H xs us Q I r h
 obtain ⟨G,a,d,ds,n,rfl,sg,rep,sh,dp,sz,q⟩:=h
 obtain ⟨u,rfl,ru⟩:=vals1 r
 cases (show u=Value.ref a from ru)
 cases rep with
 | lst e rs=>
  obtain ⟨_,its,k,rv,ho⟩:=I.hok _ _ (sg _ _ e)
  have sz':(listText (PyData.shownAll (D.pds (d :: ds)))).length<=sizeLine:=sz
  obtain ⟨⟨as,ra⟩,bs,hb,hk⟩:=Zfy (n:=n) (fun r s q z=>Zjq I.hok sg r s q z) rs sh rv (fun t ht=>Nat.le_trans (listText_mem_le ht) sz')
  have dp':PyData.depthAll (D.pds (d :: ds)) + 1<=20:=dp
  cases its with
  | nil=>cases rv; cases rs
  | cons x l=>
   have r:Reads s.heap (.ref a) (.list (D.pds (d :: ds))) _:=.list ho rfl rfl ra
   have hna:a ∉ bs:=not_mem_of_deeper r (by show _ < PyData.depthAll (D.pds (d :: ds)) + 1; omega) hb
   refine call_repr_slot (by omega) ⟨_,ho,rfl⟩ F.slot_list_repr.toG ?_
   refine call_list_reprK ho rfl rfl hna (by simpa using hk.length_eq) (fun i y e=>hk.item i y (by simpa using e)) (g:=[]) hg (fun b _=>Clear.nil b) (by show X.A.units + 1 + _ < cLine; omega) (fun _ _ e=>e) (fun h' t tk hk2=>⟨_,_,rfl,.str _,H,I.kept hk2,⟨_,rfl⟩,q⟩) sz'
theorem reprTVK (K:PySem.W.Frag) (hg:X.A.guards=some []) (hu:X.A.units + 30 < cLine) (hK:X.K=K:=by rfl):CallR X (.builtin "repr") (rReprTV K):=by
 subst hK
 intro pins s σ H xs us Q I r h
 obtain ⟨G,a,ds,n,rfl,sg,rep,sh,dp,sz,q⟩:=h
 obtain ⟨u,rfl,ru⟩:=vals1 r
 cases (show u=Value.ref a from ru)
 cases rep with
 | tup e rs=>
  obtain ⟨_,its,rv,o,ho,⟨hc,k,hd⟩,hdd⟩:=I.hok _ _ (sg _ _ e)
  have sz':(tupleText (PyData.shownAll (D.pds ds))).length<=sizeLine:=sz
  obtain ⟨⟨as,ra⟩,bs,hb,hk⟩:=Zfy (n:=n) (fun r s q z=>Zjq I.hok sg r s q z) rs sh rv (fun t ht=>Nat.le_trans (tupleText_mem_le ht) sz')
  have dp':PyData.depthAll (D.pds ds) + 1<=20:=dp
  have r:Reads s.heap (.ref a) (.tuple (D.pds ds)) _:=.tuple ho hc hd ra
  have hna:a ∉ bs:=not_mem_of_deeper r (by show _ < PyData.depthAll (D.pds ds) + 1; omega) hb
  refine call_repr_slot (by omega) ⟨o,ho,hc⟩ F.slot_tuple_repr ?_
  exact call_tuple_reprK ho hc hd hna hk (g:=[]) hg (fun b _=>Clear.nil b) (by show X.A.units + 1 + _ < cLine; omega) (fun _ _ e=>e) (fun h' t tk hk2=>⟨_,_,rfl,.str _,H,I.kept hk2,⟨_,rfl⟩,q⟩) sz'
theorem reprVK (K:PySem.W.Frag) (hg:X.A.guards=some []) (hu:X.A.units + 30 < cLine) (hK:X.K=K:=by rfl):CallR X (.builtin "repr") (fun xs H Q=>rRepr K xs H Q\/rReprLV K xs H Q\/rReprTV K xs H Q):=CallR.or (reprK K hg hu hK) (CallR.or (reprLVK K hg hu hK) (reprTVK K hg hu hK))
end
section
variable {K:PySem.W.Frag} {Δ:Evt} {P:D->Evt->Prop}
structure RepV (d:D):Prop where
 kind:d.shT\/∃ n,(∃ e es,d=.lst (e :: es)/\∀ x ∈ e :: es,shD n x)\/∃ ds,d=.tup ds/\∀ x ∈ ds,shD n x
 deep:d.pd.depth<=20
 size:d.pd.shown.length<=sizeLine
theorem Zj9 {d:D} (h:RepV d) (p:P (.str d.pd.shown) Δ):JC K (fun xs H Q=>rRepr K xs H Q\/rReprLV K xs H Q\/rReprTV K xs H Q) [d] Δ P:=fun g G H σ Q vs k rs c=>by
 rcases h.kind with z | ⟨n,⟨e,es,rfl,z⟩ | ⟨ds,rfl,z⟩⟩
 ·exact .inl (Zqn z h.deep h.size p g G H σ Q vs k rs c)
 ·obtain ⟨_,_,rfl,r,t⟩:=rs.inv
  cases t.inv
  obtain ⟨a,us,rfl,ha,rr⟩:=r.inv
  exact .inr (.inl ⟨G,_,e,es,n,rfl,k.live,.lst ha rr,z,h.deep,h.size,c _ _ G H Δ k (Same.refl _) (.str _) p⟩)
 ·obtain ⟨_,_,rfl,r,t⟩:=rs.inv
  cases t.inv
  obtain ⟨a,us,rfl,ha,rr⟩:=r.inv
  exact .inr (.inr ⟨G,_,ds,n,rfl,k.live,.tup ha rr,z,h.deep,h.size,c _ _ G H Δ k (Same.refl _) (.str _) p⟩)
end
end L2
set_option Elab.async false
set_option linter.all false
set_option maxRecDepth 100000
set_option maxHeartbeats 4000000
namespace Lw
open PySem L2
def top (i:Nat):Stmt:=PySem.Challenge.pw_holefloor_k54_ring_papers_that_are_none.main.body.getD i (.Pass ⟨0,0,0,0⟩)
abbrev s_is_whole:Stmt:=top 5
abbrev s_are_wholes:Stmt:=top 6
abbrev s_parts_of:Stmt:=top 8
abbrev s_rank_of:Stmt:=top 9
abbrev s_refuse_parts:Stmt:=top 10
abbrev s_lacking:Stmt:=top 12
abbrev s_ring_bars:Stmt:=top 14
abbrev s_bars_of:Stmt:=top 15
abbrev s_is_ring_paper:Stmt:=top 16
abbrev s_are_heights:Stmt:=top 17
abbrev s_other_ties:Stmt:=top 18
abbrev s_ring_paper:Stmt:=top 19
abbrev s_steps_beside:Stmt:=top 20
abbrev s_law_pen:Stmt:=top 22
abbrev s_law_draw:Stmt:=top 23
abbrev s_law_web:Stmt:=top 24
abbrev s_law_one:Stmt:=top 25
abbrev s_law_whole:Stmt:=top 26
abbrev s_law_parts:Stmt:=top 27
abbrev s_law_heights:Stmt:=top 28
abbrev s_law_paper:Stmt:=top 29
abbrev s_law_bars:Stmt:=top 30
abbrev s_law_far:Stmt:=top 31
abbrev s_law_spoiled_row:Stmt:=top 32
abbrev s_law_bent:Stmt:=top 33
abbrev s_law:Stmt:=top 34
theorem sc_is_whole:FnScope ["thing"] ["thing"] (defScope s_is_whole):=⟨rfl,rfl,rfl,by decide +kernel,rfl,by decide +kernel,by decide +kernel⟩
theorem sc_are_wholes:FnScope ["thing"] ["thing"] (defScope s_are_wholes):=⟨rfl,rfl,rfl,by decide +kernel,rfl,by decide +kernel,by decide +kernel⟩
theorem sc_parts_of:FnScope ["web","many","ties","firsts","a","b","low","high"] ["web"] (defScope s_parts_of):=⟨rfl,rfl,rfl,by decide +kernel,rfl,by decide +kernel,by decide +kernel⟩
theorem sc_rank_of:FnScope ["web","many","ties"] ["web"] (defScope s_rank_of):=⟨rfl,rfl,rfl,by decide +kernel,rfl,by decide +kernel,by decide +kernel⟩
theorem sc_refuse_parts:FnScope ["web"] ["web"] (defScope s_refuse_parts):=⟨rfl,rfl,rfl,by decide +kernel,rfl,by decide +kernel,by decide +kernel⟩
theorem sc_lacking:FnScope ["web","faces_many","many","ties"] ["web","faces_many"] (defScope s_lacking):=⟨rfl,rfl,rfl,by decide +kernel,rfl,by decide +kernel,by decide +kernel⟩
theorem sc_ring_bars:FnScope ["web","paper"] ["web","paper"] (defScope s_ring_bars):=⟨rfl,rfl,rfl,by decide +kernel,rfl,by decide +kernel,by decide +kernel⟩
theorem sc_bars_of:FnScope ["web","shortest","faces_most"] ["web","shortest"] (defScope s_bars_of):=⟨rfl,rfl,rfl,by decide +kernel,rfl,by decide +kernel,by decide +kernel⟩
theorem sc_is_ring_paper:FnScope ["web","paper","shortest","heights"] ["web","paper"] (defScope s_is_ring_paper):=⟨rfl,rfl,rfl,by decide +kernel,rfl,by decide +kernel,by decide +kernel⟩
theorem sc_are_heights:FnScope ["web","tie","shortest","row","a","b"] ["web","tie","shortest","row"] (defScope s_are_heights):=⟨rfl,rfl,rfl,by decide +kernel,rfl,by decide +kernel,by decide +kernel⟩
theorem sc_other_ties:FnScope ["web","tie"] ["web","tie"] (defScope s_other_ties):=⟨rfl,rfl,rfl,by decide +kernel,rfl,by decide +kernel,by decide +kernel⟩
theorem sc_ring_paper:FnScope ["web","steps","shortest","top","heights"] ["web"] (defScope s_ring_paper):=⟨rfl,rfl,rfl,by decide +kernel,rfl,by decide +kernel,by decide +kernel⟩
theorem sc_steps_beside:FnScope ["web","tie","others","ways","steps","step","here","there"] ["web","tie"] (defScope s_steps_beside):=⟨rfl,rfl,rfl,by decide +kernel,rfl,by decide +kernel,by decide +kernel⟩
theorem sc_law_pen:FnScope ["_law_script"] ["_law_script"] (defScope s_law_pen):=⟨rfl,rfl,rfl,by decide +kernel,rfl,by decide +kernel,by decide +kernel⟩
theorem sc_law_draw:FnScope ["_law_pen_here","_law_many","_law_digit","_law_at","_law_cell","_law_number"] ["_law_pen_here","_law_many"] (defScope s_law_draw):=⟨rfl,rfl,rfl,by decide +kernel,rfl,by decide +kernel,by decide +kernel⟩
theorem sc_law_web:FnScope ["_law_pen_here","_law_places","_law_ties","_law_many","_law_way","_law_count","_law_found","_law_k","_law_a","_law_b"] ["_law_pen_here","_law_places","_law_ties"] (defScope s_law_web):=⟨rfl,rfl,rfl,by decide +kernel,rfl,by decide +kernel,by decide +kernel⟩
theorem sc_law_one:FnScope ["_law_pen_here","_law_places","_law_ties","_law_many","_law_more","_law_shape","_law_found","_law_k","_law_other","_law_a","_law_b"] ["_law_pen_here","_law_places","_law_ties"] (defScope s_law_one):=⟨rfl,rfl,rfl,by decide +kernel,rfl,by decide +kernel,by decide +kernel⟩
theorem sc_law_whole:FnScope ["_law_found"] ["_law_found"] (defScope s_law_whole):=⟨rfl,rfl,rfl,by decide +kernel,rfl,by decide +kernel,by decide +kernel⟩
theorem sc_law_parts:FnScope ["_law_web_here","_law_marks","_law_a","_law_b","_law_low","_law_high","_law_place","_law_found","_law_first"] ["_law_web_here"] (defScope s_law_parts):=⟨rfl,rfl,rfl,by decide +kernel,rfl,by decide +kernel,by decide +kernel⟩
theorem sc_law_heights:FnScope ["_law_web_here","_law_tie","_law_least","_law_heights_here","_law_a","_law_b","_law_other","_law_pair"] ["_law_web_here","_law_tie","_law_least","_law_heights_here"] (defScope s_law_heights):=⟨rfl,rfl,rfl,by decide +kernel,rfl,by decide +kernel,by decide +kernel⟩
theorem sc_law_paper:FnScope ["_law_web_here","_law_paper_here","_law_tie","_law_heights_here"] ["_law_web_here","_law_paper_here"] (defScope s_law_paper):=⟨rfl,rfl,rfl,by decide +kernel,rfl,by decide +kernel,by decide +kernel⟩
theorem sc_law_bars:FnScope ["_law_web_here","_law_least","_law_twice","_law_found"] ["_law_web_here","_law_least"] (defScope s_law_bars):=⟨rfl,rfl,rfl,by decide +kernel,rfl,by decide +kernel,by decide +kernel⟩
theorem sc_law_far:FnScope ["_law_web_here","_law_tie","_law_far_here","_law_others","_law_turn","_law_a","_law_b"] ["_law_web_here","_law_tie"] (defScope s_law_far):=⟨rfl,rfl,rfl,by decide +kernel,rfl,by decide +kernel,by decide +kernel⟩
theorem sc_law_spoiled_row:FnScope ["_law_pen_here","_law_row","_law_web_here","_law_at","_law_far_here","_law_things","_law_thing","_law_some"] ["_law_pen_here","_law_row","_law_web_here"] (defScope s_law_spoiled_row):=⟨rfl,rfl,rfl,by decide +kernel,rfl,by decide +kernel,by decide +kernel⟩
theorem sc_law_bent:FnScope ["_law_pen_here","_law_web_here","_law_paper_here","_law_least","_law_rows","_law_way","_law_numbers","_law_some","_law_flat","_law_at"] ["_law_pen_here","_law_web_here","_law_paper_here"] (defScope s_law_bent):=⟨rfl,rfl,rfl,by decide +kernel,rfl,by decide +kernel,by decide +kernel⟩
theorem sc_law:FnScope ["_law_script","_law_pen_here","_law_web_here","_law_papers","_law_k","_law_other","_law_place","_law_paper_here","_law_kept","_law_found"] ["_law_script"] (defScope s_law):=⟨rfl,rfl,rfl,by decide +kernel,rfl,by decide +kernel,by decide +kernel⟩
def Mb (mg:Str->Option Value):Prop:=∀ x ∈ ["abs","all","bool","enumerate","int","isinstance","len","list","max","min","range","repr","set","sorted","str","tuple","zip"],mg x=none
local macro_rules | `(tactic| walk_at "js")=>`(tactic| first
 | with_reducible refine Zau (t:=tAsg _ _) ?_
 | with_reducible refine Zau (t:=tPar _ _ _) ?_
 | with_reducible refine Zau (t:=tDrop _) ?_
 | with_reducible refine iteF ?_
 | with_reducible refine iteT ?_
 | with_reducible refine Za2 ?_
 | with_reducible refine Zav ?_
 | with_reducible refine Zb4 ?_
 | with_reducible refine Zgc ?_
 | with_reducible refine Za5 ?_
 | refine Zcz rfl rfl ?_
 | refine Zhb rfl rfl ?_
 | with_reducible refine Zaz ?_
 | with_reducible refine Ztj ?_
 | with_reducible refine Zay ?_
 | with_reducible refine Zcg ?_
 | with_reducible refine Zjn ?_
 | with_reducible refine Zcp ?_
 | with_reducible refine Za4 ?_
 | with_reducible refine Zbi ?_
 | refine Zdj rfl rfl ?_
 | refine Zmr rfl rfl ?_
 | with_reducible refine Zdf ?_
 | with_reducible refine Zbv ?_
 | with_reducible refine Zs3 ?_
 | with_reducible refine Zfs ?_
 | with_reducible refine Zl2 ?_
 | with_reducible refine Zo3 ?_
 | with_reducible refine Zno ?_
 | with_reducible refine Zfx ?_
 | with_reducible refine Zfw ?_
 | with_reducible refine Zah ?_
 | with_reducible refine Zab ?_
 | with_reducible refine Za0 ?_
 | with_reducible refine Zf0 ?_
 | with_reducible refine Ze0 ?_
 | with_reducible refine Zdv ?_
 | with_reducible refine Zdk ?_
 | with_reducible refine Zb7 ?_
 | with_reducible refine Zcc ?_
 | with_reducible refine Zkh ?_
 | with_reducible refine Zfa ?_
 | with_reducible refine Zdu ?_
 | with_reducible refine Zga ?_
 | with_reducible refine Zl5 ?_
 | with_reducible refine Zc2 ?_
 | with_reducible refine Zbd ?_
 | refine Zad rfl ?_
 | refine Zez rfl ?_
 | refine Zcd rfl ?_
 | refine Zbp (Or.inl rfl) ?_
 | refine Zbp (Or.inr rfl) ?_
 | refine Zc9 (Or.inl rfl) ?_
 | refine Zc9 (Or.inr rfl) ?_
 | refine Zjw (Or.inl rfl) ?_
 | refine Zjw (Or.inr rfl) ?_
 | refine Zer ?_
 | refine ⟨⟨_,_,rfl,rfl⟩,?_⟩
 | refine ⟨_,_,_,_,rfl,rfl,rfl,rfl,?_⟩
 | refine ⟨_,rfl,?_⟩
 | refine jr_I (by first | (show (0:Int) < _; omega) | exact ⟨by omega,by omega⟩ | exact Or.inl ⟨by omega,by omega⟩ | exact Or.inr ⟨by omega,by omega⟩ | exact ⟨by decide,by decide,by decide⟩) ?_)
local macro_rules | `(tactic| walk_at "draw")=>`(tactic| first | refine Zb6 rfl rfl (by assumption) (by omega) (by omega) fun _ _ _ _ _=>?_ | refine ⟨_,_,rfl,rfl,by assumption,_,rfl,by omega,by omega,fun _ _ _ _ _=>?_⟩)
def Pen (ps:List D):Prop:=∃ (cs:List Int) (at_ num:Int),ps=[.lst (cs.map .int),.int at_,.int num]/\0<=at_/\0<=num/\cs.length<=63
def fDraw:BSp:=fun ps ds Post=>Pen ps/\∃ m:Int,ds=[.int m]/\1<=m/\m<=100000000000000000000000000000000000000000000000000000000000/\∀ r ps',Pen ps' -> 0<=r->r < m->Post (.int r) ps'
abbrev LendQ (f:BSp) (i:Nat) (P:D->Evt->Prop):List D->Evt->Prop:=fun ds Δ1=>∃ y ps,Δ1[i]? = some y/\y.od=some (.lst ps)/\f ps ds fun d ps'=>P d (Δ1.set i (y.put (.lst ps')))
theorem Zdj {K:PySem.W.Frag} {Δ:Evt} {P:D->Evt->Prop} {f:BSp} {ta:TA} {E:XK} {i:Nat} {x:Slot} {od:OD} (hx:Δ[i]? = some x) (ho:x.od=some od) (h:JA K ta Δ (LendQ f i P)):JE K (tCall (spB K f) [] E (tCons (tVar i) ta)) Δ P:=Zmr hx ho h
theorem Zb6 {Δ1:Evt} {i:Nat} {y:Slot} {ps:List D} {m:Int} {P:D->Evt->Prop} (hx:Δ1[i]? = some y) (ho:y.od=some (.lst ps)) (hp:Pen ps) (h1:1<=m) (h2:m<=100000000000000000000000000000000000000000000000000000000000) (h:∀ r ps',Pen ps' -> 0<=r->r < m->P (.int r) (Δ1.set i (y.put (.lst ps')))) :
  LendQ fDraw i P [.int m] Δ1:=⟨y,ps,hx,ho,hp,m,rfl,h1,h2,h⟩
theorem Zeu {K:PySem.W.Frag} {Δ:Evt} {E:XK} {i:Nat} {y:Slot} {ps:List D} {m:Int} {P:D->Evt->Prop} (hx:Δ[i]? = some y) (ho:y.od=some (.lst ps)) (hp:Pen ps) (h1:1<=m) (h2:m<=100000000000000000000000000000000000000000000000000000000000) (h:∀ r ps',Pen ps' -> 0<=r->r < m->P (.int r) (Δ.set i (y.put (.lst ps')))) :
  JE K (tCall (spB K fDraw) [] E (tCons (tVar i) (tCons (tC (.int m)) tNil))) Δ P:=Zdj hx ho (Zab (Zay (Zah (Zb6 hx ho hp h1 h2 h))))
section
variable {P:Program} {w:World} {K:PySem.W.Frag} {mg:Str->Option Value} {base:Heap} {f:Addr} {fd:FuncData}
theorem Zqc (mb:Mb mg) (F:Fun K "_law_draw" "_law_draw" s_law_draw f fd):FnOk P w K mg base CX0 1 f fd ["_law_pen_here","_law_many"] (spB K fDraw):=by
 refine F.ok sc_law_draw (Zfu fun ps ds Post h=>by obtain ⟨_,m,rfl,_⟩:=h; rfl) (fun cdv A outer s H vs Q E hr h=>?_)
 have hu:=Zco hr
 refine ⟨_,(Zaf (Zb0 (Zar Znf (Zap (ixK K hu) (pv 0) Zae (fun _ _=>rfl)) Zae (nomark _)) (Zaf (Zax (i:=2) sc_law_draw.nd rfl (Or.inl rfl) (Zan Zcw (Zap (ixK K hu) (pv 0) Zae (fun _ _=>rfl)) (pv 1))) (Zaf (Zc0 (Zan Zhj (Zap (ixK K hu) (pv 0) Zae (fun _ _=>rfl)) (pv 1)) (Ze5 (pv 0) Zae (setU hu))) (Zak (Za9 (pv 2))))) Za8) (Zaf (Zax (i:=3) sc_law_draw.nd rfl (Or.inl rfl) (Zap (ixK K hu) (pv 0) Zae (fun _ _=>rfl))) (Zaf (Zc0 (Zan (addK K) (pv 3) Zae) (Ze5 (pv 0) Zae (setU hu))) (Zaf (Zax (i:=4) sc_law_draw.nd rfl (Or.inl rfl) Zae) (Zaf (Zb0 (Zar Znf (Zaj (lenK K) rfl (mb "len" (by decide)) Zbj (Zaa (Zap (ixK K hu) (pv 0) Zae (fun _ _=>rfl)) Zac)) Zae (nomark _)) (Zak (Zax (i:=4) sc_law_draw.nd rfl (Or.inl rfl) (Zap (ixK K hu) (Zap (ixK K hu) (pv 0) Zae (fun _ _=>rfl)) (Zan Zcw (pv 3) (Zaj (lenK K) rfl (mb "len" (by decide)) Zbj (Zaa (Zap (ixK K hu) (pv 0) Zae (fun _ _=>rfl)) Zac))) (fun _ _=>rfl)))) Za8) (Zaf (Zb0 (PW.pt (pw_and (Zar Zmm (pv 3) (Zaj (lenK K) rfl (mb "len" (by decide)) Zbj (Zaa (Zap (ixK K hu) (pv 0) Zae (fun _ _=>rfl)) Zac)) (nomark _)) (pw_and1 (Zar Zn0 (Zaj Zed rfl (mb "abs" (by decide)) Zif (Zaa (pv 4) Zac)) (Zan Zj7 Zae Zae) (nomark _))))) (Zaf (Zc0 (Zan Zhj (Zaj Zed rfl (mb "abs" (by decide)) Zif (Zaa (pv 4) Zac)) (pv 1)) (Ze5 (pv 0) Zae (setU hu))) (Zak (Za9 (Zan Zcw (Zaj Zed rfl (mb "abs" (by decide)) Zif (Zaa (pv 4) Zac)) (pv 1))))) Za8) (Zaf (Zax (i:=5) sc_law_draw.nd rfl (Or.inl rfl) (Zan Zcw (Zan Zd6 (Zan (addK K) (Zan (addK K) (Zan Zcw (pv 4) Zae) (Zan Zd6 Zae (pv 3))) Zae) Zae) Zae)) (Zaf (Zax (i:=5) sc_law_draw.nd rfl (Or.inl rfl) (Zan Zcw (Zan (addK K) (Zan (addK K) (Zan Zd6 (pv 5) (pv 5)) (Zan Zd6 Zae (pv 5))) (pv 3)) Zae)) (Zak (Za9 (Zan Zcw (Zan Zhj (Zan Zcw (Zan Zd6 (pv 5) Zae) Zae) Zae) (pv 1)))))))))))),Zk3 (fun ps ds Post hf=>?_) h⟩
 obtain ⟨⟨cs,at_,num,rfl,h1,h2,h3⟩,m,rfl,h4,h5,q⟩:=hf
 refine ⟨by simp,?_⟩
 dsimp only [cxOf,startD,List.tail,List.map,List.length,List.replicate]
 refine Zbb (fun Δ=>¬ 0 < num /\ Δ = [.bor (.lst [.lst (cs.map .int),.int at_,.int num]),.val (.int m),.any,.any,.any,.any]) ?_ ?_
 ·repeat walk_at "js"
  refine ite2 (fun c=>?_) (fun c=>?_)
  ·have c:=of_decide_eq_true c
   repeat walk_at "js"
   exact q _ _ ⟨cs,at_,num / m,rfl,h1,Int.ediv_nonneg h2 (by omega),h3⟩ (Int.emod_nonneg _ (by omega)) (Int.emod_lt_of_pos _ (by omega))
  ·repeat walk_at "js"
   exact ⟨of_decide_eq_false (Bool.eq_false_iff.mpr c),rfl⟩
 rintro Δ1 ⟨hn,rfl⟩
 repeat walk_at "js"
 refine Zbb (fun Δ=>∃ c:Int,Δ = [.bor (.lst [.lst (cs.map .int),.int (at_ + 1),.int num]),.val (.int m),.any,.val (.int at_),.val (.int c),.any]) ?_ ?_
 ·repeat walk_at "js"
  refine ite2 (fun c=>?_) (fun c=>?_)
  ·have c:=of_decide_eq_true c
   rw [List.length_map] at c
   repeat walk_at "js"
   rw [List.length_map]
   repeat walk_at "js"
   obtain ⟨cell,_,hc⟩:=Ziy (f:=D.int) (xs:=cs) (i:=at_ % (cs.length:Int)) (Int.emod_nonneg _ (by omega)) (Int.emod_lt_of_pos _ (by omega))
   refine Zcd hc ?_
   exact ⟨cell,rfl⟩
  ·repeat walk_at "js"
   exact ⟨11,rfl⟩
 rintro Δ1 ⟨cell,rfl⟩
 refine Zbb (fun Δ=>Δ = [.bor (.lst [.lst (cs.map .int),.int (at_ + 1),.int num]),.val (.int m),.any,.val (.int at_),.val (.int cell),.any]) ?_ ?_
 ·repeat walk_at "js"
  refine ite2 (fun c=>?_) (fun c=>?_)
  ·repeat walk_at "js"
   refine ite2 (fun c=>?_) (fun c=>?_)
   ·repeat walk_at "js"
    have ha:0<=(if cell < 0 then -cell else cell):=by split <;> omega
    exact q _ _ ⟨cs,at_ + 1,_,rfl,by omega,Int.ediv_nonneg ha (by omega),h3⟩ (Int.emod_nonneg _ (by omega)) (Int.emod_lt_of_pos _ (by omega))
   ·repeat walk_at "js"
    rfl
  ·repeat walk_at "js"
   rfl
 rintro Δ1 rfl
 repeat walk_at "js"
 exact q _ _ ⟨cs,at_ + 1,num,rfl,by omega,h2,h3⟩ (Int.emod_nonneg _ (by omega)) (Int.emod_lt_of_pos _ (by omega))
end
def fPen:NSp:=fun ds Post=>∃ ns:List Int,ds=[.scr (ns.map .int)]/\ns.length<=63/\∀ ps,Pen ps->Post ps
section
variable {P:Program} {w:World} {K:PySem.W.Frag} {mg:Str->Option Value} {base:Heap} {f:Addr} {fd:FuncData}
theorem Zrr (mb:Mb mg) (F:Fun K "_law_pen" "_law_pen" s_law_pen f fd):FnOk P w K mg base CX0 1 f fd ["_law_script"] (spN K fPen):=by
 refine F.ok sc_law_pen (Zis fun ds Post h=>by obtain ⟨ns,rfl,_⟩:=h; rfl) (fun cdv A outer s H vs Q E hr h=>?_)
 have hu:=Zco hr
 refine ⟨_,(Zak (Za9 (Zb5 (Zaa (Zbn ["_law_cell"] (show CompSc (defScope s_law_pen) ["_law_script"] _ [] [] from ⟨rfl,by decide +kernel,by decide +kernel,by decide +kernel,rfl,by decide +kernel⟩) rfl (seqK K (Zbs (slK K) (pv 0) Zci (Zby Zae))) (fun _ _ _ _ _=>(Zam (i:=0) (show List.Nodup (["_law_cell"]:List Str) from by decide) rfl (Or.inl rfl))) (fun _ _ _ _ _=>Zb8) (fun _ _ _ _ _=>(pv 0))) (Zaa Zae (Zaa Zae Zac)))))),Zp2 (fun ds Post hf=>?_) h⟩
 obtain ⟨ns,rfl,h1,q⟩:=hf
 refine ⟨by simp,?_⟩
 dsimp only [cxOf,startD,List.tail,List.map,List.length,List.replicate]
 refine Zg1 (Zhx (Zab (Zce (by decide) (Zeq ?_))))
 repeat walk_at "js"
 have e:cutD (ns.map D.int) none (some 63)=ns.map D.int:=by
  unfold cutD
  have e1:HT.sIx (ns.map D.int).length 0 none=0:=rfl
  have e2:HT.sIx (ns.map D.int).length (ns.map D.int).length (some 63)=ns.length:=by
   rw [List.length_map]; show min (Int.toNat 63) ns.length=_; omega
  rw [e1,e2,List.drop_zero,Nat.sub_zero,List.take_of_length_le (by simp)]
 rw [e]
 refine ⟨_,Or.inl rfl,by rw [List.length_map]; exact Nat.lt_of_le_of_lt h1 (by decide),fun _=>true,fun d=>d,fun i d hd=>?_,?_⟩
 ·repeat walk_at "js"
  exact ⟨rfl,Zad rfl ⟨rfl,_,rfl⟩⟩
 ·repeat walk_at "js"
  refine ⟨by show 3<=sizeLine; decide,_,rfl,q _ ⟨ns,0,0,?_,by decide,by decide,h1⟩⟩
  simp
end
def encTie (t:Int × Int):D:=.tup [.int t.1,.int t.2]
def encWeb (n:Int) (ts:List (Int × Int)):D:=.tup [.int n,.tup (ts.map encTie)]
structure WebOk (n:Int) (ts:List (Int × Int)):Prop where
 lo:1<=n
 hi:n<=25
 len:ts.length<=24
 tie:∀ t ∈ ts,0<=t.1/\t.1 < n/\0<=t.2/\t.2 < n
def fWeb:BSp:=fun ps ds Post=>Pen ps/\∃ a b:Int,ds=[.int a,.int b]/\1<=a/\a<=25/\0<=b/\b<=24/\∀ n ts ps',Pen ps' -> WebOk n ts->n<=a->(ts.length:Int)<=b->Post (encWeb n ts) ps'
theorem Ztc {Δ1:Evt} {i:Nat} {y:Slot} {ps:List D} {a b:Int} {P:D->Evt->Prop} (hx:Δ1[i]? = some y) (ho:y.od=some (.lst ps)) (hp:Pen ps) (h1:1<=a) (h2:a<=25) (h3:0<=b) (h4:b<=24) (h:∀ n ts ps',Pen ps' -> WebOk n ts->n<=a->(ts.length:Int)<=b->P (encWeb n ts) (Δ1.set i (y.put (.lst ps')))) :
  LendQ fWeb i P [.int a,.int b] Δ1:=⟨y,ps,hx,ho,hp,a,b,rfl,h1,h2,h3,h4,h⟩
theorem Zlh:2<=sizeLine:=by decide
theorem Ze7 {K:PySem.W.Frag} {Δ:Evt} {i:Nat} {v c:Int} {P:Bool->Evt->Prop} (hx:Δ[i]? = some (.val (.int v))) (h1:v=c->P true Δ) (h2:¬ v=c->P false Δ):JT K (tTest (tOp rEq (tVar i) (tC (.int c)))) Δ P:=
 Za0 (Zaz (Zad hx (Zay (Zdu ⟨_,rfl,by
  by_cases h:v=c
  ·rw [decide_eq_true h]; exact h1 h
  ·rw [decide_eq_false h]; exact h2 h⟩))))
def wSt (py:List D) (a b n way k:Int) (fs:List D) (i u v:Int):Evt:=[.bor (.lst py),.val (.int a),.val (.int b),.val (.int n),.val (.int way),.val (.int k),.own (.lst fs),.val (.int i),.val (.int u),.val (.int v)]
def wQ (py:List D) (a b n way k:Int) (fs:List D) (i:Int):Evt->Prop:=fun Δ=>∃ u v:Int,0<=u/\u < n/\0<=v/\v < n /\ Δ = wSt py a b n way k fs i u v
def wR (py:List D) (a b n way k:Int) (fs:List D) (i:Int):Evt->Prop:=fun Δ=>∃ u v:Int,0<=u/\u < n/\0<=v /\ Δ = wSt py a b n way k fs i u v
def wL (a b n way k:Int) (i:Nat):Evt->Prop:=fun Δ=>∃ (ps:List D) (ts:List (Int × Int)) (x7 x8 x9:Slot),Pen ps/\ts.length=i/\(∀ t ∈ ts,0<=t.1/\t.1 < n/\0<=t.2/\t.2 < n) /\ Δ = [.bor (.lst ps),.val (.int a),.val (.int b),.val (.int n),.val (.int way),.val (.int k),.own (.lst (ts.map encTie)),x7,x8,x9]
section
variable {P:Program} {w:World} {K:PySem.W.Frag} {mg:Str->Option Value} {base:Heap} {f:Addr} {fd:FuncData}
theorem Zsl (mb:Mb mg) (C__law_draw:Callee P w K mg base 1 "_law_draw" ["_law_pen_here","_law_many"] (spB K fDraw)) (F:Fun K "_law_web" "_law_web" s_law_web f fd):FnOk P w K mg base CX0 2 f fd ["_law_pen_here","_law_places","_law_ties"] (spB K fWeb):=by
 refine F.ok sc_law_web (Zfu fun ps ds Post h=>by obtain ⟨_,a,b,rfl,_⟩:=h; rfl) (fun cdv A outer s H vs Q E hr h=>?_)
 have hu:=Zco hr
 refine ⟨_,(Zaf (Zax (i:=3) sc_law_web.nd rfl (Or.inl rfl) (Zan (addK K) Zae (Zbc C__law_draw (hr.mono (by decide)) (Zaa (pv 0) (Zaa (pv 1) Zac))))) (Zaf (Zax (i:=4) sc_law_web.nd rfl (Or.inl rfl) (Zbc C__law_draw (hr.mono (by decide)) (Zaa (pv 0) (Zaa Zae Zac)))) (Zaf (Zax (i:=5) sc_law_web.nd rfl (Or.inl rfl) (Zbc C__law_draw (hr.mono (by decide)) (Zaa (pv 0) (Zaa (Zan (addK K) (pv 2) Zae) Zac)))) (Zaf (Zb0 (Zar Zbx (pv 4) Zae (nomark _)) (Zaf (Zax (i:=3) sc_law_web.nd rfl (Or.inl rfl) (pv 1)) (Zak (Zax (i:=5) sc_law_web.nd rfl (Or.inl rfl) (pv 2)))) Za8) (Zaf (Zax (i:=6) sc_law_web.nd rfl (Or.inl rfl) (Zb5 Zac)) (Zaf (Zcq PassesOwn.never rfl (Zbz rfl (mb "range" (by decide)) (Zaa (pv 5) Zac)) (Zam (i:=7) sc_law_web.nd rfl (Or.inl rfl)) (Zaf (Zka (i:=8) (j:=9) rfl sc_law_web.nd rfl rfl (by decide) rfl rfl (Zaa (Zbc C__law_draw (hr.mono (by decide)) (Zaa (pv 0) (Zaa (pv 3) Zac))) (Zaa (Zbc C__law_draw (hr.mono (by decide)) (Zaa (pv 0) (Zaa (pv 3) Zac))) Zac)) rfl) (Zaf (Zb0 (Zar Zbx (pv 4) Zae (nomark _)) (Zak (Zka (i:=8) (j:=9) rfl sc_law_web.nd rfl rfl (by decide) rfl rfl (Zaa (Zan Zcw (pv 7) (pv 3)) (Zaa (Zan Zcw (Zan (addK K) (pv 7) Zae) (pv 3)) Zac)) rfl)) Za8) (Zaf (Zb0 (Zar Zbx (pv 4) Zae (nomark _)) (Zak (Zax (i:=8) sc_law_web.nd rfl (Or.inl rfl) Zae)) Za8) (Zaf (Zb0 (Zar Zbx (pv 4) Zae (nomark _)) (Zak (Zax (i:=9) sc_law_web.nd rfl (Or.inl rfl) (Zan (addK K) (Zan Zcw (pv 8) Zae) (Zan Zd6 (Zan Zf5 (pv 9) Zae) Zae)))) Za8) (Zaf (Zb0 (PW.pt (pw_and (Zar Zbx (pv 4) Zae (nomark _)) (pw_and1 (Zar Zbx (Zan Zcw (pv 9) Zae) Zae (nomark _))))) (Zak (Zax (i:=9) sc_law_web.nd rfl (Or.inl rfl) (pv 8))) Za8) (Zak (Zd8 (bmK K PySem.F.plainAttrs_list PySem.F.slot_list_append PySem.F.type_list_append Zdb (pv 6) (Zaa (Zbl (Zaa (pv 8) (Zaa (Zaj (Zde rfl) rfl (mb "min" (by decide)) Zf7 (Zaa (pv 9) (Zaa (Zan Zbw (pv 3) Zae) Zac))) Zac))) Zac)))))))))) (Zak (Za9 (Zbl (Zaa (pv 3) (Zaa (Zbg (tupK K) rfl (mb "tuple" (by decide)) Zbk (Zaa (pv 6) Zac)) Zac))))))))))),Zk3 (fun ps ds Post hf=>?_) h⟩
 obtain ⟨hp,a,b,rfl,h1,h2,h3,h4,q⟩:=hf
 refine ⟨by simp,?_⟩
 dsimp only [cxOf,startD,List.tail,List.map,List.length,List.replicate]
 refine Zau (Za5 (Zaz (Zay (Zdj rfl rfl (Zab (Zad rfl (Zah (Zb6 (m:=a) rfl rfl hp h1 (Int.le_trans h2 (by decide)) fun r0 ps0 hp0 hr0 hs0=>Zcc ?_))))))))
 refine Zau (Za5 (Zeu rfl rfl hp0 (by decide) (by decide) fun way ps1 hp1 hw0 hw1=>?_))
 refine Zau (Za5 (Zdj rfl rfl (Zab (Za1 (Za7 (Zag rfl) Zal Zbt) (Zah (Zb6 (m:=b + 1) rfl rfl hp1 (Int.add_le_add h3 (Int.le_refl 1)) (Int.le_trans (Int.add_le_add h4 (Int.le_refl 1)) (by decide)) fun cnt ps2 hp2 hc0 hc1=>?_))))))
 refine Zbb (fun Δ=>∃ n k:Int,1<=n/\n<=a/\0<=k/\k<=b /\ Δ = [.bor (.lst ps2),.val (.int a),.val (.int b),.val (.int n),.val (.int way),.val (.int k),.any,.any,.any,.any]) ?_ ?_
 ·refine Zb4 (Ze7 rfl (fun c=>iteT ?_) (fun c=>iteF (Za2 ⟨1 + r0,cnt,Int.le_add_of_nonneg_right hr0,by omega,hc0,Int.le_of_lt_add_one hc1,rfl⟩)))
  exact Zau (Za5 (Zad rfl (Za5 (Zad rfl ⟨a,b,h1,Int.le_refl _,h3,Int.le_refl _,rfl⟩))))
 rintro Δ1 ⟨n,k,hn0,hn1,hk0,hk1,rfl⟩
 have hn2:0 < n:=Int.lt_of_lt_of_le (by decide) hn0
 have hn3:n ≠ 0:=Int.ne_of_gt hn2
 refine Zau (Zdn (Zhx (Zah ⟨by decide,?_⟩)))
 refine Zbb (wL a b n way k k.toNat) ?_ ?_
 ·refine Zcr (Zb1 (Zab (Zad rfl (Zah ⟨_,rfl,by omega,by omega,?_⟩))))
  refine ⟨wL a b n way k,⟨ps2,[],.any,.any,.any,hp2,rfl,fun _ h=>(nomatch h),rfl⟩,?_,fun Δ2 h=>by rw [Zbm] at h; exact h⟩
  rintro i d Δ2 hd ⟨ps,ts,x7,x8,x9,hp',hl,ht,rfl⟩
  obtain ⟨hi,rfl⟩:=Zb3 hd
  generalize (0 + (i:Int))=I
  refine Zbd (Zau (Zgc (Zab (Zdj rfl rfl (Zab (Zad rfl (Zah (Zb6 (m:=n) rfl rfl hp' hn0 (by omega) fun x px hpx hx0 hx1=>?_))))))))
  refine Zab (Zdj rfl rfl (Zab (Zad rfl (Zah (Zb6 (m:=n) rfl rfl hpx hn0 (by omega) fun y py hpy hy0 hy1=>Zah ⟨_,_,rfl,?_⟩)))))
  refine Zbb (wQ py a b n way k (ts.map encTie) I) ?_ ?_
  ·refine Zb4 (Ze7 rfl (fun c=>iteT ?_) (fun c=>iteF (Za2 ⟨x,y,hx0,hx1,hy0,hy1,rfl⟩)))
   exact Zgc (Zsu (Zai (Za7 (Zag rfl) (Zag rfl) (pr_I hn2)) (Zai (Za7 (Za7 (Zag rfl) Zal Zbt) (Zag rfl) (pr_I hn2)) Za3)) ⟨_,_,rfl,_,_,Int.emod_nonneg _ hn3,Int.emod_lt_of_pos _ hn2,Int.emod_nonneg _ hn3,Int.emod_lt_of_pos _ hn2,rfl⟩)
  rintro Δ3 ⟨u,v,hu0,hu1,hv0,hv1,rfl⟩
  refine Zbb (wQ py a b n way k (ts.map encTie) I) ?_ ?_
  ·exact Zb4 (Ze7 rfl (fun c=>iteT (Za5 (Zay ⟨0,v,Int.le_refl _,hn2,hv0,hv1,rfl⟩))) (fun c=>iteF (Za2 ⟨u,v,hu0,hu1,hv0,hv1,rfl⟩)))
  rintro Δ3 ⟨u,v,hu0,hu1,hv0,hv1,rfl⟩
  refine Zbb (wR py a b n way k (ts.map encTie) I) ?_ ?_
  ·refine Zb4 (Ze7 rfl (fun c=>iteT ?_) (fun c=>iteF (Za2 ⟨u,v,hu0,hu1,hv0,rfl⟩)))
   exact Za5 (Za1 (Za7 (Za7 (Zag rfl) Zal (pr_I (show (0:Int) < 2 by decide))) (Za7 (Za7 (Zag rfl) Zal (pr_I ⟨by decide,by decide⟩)) Zal (pr_I (Or.inr ⟨by decide,by decide⟩))) Zbt) ⟨u,_,hu0,hu1,by omega,rfl⟩)
  rintro Δ3 ⟨u,v,hu0,hu1,hv0,rfl⟩
  refine Zbb (wR py a b n way k (ts.map encTie) I) ?_ ?_
  ·refine Zb4 (Zf0 (Ze7 rfl (fun c=>iteT ?_) (fun c=>iteF (iteF (Za2 ⟨u,v,hu0,hu1,hv0,rfl⟩)))))
   refine Za0 (Zaz (Za1 (Za7 (Zag rfl) Zal (pr_I (show (0:Int) < 2 by decide))) (Zay (Zdu ⟨_,rfl,ite2 (fun c=>?_) (fun c=>Za2 ⟨u,v,hu0,hu1,hv0,rfl⟩)⟩))))
   exact Za5 (Zad rfl ⟨u,u,hu0,hu1,hu0,rfl⟩)
  rintro Δ3 ⟨u,v,hu0,hu1,hv0,rfl⟩
  refine Zi9 rfl rfl (Zdf (Zab (Zad rfl (Zab (Za4 (Zab (Zad rfl (Zab (Za1 (Za7 (Zag rfl) Zal Zc4) (Zah (Zc2 (Zah ?_))))))))))))
  refine ⟨Zlh,_,_,rfl,rfl,?_,py,ts ++ [(u,if n - 1 < v then n - 1 else v)],.val (.int I),.val (.int u),.val (.int v),hpy,by rw [List.length_append,hl]; rfl,fun t h=>?_,?_⟩
  ·rw [List.length_map]; exact small1000 (by omega)
  ·rcases List.mem_append.mp h with h | h
   ·exact ht t h
   ·rw [List.mem_singleton.mp h]
    refine ⟨hu0,hu1,?_,?_⟩
    ·show 0<=(if n - 1 < v then n - 1 else v); split <;> omega
    ·show (if n - 1 < v then n - 1 else v) < n; split <;> omega
  ·rw [List.map_append]; rfl
 rintro Δ1 ⟨ps3,ts,x7,x8,x9,hp3,hl,ht,rfl⟩
 refine Zav (Zdf (Zab (Zad rfl (Zab (Za4 (Zab (Zf1 rfl (Zah (Zc9 (Or.inl rfl) (Zah ⟨Zlh,?_⟩))))))))))
 exact ⟨_,rfl,q n ts _ hp3 ⟨hn0,by omega,by omega,ht⟩ hn1 (by omega)⟩
end
def placeAt (ts:List (Int × Int)) (e:Nat):Int:=match ts[e / 2]? with
 | some t=>if e % 2=0 then t.1 else t.2
 | none=>-1
def encRow (r:List Int):D:=.tup (r.map .int)
def endsBelow (ts:List (Int × Int)) (m:Nat) (p:Int):List Int:=((List.range m).filter fun e=>decide (placeAt ts e=p)).map fun e:Nat=>(e:Int)
structure RowOk (ts:List (Int × Int)) (m:Nat) (p:Int) (r:List Int):Prop where
 perm:r.Perm (endsBelow ts m p)
 first:r.head? = (endsBelow ts m p).head?
structure OrdOk (n:Int) (ts:List (Int × Int)) (o:List (List Int)):Prop where
 len:(o.length:Int)=n
 row:∀ (p:Nat) r,o[p]? = some r->RowOk ts (2 * ts.length) (p:Int) r
def encPair (y:Int × Int):Key × D:=(.inl y.1,.int y.2)
theorem Zrg {l:List (Int × Int)} {x y:Int} (h:x ∉ l.map (·.1)):putD (l.map encPair) (.inl x) (.int y)=(l ++ [(x,y)]).map encPair:=by
 unfold putD
 rw [if_neg,List.map_append]
 ·rfl
 ·rw [List.any_map,List.any_eq_true]
  rintro ⟨z,hz,e⟩
  have e:(Sum.inl z.1:Key)=Sum.inl x:=of_decide_eq_true e
  injection e with e
  exact h (List.mem_map.mpr ⟨z,hz,e⟩)
theorem Zpe {l:List (Int × Int)} (nd:(l.map (·.1)).Nodup) {x y:Int} (h:(x,y) ∈ l):valD (l.map encPair) (.inl x)=some (.int y):=by
 induction l with
 | nil=>cases h
 | cons z r ih=>
  rw [List.map_cons,List.nodup_cons] at nd
  rw [List.map_cons]
  unfold valD
  rcases List.mem_cons.mp h with e | h
  ·subst e
   rw [List.find?_cons_of_pos (by simp [encPair])]; rfl
  ·have hne:z.1 ≠ x:=fun e=>nd.1 (by rw [e]; exact List.mem_map.mpr ⟨_,h,rfl⟩)
   rw [List.find?_cons_of_neg (by simp [encPair]; exact fun e=>hne e)]
   exact ih nd.2 h
theorem Zdg {α:Type} [DecidableEq α]:∀ {l m:List α},l.Nodup->(∀ x ∈ l,x ∈ m)->l.length<=m.length
 | [],_,_,_=>Nat.zero_le _
 | x :: l,m,nd,h=>by
  rw [List.nodup_cons] at nd
  have hx:=h x List.mem_cons_self
  have:=Zdg (l:=l) (m:=m.erase x) nd.2 fun y hy=>by
   have hne:y ≠ x:=fun e=>nd.1 (e ▸ hy)
   exact (List.mem_erase_of_ne hne).mpr (h y (List.mem_cons_of_mem _ hy))
  rw [List.length_erase_of_mem hx] at this
  have hpos:0 < m.length:=List.length_pos_of_mem hx
  rw [List.length_cons]
  omega
theorem Zkc:∀ (l:List Int),l ≠ []->∃ m,m ∈ l/\∀ a ∈ l,m<=a
 | [],h=>absurd rfl h
 | [x],_=>⟨x,List.mem_cons_self,fun a ha=>by rw [List.mem_singleton.mp ha]; exact Int.le_refl _⟩
 | x :: y :: l,_=>by
  obtain ⟨m,h1,h2⟩:=Zkc (y :: l) (by simp)
  by_cases h:x<=m
  ·refine ⟨x,List.mem_cons_self,fun a ha=>?_⟩
   rcases List.mem_cons.mp ha with z | z
   ·omega
   ·have:=h2 a z; omega
  ·refine ⟨m,List.mem_cons_of_mem _ h1,fun a ha=>?_⟩
   rcases List.mem_cons.mp ha with z | z
   ·omega
   ·exact h2 a z
theorem Zje (ds:List D) {j:Nat} (h:j<=ds.length):cutD ds (some (j:Int)) none=ds.drop j:=by
 unfold cutD
 rw [HT.sIx_nat,HT.sIx_none,Nat.min_eq_left h,List.take_of_length_le (by rw [List.length_drop]; exact Nat.le_refl _)]
theorem Zoy (ds:List D) {j:Nat} (h:j<=ds.length):cutD ds none (some (j:Int))=ds.take j:=by
 unfold cutD
 rw [HT.sIx_nat,HT.sIx_none,Nat.min_eq_left h,List.drop_zero,Nat.sub_zero]
section
variable {P:Program} {w:World} {K:PySem.W.Frag} {mg:Str->Option Value} {base:Heap} {f:Addr} {fd:FuncData}
theorem Zb9:2<=sizeLine:=by decide
end
def iter (f:Int->Int) (e:Int):Nat->Int
 | 0=>e
 | n + 1=>f (iter f e n)
def walkL (f:Int->Int) (e:Int) (n:Nat):List Int:=(List.range n).map (iter f e)
structure OneOne (f:Int->Int) (m:Nat):Prop where
 to:∀ x,0<=x->x < (m:Int)->0<=f x/\f x < (m:Int)
 inj:∀ x y,0<=x->x < (m:Int)->0<=y->y < (m:Int)->f x=f y->x=y
def NdTo (f:Int->Int) (e:Int) (n:Nat):Prop:=∀ i j,i < n->j < n->iter f e i=iter f e j->i=j
structure IsOrb (f:Int->Int) (e:Int) (n:Nat):Prop where
 pos:0 < n
 back:iter f e n=e
 nd:NdTo f e n
noncomputable def per (f:Int->Int) (e:Int):Nat:=Classical.epsilon (IsOrb f e)
noncomputable def orb (f:Int->Int) (e:Int):List Int:=walkL f e (per f e)
section
variable {f:Int->Int} {m:Nat} (F:OneOne f m) {e:Int} (h0:0<=e) (h1:e < (m:Int))
include F h0 h1
end
section
variable {f:Int->Int} {m:Nat} (F:OneOne f m)
include F
end
def loI (a b:Int):Int:=if b < a then b else a
def hiI (a b:Int):Int:=if b > a then b else a
def mergeL (l:List Int) (a b:Int):List Int:=l.map fun f=>if f=hiI (l.getD a.toNat 0) (l.getD b.toNat 0) then loI (l.getD a.toNat 0) (l.getD b.toNat 0) else f
def marksL (n:Nat) (ts:List (Int × Int)):List Int:=ts.foldl (fun l t=>mergeL l t.1 t.2) ((List.range n).map fun i:Nat=>(i:Int))
theorem Zgx (l:List Int) (a b:Int):(mergeL l a b).length=l.length:=by unfold mergeL; rw [List.length_map]
theorem Zbo (n:Nat) (ts:List (Int × Int)):(marksL n ts).length=n:=by
 unfold marksL
 have:∀ (ts:List (Int × Int)) (l:List Int),(ts.foldl (fun l t=>mergeL l t.1 t.2) l).length=l.length:=by
  intro ts
  induction ts with
  | nil=>intro l; rfl
  | cons t ts ih=>intro l; rw [List.foldl_cons,ih,Zgx]
 rw [this,List.length_map,List.length_range]
theorem Zcl {n:Nat} {ts:List (Int × Int)} {i:Nat} {t:Int × Int} (h:ts[i]? = some t):marksL n (ts.take (i + 1))=mergeL (marksL n (ts.take i)) t.1 t.2:=by
 unfold marksL
 rw [List.take_add_one,h,List.foldl_append]
 rfl
def Firsts (ms l:List Int):Prop:=ms.Pairwise (· < ·)/\∀ x,x ∈ ms ↔ x ∈ l
theorem Zcy:∀ {ms ms':List Int},ms.Pairwise (· < ·)->ms'.Pairwise (· < ·)->(∀ x,x ∈ ms ↔ x ∈ ms')->ms=ms'
 | [],[],_,_,_=>rfl
 | [],y :: l',_,_,h=>by have:=(h y).mpr (by simp); simp at this
 | x :: l,[],_,_,h=>by have:=(h x).mp (by simp); simp at this
 | x :: l,y :: l',h1,h2,h=>by
  rw [List.pairwise_cons] at h1 h2
  have exy:x=y:=by
   have a:=(h x).mp (by simp)
   have b:=(h y).mpr (by simp)
   rcases List.mem_cons.mp a with z | z
   ·exact z
   ·rcases List.mem_cons.mp b with z' | z'
    ·exact z'.symm
    ·have:=h1.1 _ z'
     have:=h2.1 _ z
     omega
  subst exy
  rw [Zcy h1.2 h2.2 fun z=>?_]
  constructor
  ·intro hz
   have:=h1.1 _ hz
   rcases List.mem_cons.mp ((h z).mp (List.mem_cons_of_mem _ hz)) with q | q
   ·omega
   ·exact q
  ·intro hz
   have:=h2.1 _ hz
   rcases List.mem_cons.mp ((h z).mpr (List.mem_cons_of_mem _ hz)) with q | q
   ·omega
   ·exact q
theorem Firsts.uniq {ms ms' l:List Int} (h:Firsts ms l) (h':Firsts ms' l):ms=ms':=Zcy h.1 h'.1 fun x=>(h.2 x).trans (h'.2 x).symm
theorem Zgt:∀ {ms l:List Int},ms.Nodup->(∀ x ∈ ms,x ∈ l)->ms.length<=l.length
 | [],_,_,_=>by simp
 | x :: ms,l,h1,h2=>by
  rw [List.nodup_cons] at h1
  have hx:=h2 x (by simp)
  have:=Zgt (ms:=ms) (l:=l.erase x) h1.2 fun y hy=>(List.mem_erase_of_ne (fun z:y=x=>h1.1 (z ▸ hy))).mpr (h2 y (by simp [hy]))
  rw [List.length_erase_of_mem hx] at this
  have:=List.length_pos_of_mem hx
  rw [List.length_cons]
  omega
theorem Firsts.len {ms l:List Int} (h:Firsts ms l):ms.length<=l.length:=Zgt (h.1.imp fun z=>Int.ne_of_lt z) fun x hx=>(h.2 x).mp hx
def partI (l:List Int) (n:Nat) (f:Int):List Int:=((List.range n).map fun i:Nat=>(i:Int)).filter fun p=>decide (l.getD p.toNat 0=f)
def lstI (r:List Int):D:=.lst (r.map .int)
def partsL (n:Nat) (ts:List (Int × Int)) (ms:List Int):List (List Int):=ms.map (partI (marksL n ts) n)
def fParts:NSp:=fun ds Post=>∃ n ts,ds=[encWeb n ts]/\WebOk n ts/\∀ ms,Firsts ms (marksL n.toNat ts)->Post ((partsL n.toNat ts ms).map lstI)
theorem Zpc (l:List Int) (n:Nat) (f:Int) (p:D->Bool) (hp:∀ i:Int,p (.int i)=decide (l.getD i.toNat 0=f)) (g:D->D) (hg:∀ d,g d=d):D.lst (((rngD 0 n).filter p).map g)=lstI (partI l n f):=by
 have e1:rngD 0 n=((List.range n).map fun i:Nat=>(i:Int)).map D.int:=by
  unfold rngD
  rw [List.map_map]
  apply List.map_congr_left
  intro i _
  show D.int (0 + (i:Int))=D.int (i:Int)
  rw [Int.zero_add]
 unfold lstI partI
 rw [e1,List.filter_map,show g=id from funext hg,List.map_id]
 have e2:(p ∘ D.int)=fun q:Int=>decide (l.getD q.toNat 0=f):=funext hp
 rw [e2]
theorem Zrm {n:Nat} {l ms:List Int} (q:D->Bool) (hq:∀ d,q d=true) (g:D->D) (hg:∀ f:Int,g (.int f)=lstI (partI l n f)):((ms.map D.int).filter q).map g=(ms.map (partI l n)).map lstI:=by
 rw [List.filter_eq_self.mpr (fun d _=>hq d),List.map_map,List.map_map]
 apply List.map_congr_left
 intro f _
 exact hg f
section
variable {P:Program} {w:World} {K:PySem.W.Frag} {mg:Str->Option Value} {base:Heap} {f:Addr} {fd:FuncData}
theorem Zd3 {l:List Int} {x:Int} {n:Nat} (hl:l.length=n) (h0:0<=x) (h1:x < (n:Int)):atI (l.map D.int) x=some (.int (l.getD x.toNat 0)):=by
 rw [show x=((x.toNat:Nat):Int) by omega]
 refine Zcv ?_
 rw [List.getElem?_map,List.getD_eq_getElem?_getD,Int.toNat_natCast,List.getElem?_eq_getElem (by omega:x.toNat < l.length)]
 rfl
theorem Ziz (mb:Mb mg) (F:Fun K "parts_of" "parts_of" s_parts_of f fd):FnOk P w K mg base CX0 1 f fd ["web"] (spN K fParts):=by
 refine F.ok sc_parts_of (Zis fun ds Post h=>by obtain ⟨_,_,rfl,_⟩:=h; rfl) (fun cdv A outer s H vs Q E hr h=>?_)
 have hu:=Zco hr
 have hv:=Zp0 hr
 refine ⟨_,(Zaf (Zc0 (pv 0) (gtupK (n:=2) K rfl (Zas (Zam (i:=1) sc_parts_of.nd rfl (Or.inr rfl)) (Zas (Zam (i:=2) sc_parts_of.nd rfl (Or.inl rfl)) Zbr)))) (Zaf (Zax (i:=3) sc_parts_of.nd rfl (Or.inr rfl) (Ze4 rfl rfl (mb "list" (by decide)) rfl (mb "range" (by decide)) (Zaa (pv 1) Zac))) (Zaf (Zcq PassesOwn.never rfl (seqK K (pv 2)) (gtupK (n:=2) K rfl (Zas (Zam (i:=4) sc_parts_of.nd rfl (Or.inl rfl)) (Zas (Zam (i:=5) sc_parts_of.nd rfl (Or.inl rfl)) Zbr))) (Zaf (Zax (i:=6) sc_parts_of.nd rfl (Or.inr rfl) (Zaj (Zde rfl) rfl (mb "min" (by decide)) Zf7 (Zaa (Zap (ixK K hu) (pv 3) (pv 4) (fun _ _=>rfl)) (Zaa (Zap (ixK K hu) (pv 3) (pv 5) (fun _ _=>rfl)) Zac)))) (Zaf (Zax (i:=7) sc_parts_of.nd rfl (Or.inr rfl) (Zaj (Zda rfl) rfl (mb "max" (by decide)) Zgy (Zaa (Zap (ixK K hu) (pv 3) (pv 4) (fun _ _=>rfl)) (Zaa (Zap (ixK K hu) (pv 3) (pv 5) (fun _ _=>rfl)) Zac)))) (Zak (Zax (i:=3) sc_parts_of.nd rfl (Or.inr rfl) (Zbn ["first"] (show CompSc (defScope s_parts_of) ["web","many","ties","firsts","a","b","low","high"] _ ["low","high"] [6,7] from ⟨rfl,by decide +kernel,by decide +kernel,by decide +kernel,rfl,by decide +kernel⟩) rfl (seqK K (pv 3)) (fun _ _ _ _ _=>(Zam (i:=0) (show List.Nodup (["first","low","high"]:List Str) from by decide) rfl (Or.inl rfl))) (fun _ _ _ _ _=>Zb8) (fun _ _ _ _ _=>(Zjv (Zar Zbx (pv 0) (pv 2) (nomark _)) (pv 1) (pv 0))))))))) (Zak (Za9 (Zna ["first"] (show CompScK (defScope s_parts_of) ["web","many","ties","firsts","a","b","low","high"] "first" _ ["many","firsts"] [1,3] from ⟨rfl,by decide +kernel,by decide +kernel,by decide +kernel,by decide +kernel,rfl,by decide +kernel⟩) rfl (seqK K (Zgp rfl rfl rfl (mb "sorted" (by decide)) rfl (mb "set" (by decide)) (Zaa (pv 3) Zac))) (fun _ _ _ _ _=>(Zam (i:=0) (show List.Nodup (["first","many","firsts"]:List Str) from by decide) rfl (Or.inr rfl))) (fun _ _ _ _ _=>Zb8) (fun _ _ _ _ _=>(Zbn ["place"] (show CompSc (relab (defScope s_parts_of) _) ["first","many","firsts"] _ ["first","firsts"] [0,2] from ⟨rfl,by decide +kernel,by decide +kernel,by decide +kernel,rfl,by decide +kernel⟩) rfl (Zbz rfl (mb "range" (by decide)) (Zaa (pv 1) Zac)) (fun _ _ _ _ _=>(Zam (i:=0) (show List.Nodup (["place","first","firsts"]:List Str) from by decide) rfl (Or.inl rfl))) (fun _ _ _ _ _=>(Zha (Zar Zbx (Zap (ixK K hu) (pv 2) (pv 0) (fun _ _=>rfl)) (pv 1) (nomark _)))) (fun _ _ _ _ _=>(pv 0)))))))))),Zp2 (fun ds Post hf=>?_) h⟩
 obtain ⟨n,ts,rfl,hW,q⟩:=hf
 refine ⟨by simp,?_⟩
 dsimp only [startD,List.tail,List.map,List.length,List.replicate]
 have hn0:=hW.lo
 have hn1:=hW.hi
 have hts:=hW.len
 obtain ⟨N,rfl⟩:∃ N:Nat,n=(N:Int):=⟨n.toNat,by omega⟩
 rw [Int.toNat_natCast] at q
 refine Zau (Zf2 (Zad rfl (Zdd rfl (Zba (Zbd (Zba (Zbd (Zck ?_))))))))
 refine Zau (Za5 (Zcs (Zst (Zab (Zad rfl (Zah ⟨N,rfl,by omega,_,rfl,?_⟩))))))
 have e0:(List.range N).map (fun i:Nat=>D.int (i:Int))=(marksL N (ts.take 0)).map D.int:=by
  show _=((List.range N).map fun i:Nat=>(i:Int)).map D.int
  rw [List.map_map]; rfl
 rw [e0]
 refine Zbb (fun Δ=>∃ (x4 x5 x6 x7:L2.Slot),Δ = [.val (encWeb (N:Int) ts),.val (.int (N:Int)),.val (.tup (ts.map encTie)),.val (.lst ((marksL N ts).map D.int)),x4,x5,x6,x7]) ?_ ?_
 ·refine Zcr (Zc7 (Zad rfl ⟨_,rfl,fun i Δ=>∃ (x4 x5 x6 x7:L2.Slot),Δ = [.val (encWeb (N:Int) ts),.val (.int (N:Int)),.val (.tup (ts.map encTie)),.val (.lst ((marksL N (ts.take i)).map D.int)),x4,x5,x6,x7],⟨_,_,_,_,rfl⟩,?_,?_⟩))
  ·rintro i d Δ2 hd ⟨x4,x5,x6,x7,rfl⟩
   rw [List.getElem?_map] at hd
   cases z:ts[i]? with
   | none=>rw [z] at hd; cases hd
   | some t=>
    rw [z] at hd
    have hd:encTie t=d:=by simpa using hd
    subst hd
    have ht:=hW.tie t (List.mem_of_getElem? z)
    have hl:=Zbo N (ts.take i)
    have hs:=Zcl (n:=N) z
    obtain ⟨l,el⟩:∃ l,marksL N (ts.take i)=l:=⟨_,rfl⟩
    rw [el] at hl hs ⊢
    have a1:=Zd3 hl ht.1 ht.2.1
    have a2:=Zd3 hl ht.2.2.1 ht.2.2.2
    refine Zdd rfl (Zba (Zbd (Zba (Zbd (Zck ?_)))))
    refine Zau (Za5 (Za4 (Zab (Zaz (Zad rfl (Zad rfl (Zcd a1 (Zab (Zaz (Zad rfl (Zad rfl (Zcd a2 (Zah (Zc2 ?_))))))))))))))
    refine Zau (Za5 (Za4 (Zab (Zaz (Zad rfl (Zad rfl (Zcd a1 (Zab (Zaz (Zad rfl (Zad rfl (Zcd a2 (Zah (Zc2 ?_))))))))))))))
    refine Za5 (Zce (by decide) (Zeq (Zad rfl ⟨_,Or.inl rfl,?_,fun _=>true,fun d=>match d with | .int g=>.int (if g=hiI (l.getD t.1.toNat 0) (l.getD t.2.toNat 0) then loI (l.getD t.1.toNat 0) (l.getD t.2.toNat 0) else g) | d=>d,fun j d hd=>?_,?_⟩)))
    ·rw [List.length_map]; exact small1000 (by omega)
    ·rw [List.getElem?_map] at hd
     cases zz:l[j]? with
     | none=>rw [zz] at hd; cases hd
     | some g=>
      rw [zz] at hd
      have hd:D.int g=d:=by simpa using hd
      subst hd
      refine Zb7 ⟨rfl,Zjx (Za0 (Zaz (Zad rfl (Zad rfl (Zdu ⟨_,rfl,?_⟩)))))⟩
      show if decide (g=hiI (l.getD t.1.toNat 0) (l.getD t.2.toNat 0))=true then _ else _
      by_cases hg:g=hiI (l.getD t.1.toNat 0) (l.getD t.2.toNat 0)
      ·rw [decide_eq_true hg]
       refine iteT (Zad rfl ⟨?_,_,rfl⟩)
       dsimp only
       rw [if_pos hg]
       rfl
      ·rw [decide_eq_false hg]
       refine iteF (Zad rfl ⟨?_,_,rfl⟩)
       dsimp only
       rw [if_neg hg]
    ·have e1:((l.map D.int).filter fun _=>true).map (fun d=>match d with | .int g=>D.int (if g=hiI (l.getD t.1.toNat 0) (l.getD t.2.toNat 0) then loI (l.getD t.1.toNat 0) (l.getD t.2.toNat 0) else g) | d=>d)=(marksL N (ts.take (i + 1))).map D.int:=by
      rw [hs,List.filter_eq_self.mpr (by simp),List.map_map]
      unfold mergeL
      rw [List.map_map]
      rfl
     rw [e1]
     exact ⟨_,_,_,_,rfl⟩
  ·rintro Δ2 ⟨x4,x5,x6,x7,rfl⟩
   rw [List.length_map,List.take_length]
   exact ⟨_,_,_,_,rfl⟩
 rintro Δ1 ⟨x4,x5,x6,x7,rfl⟩
 have hl:=Zbo N ts
 refine Zg1 (Zof (by decide) (Zeq (Zcs (Zsb (Zab (Zad rfl (Zah ⟨_,rfl,by omega,fun ms m1 m2=>⟨_,rfl,_,Or.inl rfl,?_,fun _=>true,fun d=>match d with | .int g=>lstI (partI (marksL N ts) N g) | d=>d,fun i d hd=>?_,?_⟩⟩)))))))
 ·have:=Firsts.len ⟨m1,m2⟩
  rw [List.length_map]; exact small1000 (by omega)
 ·rw [List.getElem?_map] at hd
  cases zz:ms[i]? with
  | none=>rw [zz] at hd; cases hd
  | some g=>
   rw [zz] at hd
   have hd:D.int g=d:=by simpa using hd
   subst hd
   refine Zb7 ⟨rfl,Zce (by decide) (Zb1 (Zab (Zad rfl (Zah ⟨_,rfl,by omega,by omega,?_,fun d=>match d with | .int p=>decide ((marksL N ts).getD p.toNat 0=g) | _=>false,fun d=>d,fun j d hd=>?_,?_⟩))))⟩
   ·rw [Zbm]; exact small1000 (by omega)
   ·obtain ⟨hj,rfl⟩:=Zb3 hd
    refine Za0 (Zaz (Zaz (Zad rfl (Zad rfl (Zcd (Zd3 hl (by omega) (by omega)) (Zad rfl (Zdu ⟨_,rfl,rfl,?_⟩)))))))
    split
    ·exact Zad rfl ⟨rfl,_,rfl⟩
    ·exact ⟨_,rfl⟩
   ·refine ⟨?_,_,rfl⟩
    rw [Int.toNat_natCast]
    exact Zpc _ _ _ _ (fun _=>rfl) _ fun _=>rfl
 ·refine ⟨_,rfl,?_⟩
  rw [Zrm (l:=marksL N ts) (n:=N) _ (fun _=>rfl) _ fun _=>rfl]
  exact q ms ⟨m1,m2⟩
end
def stepM (l:List Int) (h lo:Int) (k:Nat):List Int:=(l.take k).map (fun f=>if f=h then lo else f) ++ l.drop k
theorem Zf6 (l:List Int) (h lo:Int) (k:Nat):(stepM l h lo k).length=l.length:=by
 unfold stepM
 rw [List.length_append,List.length_map,List.length_take,List.length_drop]
 omega
theorem Zlr {l:List Int} {h lo:Int} {k:Nat} (hk:k < l.length):(stepM l h lo k)[k]? = some l[k]:=by
 unfold stepM
 rw [List.getElem?_append_right (by rw [List.length_map,List.length_take]; omega),List.length_map,List.length_take,Nat.min_eq_left (Nat.le_of_lt hk),Nat.sub_self,List.getElem?_drop]
 exact List.getElem?_eq_getElem hk
theorem Zkq {l:List Int} {h lo:Int} {k:Nat} (hk:k < l.length):stepM l h lo (k + 1)=(stepM l h lo k).set k (if l[k]=h then lo else l[k]):=by
 apply List.ext_getElem?
 intro j
 rw [List.getElem?_set,Zf6]
 unfold stepM
 rcases Nat.lt_trichotomy j k with hj | hj | hj
 ·rw [if_neg (by omega),List.getElem?_append_left (by rw [List.length_map,List.length_take]; omega),List.getElem?_append_left (by rw [List.length_map,List.length_take]; omega),List.getElem?_map,List.getElem?_map,List.getElem?_take,List.getElem?_take,if_pos (by omega),if_pos (by omega)]
 ·subst hj
  rw [if_pos rfl,if_pos hk,List.getElem?_append_left (by rw [List.length_map,List.length_take]; omega),List.getElem?_map,List.getElem?_take,if_pos (by omega),List.getElem?_eq_getElem hk]
  rfl
 ·rw [if_neg (by omega),List.getElem?_append_right (by rw [List.length_map,List.length_take]; omega),List.getElem?_append_right (by rw [List.length_map,List.length_take]; omega),List.length_map,List.length_map,List.length_take,List.length_take,List.getElem?_drop,List.getElem?_drop]
  congr 1
  omega
theorem Zlo {l:List Int} {h lo:Int}:stepM l h lo l.length=l.map fun f=>if f=h then lo else f:=by
 unfold stepM
 rw [List.take_length,List.drop_length,List.append_nil]
def fPartsU:NSp:=fun ds Post=>∃ (N:Nat) (ts:List (Int × Int)) (d:D),ds=[.tup [.int (N:Int),d]]/\(d=.tup (ts.map encTie)\/d=.lst (ts.map encTie))/\WebOk (N:Int) ts/\∀ ms,Firsts ms (marksL N ts)->Post ((partsL N ts ms).map lstI)
section
variable {P:Program} {w:World} {K:PySem.W.Frag} {mg:Str->Option Value} {base:Heap} {f:Addr} {fd:FuncData}
theorem Zlk (mb:Mb mg) (F:Fun K "_law_parts" "_law_parts" s_law_parts f fd):FnOk P w K mg base CX0 1 f fd ["_law_web_here"] (spN K fPartsU):=by
 refine F.ok sc_law_parts (Zis fun ds Post h=>by obtain ⟨_,_,_,rfl,_⟩:=h; rfl) (fun cdv A outer s H vs Q E hr h=>?_)
 have hu:=Zco hr
 have hv:=Zp0 hr
 refine ⟨_,(Zaf (Zax (i:=1) sc_law_parts.nd rfl (Or.inr rfl) (Ze4 rfl rfl (mb "list" (by decide)) rfl (mb "range" (by decide)) (Zaa (Zap (ixK K hu) (pv 0) Zae (fun _ _=>rfl)) Zac))) (Zaf (Zcq PassesOwn.never rfl (seqK K (Zap (ixK K hu) (pv 0) Zae (fun _ _=>rfl))) (gtupK (n:=2) K rfl (Zas (Zam (i:=2) sc_law_parts.nd rfl (Or.inl rfl)) (Zas (Zam (i:=3) sc_law_parts.nd rfl (Or.inl rfl)) Zbr))) (Zaf (Zka (i:=4) (j:=5) rfl sc_law_parts.nd rfl rfl (by decide) rfl rfl (Zaa (Zaj (Zde rfl) rfl (mb "min" (by decide)) Zf7 (Zaa (Zap (ixK K hu) (pv 1) (pv 2) (fun _ _=>rfl)) (Zaa (Zap (ixK K hu) (pv 1) (pv 3) (fun _ _=>rfl)) Zac))) (Zaa (Zaj (Zda rfl) rfl (mb "max" (by decide)) Zgy (Zaa (Zap (ixK K hu) (pv 1) (pv 2) (fun _ _=>rfl)) (Zaa (Zap (ixK K hu) (pv 1) (pv 3) (fun _ _=>rfl)) Zac))) Zac)) rfl) (Zak (Zcq PassesOwn.never rfl (Zbz rfl (mb "range" (by decide)) (Zaa (Zap (ixK K hu) (pv 0) Zae (fun _ _=>rfl)) Zac)) (Zam (i:=6) sc_law_parts.nd rfl (Or.inl rfl)) (Zak (Zb0 (Zar Zbx (Zap (ixK K hu) (pv 1) (pv 6) (fun _ _=>rfl)) (pv 5) (nomark _)) (Zak (Zc0 (pv 4) (Ze5 (pv 1) (pv 6) (setU hu)))) Za8)))))) (Zaf (Zax (i:=7) sc_law_parts.nd rfl (Or.inl rfl) (Zb5 Zac)) (Zaf (Zcq PassesOwn.never rfl (seqK K (Zgp rfl rfl rfl (mb "sorted" (by decide)) rfl (mb "set" (by decide)) (Zaa (pv 1) Zac))) (Zam (i:=8) sc_law_parts.nd rfl (Or.inr rfl)) (Zak (Zd8 (bmK K PySem.F.plainAttrs_list PySem.F.slot_list_append PySem.F.type_list_append Zdb (pv 7) (Zaa (Zbn ["_law_place"] (show CompSc (defScope s_law_parts) ["_law_web_here","_law_marks","_law_a","_law_b","_law_low","_law_high","_law_place","_law_found","_law_first"] _ ["_law_marks","_law_first"] [1,8] from ⟨rfl,by decide +kernel,by decide +kernel,by decide +kernel,rfl,by decide +kernel⟩) rfl (Zbz rfl (mb "range" (by decide)) (Zaa (Zap (ixK K hu) (pv 0) Zae (fun _ _=>rfl)) Zac)) (fun _ _ _ _ _=>(Zam (i:=0) (show List.Nodup (["_law_place","_law_marks","_law_first"]:List Str) from by decide) rfl (Or.inl rfl))) (fun _ _ _ _ _=>(Zha (Zar Zbx (Zap (ixK K hu) (pv 1) (pv 0) (fun _ _=>rfl)) (pv 2) (nomark _)))) (fun _ _ _ _ _=>(pv 0))) Zac))))) (Zak (Za9 (pv 7))))))),Zp2 (fun ds Post hf=>?_) h⟩
 obtain ⟨N,ts,d0,rfl,hd0,hW,q⟩:=hf
 refine ⟨by simp,?_⟩
 dsimp only [startD,List.tail,List.map,List.length,List.replicate]
 have hn0:=hW.lo
 have hn1:=hW.hi
 have hts:=hW.len
 refine Zau (Zdn (Zst (Zab (Zaz (Zad rfl (Zay (Zez (d:=.int (N:Int)) rfl (Zah ⟨N,rfl,by omega,?_⟩))))))))
 have e0:(List.range N).map (fun i:Nat=>D.int (i:Int))=(marksL N (ts.take 0)).map D.int:=by
  show _=((List.range N).map fun i:Nat=>(i:Int)).map D.int
  rw [List.map_map]; rfl
 rw [e0]
 refine Zbb (fun Δ=>∃ (x4 x5 x6 x7 x8:L2.Slot),Δ = [.val (.tup [.int (N:Int),d0]),.own (.lst ((marksL N ts).map D.int)),x4,x5,x6,x7,x8,.any,.any]) ?_ ?_
 ·refine Zcr (Zov hd0 (Zaz (Zad rfl (Zay (Zez (d:=d0) rfl ⟨rfl,fun i Δ=>∃ (x4 x5 x6 x7 x8:L2.Slot),Δ = [.val (.tup [.int (N:Int),d0]),.own (.lst ((marksL N (ts.take i)).map D.int)),x4,x5,x6,x7,x8,.any,.any],⟨_,_,_,_,_,rfl⟩,?_,?_⟩)))))
  ·rintro i d Δ2 hd ⟨x4,x5,x6,x7,x8,rfl⟩
   rw [List.getElem?_map] at hd
   cases z:ts[i]? with
   | none=>rw [z] at hd; cases hd
   | some t=>
    rw [z] at hd
    have hd:encTie t=d:=by simpa using hd
    subst hd
    have ht:=hW.tie t (List.mem_of_getElem? z)
    have hl:=Zbo N (ts.take i)
    have hs:=Zcl (n:=N) z
    obtain ⟨l,el⟩:∃ l,marksL N (ts.take i)=l:=⟨_,rfl⟩
    rw [el] at hl hs ⊢
    have a1:=Zd3 hl ht.1 ht.2.1
    have a2:=Zd3 hl ht.2.2.1 ht.2.2.2
    refine Zdd rfl (Zba (Zbd (Zba (Zbd (Zck ?_)))))
    refine Zau (Zgc (Zab (Za4 (Zab (Zcz rfl rfl (Zad rfl ⟨_,_,_,_,rfl,rfl,rfl,a1,Zab (Zcz rfl rfl (Zad rfl ⟨_,_,_,_,rfl,rfl,rfl,a2,Zah (Zc2 ?_)⟩))⟩))))))
    refine Zab (Za4 (Zab (Zcz rfl rfl (Zad rfl ⟨_,_,_,_,rfl,rfl,rfl,a1,Zab (Zcz rfl rfl (Zad rfl ⟨_,_,_,_,rfl,rfl,rfl,a2,Zah (Zc2 (Zah ⟨_,_,rfl,?_⟩))⟩))⟩))))
    obtain ⟨lo,elo⟩:∃ lo,loI (l.getD t.1.toNat 0) (l.getD t.2.toNat 0)=lo:=⟨_,rfl⟩
    obtain ⟨hi,ehi⟩:∃ hi,hiI (l.getD t.1.toNat 0) (l.getD t.2.toNat 0)=hi:=⟨_,rfl⟩
    refine Zcr (Zb1 (Zab (Zaz (Zad rfl (Zay (Zez (d:=.int (N:Int)) rfl (Zah ⟨_,rfl,by omega,by omega,fun k Δ=>∃ x8:L2.Slot,Δ = [.val (.tup [.int (N:Int),d0]),.own (.lst ((stepM l hi lo k).map D.int)),.val (.int t.1),.val (.int t.2),.val (.int lo),.val (.int hi),x8,.any,.any],⟨x8,?_⟩,?_,?_⟩)))))))
    ·rw [<- elo,<- ehi]; rfl
    ·rintro k d Δ3 hd ⟨x8,rfl⟩
     rw [Int.toNat_natCast] at hd
     obtain ⟨hk,rfl⟩:=Zb3 hd
     rw [Int.zero_add]
     have hkl:k < l.length:=by omega
     have hg:=Zlr (h:=hi) (lo:=lo) hkl
     have hat:atI ((stepM l hi lo k).map D.int) (k:Int)=some (.int l[k]):=Zcv (by rw [List.getElem?_map,hg]; rfl)
     have hsu:=Zkq (h:=hi) (lo:=lo) hkl
     refine Zbd (Zb4 (Za0 (Zaz (Zcz rfl rfl (Zad rfl ⟨_,_,_,_,rfl,rfl,rfl,hat,Zad rfl (Zdu ⟨_,rfl,?_⟩)⟩)))))
     by_cases hb:l[k]=hi
     ·rw [decide_eq_true hb]
      rw [if_pos hb] at hsu
      refine iteT (Zer (Zad rfl ⟨⟨_,_,rfl,rfl⟩,Zad rfl ⟨_,_,_,k,rfl,rfl,rfl,?_,.val (.int (k:Int)),?_⟩⟩))
      ·unfold ixN
       rw [if_pos (by omega),if_pos (by rw [List.length_map,Zf6]; omega),Int.toNat_natCast]
      ·rw [hsu,List.map_set]; rfl
     ·rw [decide_eq_false hb]
      rw [if_neg hb] at hsu
      refine iteF (Za2 ⟨.val (.int (k:Int)),?_⟩)
      have:stepM l hi lo (k + 1)=stepM l hi lo k:=by
       rw [hsu]
       apply List.ext_getElem?
       intro j
       rw [List.getElem?_set]
       split
       ·rename_i hj
        subst hj
        rw [if_pos (by rw [Zf6]; omega),hg]
       ·rfl
      rw [this]
      rfl
    ·rintro Δ3 ⟨x8,rfl⟩
     have e2:stepM l hi lo (rngD 0 ((N:Int)).toNat).length=marksL N (ts.take (i + 1)):=by
      rw [Zbm,Int.toNat_natCast,hs]
      unfold mergeL
      rw [elo,ehi,<- Zlo,hl]
     rw [e2]
     exact ⟨_,_,_,_,_,rfl⟩
  ·rintro Δ2 ⟨x4,x5,x6,x7,x8,rfl⟩
   rw [List.length_map,List.take_length]
   exact ⟨_,_,_,_,_,rfl⟩
 rintro Δ1 ⟨x4,x5,x6,x7,x8,rfl⟩
 have hl:=Zbo N ts
 refine Zau (Zdn (Zhx (Zah ⟨by decide,?_⟩)))
 refine Zbb (fun Δ=>∃ (ms:List Int) (x:L2.Slot) (R:Evt),Firsts ms (marksL N ts) /\ Δ = [.val (.tup [.int (N:Int),d0]),.val (.lst ((marksL N ts).map D.int)),x4,x5,x6,x7,x8,.own (.lst ((partsL N ts ms).map lstI)),x]) ?_ ?_
 ·refine Zcr (Zeq (Zcs (Zsb (Zab (Zf1 rfl (Zah ⟨_,rfl,by omega,fun ms m1 m2=>⟨_,rfl,_,Or.inl rfl,fun i Δ=>∃ x:L2.Slot,Δ = [.val (.tup [.int (N:Int),d0]),.val (.lst ((marksL N ts).map D.int)),x4,x5,x6,x7,x8,.own (.lst (((partsL N ts ms).map lstI).take i)),x],⟨_,rfl⟩,?_,?_⟩⟩))))))
  ·rintro i d Δ2 hd ⟨x,rfl⟩
   have hml:=Firsts.len ⟨m1,m2⟩
   rw [List.getElem?_map] at hd
   cases zz:ms[i]? with
   | none=>rw [zz] at hd; cases hd
   | some g=>
    rw [zz] at hd
    have hd:D.int g=d:=by simpa using hd
    subst hd
    refine Zbd (Zi9 rfl rfl (Zce (by decide) (Zb1 (Zab (Zaz (Zad rfl (Zay (Zez (d:=.int (N:Int)) rfl (Zah ⟨_,rfl,by omega,by omega,?_,fun d=>match d with | .int p=>decide ((marksL N ts).getD p.toNat 0=g) | _=>false,fun d=>d,fun j d hd=>?_,?_⟩)))))))))
    ·rw [Zbm]; exact small1000 (by omega)
    ·obtain ⟨hj,rfl⟩:=Zb3 hd
     refine Za0 (Zaz (Zaz (Zad rfl (Zad rfl (Zcd (Zd3 hl (by omega) (by omega)) (Zad rfl (Zdu ⟨_,rfl,rfl,?_⟩)))))))
     split
     ·exact Zad rfl ⟨rfl,_,rfl⟩
     ·exact ⟨_,rfl⟩
    ·rw [Int.toNat_natCast,Zpc _ _ _ _ (fun _=>rfl) _ fun _=>rfl]
     refine ⟨_,_,rfl,rfl,?_,?_⟩
     ·rw [List.length_take]; exact small1000 (by unfold partsL; rw [List.length_map,List.length_map]; omega)
     have e1:((partsL N ts ms).map lstI).take (i + 1)=((partsL N ts ms).map lstI).take i ++ [lstI (partI (marksL N ts) N g)]:=by
      unfold partsL
      rw [List.take_add_one,List.getElem?_map,List.getElem?_map,zz]
      rfl
     dsimp only
     rw [e1]
     exact ⟨_,rfl⟩
  ·rintro Δ2 ⟨x,rfl⟩
   refine ⟨ms,x,[],⟨m1,m2⟩,?_⟩
   rw [List.take_of_length_le (by unfold partsL; rw [List.length_map,List.length_map,List.length_map]; exact Nat.le_refl _)]
 rintro Δ1 ⟨ms,x,_,hm,rfl⟩
 exact Zg1 (Zpj rfl ⟨_,rfl,q ms hm⟩)
end
theorem Zdc (l:List Int) (a b:Int) {p:Nat} (hp:p < l.length):(mergeL l a b).getD p 0=if l.getD p 0=hiI (l.getD a.toNat 0) (l.getD b.toNat 0) then loI (l.getD a.toNat 0) (l.getD b.toNat 0) else l.getD p 0:=by
 unfold mergeL
 rw [List.getD_eq_getElem?_getD,List.getElem?_map,List.getElem?_eq_getElem hp,List.getD_eq_getElem?_getD (l:=l) (i:=p),List.getElem?_eq_getElem hp]
 rfl
theorem lohi (a b:Int):(a=loI a b\/a=hiI a b)/\(b=loI a b\/b=hiI a b):=by
 unfold loI hiI
 constructor
 ·by_cases h:b < a
  ·right; rw [if_neg (by omega)]
  ·left; rw [if_neg h]
 ·by_cases h:b < a
  ·left; rw [if_pos h]
  ·by_cases h2:b > a
   ·right; rw [if_pos h2]
   ·left; rw [if_neg h]; omega
theorem Zkl (l:List Int) {t:Int × Int} (h1:t.1.toNat < l.length) (h2:t.2.toNat < l.length):(mergeL l t.1 t.2).getD t.1.toNat 0=loI (l.getD t.1.toNat 0) (l.getD t.2.toNat 0)/\(mergeL l t.1 t.2).getD t.2.toNat 0=loI (l.getD t.1.toNat 0) (l.getD t.2.toNat 0):=by
 obtain ⟨a,b⟩:=lohi (l.getD t.1.toNat 0) (l.getD t.2.toNat 0)
 rw [Zdc _ _ _ h1,Zdc _ _ _ h2]
 constructor
 ·split
  ·rfl
  ·rename_i h; rcases a with a | a
   ·exact a
   ·exact absurd a h
 ·split
  ·rfl
  ·rename_i h; rcases b with b | b
   ·exact b
   ·exact absurd b h
section
variable {N:Nat} {ts:List (Int × Int)} (hW:WebOk (N:Int) ts)
include hW
theorem Zhs:∀ i,i<=ts.length->∀ t ∈ ts.take i,(marksL N (ts.take i)).getD t.1.toNat 0=(marksL N (ts.take i)).getD t.2.toNat 0
 | 0,_,t,ht=>by simp at ht
 | i + 1,hi,t,ht=>by
  have hlt:i < ts.length:=hi
  have z:=List.getElem?_eq_getElem hlt
  rw [Zcl z]
  have hl:=Zbo N (ts.take i)
  have hu:=hW.tie _ (List.getElem_mem hlt)
  rw [List.take_add_one,z] at ht
  rcases List.mem_append.mp ht with h | h
  ·have ih:=Zhs i (by omega) t h
   have hr:=hW.tie t (List.mem_of_mem_take h)
   rw [Zdc _ _ _ (by omega),Zdc _ _ _ (by omega),ih]
  ·have e:t=ts[i]:=by simpa using h
   subst e
   obtain ⟨a,b⟩:=Zkl (marksL N (ts.take i)) (t:=ts[i]) (by omega) (by omega)
   rw [a,b]
theorem Znx {t:Int × Int} (ht:t ∈ ts):(marksL N ts).getD t.1.toNat 0=(marksL N ts).getD t.2.toNat 0:=by
 have:=Zhs hW ts.length (Nat.le_refl _) t (by rw [List.take_length]; exact ht)
 rw [List.take_length] at this
 exact this
end
section
variable {N:Nat} {ts:List (Int × Int)} {o:List (List Int)} (hW:WebOk (N:Int) ts) (hO:OrdOk (N:Int) ts o)
include hW
include hO
end
section
variable {f:Int->Int} {m:Nat} (F:OneOne f m)
include F
end
section
variable {N:Nat} {ts:List (Int × Int)} {o:List (List Int)} (hW:WebOk (N:Int) ts) (hO:OrdOk (N:Int) ts o)
include hW hO
end
theorem Zow {l:List Int} {a b:Int} (h:l.getD a.toNat 0=l.getD b.toNat 0):mergeL l a b=l:=by
 unfold mergeL
 conv=>rhs; rw [<- List.map_id l]
 apply List.map_congr_left
 intro f _
 have e1:hiI (l.getD a.toNat 0) (l.getD b.toNat 0)=l.getD a.toNat 0:=by rw [<- h]; unfold hiI; split <;> rfl
 have e2:loI (l.getD a.toNat 0) (l.getD b.toNat 0)=l.getD a.toNat 0:=by rw [<- h]; unfold loI; split <;> rfl
 rw [e1,e2]
 split
 ·rename_i z; exact z.symm
 ·rfl
structure Goes (N:Nat) (l l':List Int) (lo hi:Int):Prop where
 len:l.length=N
 len':l'.length=N
 lt:lo < hi
 inL:lo ∈ l
 inH:hi ∈ l
 to:∀ p:Nat,p < N->l'.getD p 0=if l.getD p 0=hi then lo else l.getD p 0
theorem Zgl {N:Nat} {l:List Int} {t:Int × Int} (hl:l.length=N) (h1:t.1.toNat < N) (h2:t.2.toNat < N) (hne:l.getD t.1.toNat 0 ≠ l.getD t.2.toNat 0) :
  Goes N l (mergeL l t.1 t.2) (loI (l.getD t.1.toNat 0) (l.getD t.2.toNat 0)) (hiI (l.getD t.1.toNat 0) (l.getD t.2.toNat 0)):=by
 have m1:l.getD t.1.toNat 0 ∈ l:=by rw [List.getD_eq_getElem?_getD,List.getElem?_eq_getElem (by omega:t.1.toNat < l.length)]; exact List.getElem_mem _
 have m2:l.getD t.2.toNat 0 ∈ l:=by rw [List.getD_eq_getElem?_getD,List.getElem?_eq_getElem (by omega:t.2.toNat < l.length)]; exact List.getElem_mem _
 refine ⟨hl,by rw [Zgx,hl],?_,?_,?_,fun p hp=>Zdc _ _ _ (by omega)⟩
 ·unfold loI hiI; split <;> split <;> omega
 ·unfold loI; split
  ·exact m2
  ·exact m1
 ·unfold hiI; split
  ·exact m2
  ·exact m1
section
variable {N:Nat} {l l' ms ms':List Int} {lo hi:Int} (G:Goes N l l' lo hi)
theorem Zo0 {l:List Int} {x:Int} (h:x ∈ l):∃ p:Nat,p < l.length/\l.getD p 0=x:=by
 obtain ⟨p,hp,rfl⟩:=List.getElem_of_mem h
 exact ⟨p,hp,by rw [List.getD_eq_getElem?_getD,List.getElem?_eq_getElem hp]; rfl⟩
theorem Zgv {l:List Int} {p:Nat} (h:p < l.length):l.getD p 0 ∈ l:=by
 rw [List.getD_eq_getElem?_getD,List.getElem?_eq_getElem h]; exact List.getElem_mem h
include G
theorem Goes.mem {x:Int}:x ∈ l' ↔ x ∈ l/\x ≠ hi:=by
 have h1:=G.len
 have h2:=G.len'
 have h3:=G.lt
 constructor
 ·intro h
  obtain ⟨p,hp,e⟩:=Zo0 h
  rw [G.to p (by omega)] at e
  split at e
  ·rw [<- e]; exact ⟨G.inL,by omega⟩
  ·rename_i z
   rw [<- e]; exact ⟨Zgv (by omega),z⟩
 ·rintro ⟨h,hne⟩
  obtain ⟨p,hp,e⟩:=Zo0 h
  have:l'.getD p 0=x:=by rw [G.to p (by omega),e,if_neg hne]
  rw [<- this]
  exact Zgv (by omega)
theorem Goes.firsts (h:Firsts ms l) (h':Firsts ms' l'):ms' = ms.filter fun g=>decide (g ≠ hi):=by
 refine Zcy h'.1 (List.Pairwise.filter _ h.1) fun x=>?_
 rw [h'.2,List.mem_filter,decide_eq_true_iff,h.2]
 exact G.mem
omit G in
theorem Zn5 {ms:List Int} {lo:Int} (h1:ms.Pairwise (· < ·)) (h3:lo ∈ ms):(ms.filter fun g=>decide (g=lo))=[lo]:=by
 refine Zcy (List.Pairwise.filter _ h1) (by simp) fun x=>?_
 rw [List.mem_filter,decide_eq_true_iff,List.mem_singleton]
 exact ⟨fun h=>h.2,fun h=>⟨h ▸ h3,h⟩⟩
omit G in
theorem Ze2 {α:Type} (p:α -> Bool):∀ l:List α,l.length=(l.filter p).length + (l.filter fun x=>!p x).length
 | []=>rfl
 | x :: l=>by
  have ih:=Ze2 p l
  rw [List.filter_cons,List.filter_cons]
  cases h:p x with
  | true=>simp only [if_true,Bool.not_true,Bool.false_eq_true,if_false,List.length_cons]; omega
  | false=>simp only [if_true,Bool.not_false,Bool.false_eq_true,if_false,List.length_cons]; omega
theorem Goes.count (h:Firsts ms l) (h':Firsts ms' l'):ms.length=ms'.length + 1:=by
 rw [G.firsts h h']
 have e:=Zn5 h.1 ((h.2 _).mpr G.inH)
 have q:=Ze2 (fun g:Int=>decide (g=hi)) ms
 rw [e,List.length_singleton] at q
 have e2:(ms.filter fun g=>!decide (g=hi))=ms.filter fun g=>decide (g ≠ hi):=by
  apply List.filter_congr
  intro g _
  by_cases c:g=hi
  ·rw [decide_eq_true c,decide_eq_false (by simpa using c)]; rfl
  ·rw [decide_eq_false c,decide_eq_true c]; rfl
 rw [e2] at q
 omega
end
section
variable {f:Int->Int} {m:Nat} (F:OneOne f m)
include F
end
section
variable {f:Int->Int} {m:Nat} (F:OneOne f m) {a b:Int} (a0:0<=a) (a1:a < (m:Int)) (b0:0<=b) (b1:b < (m:Int)) (hab:a ≠ b) (hin:b ∈ orb f a)
include F a0 a1 b0 b1 hab hin
end
section
variable {P:Program} {w:World} {K:PySem.W.Frag} {mg:Str->Option Value} {base:Heap} {f:Addr} {fd:FuncData}
theorem Zcx:∀ l:List Int,∃ ms,Firsts ms l
 | []=>⟨[],.nil,fun x=>Iff.rfl⟩
 | x :: l=>by
  obtain ⟨ms,h1,h2⟩:=Zcx l
  by_cases c:x ∈ ms
  ·refine ⟨ms,h1,fun y=>?_⟩
   rw [List.mem_cons,h2]
   exact ⟨.inr,fun z=>z.elim (fun q=>q ▸ (h2 x).mp c) id⟩
  ·refine ⟨(ms.filter fun y=>decide (y < x)) ++ x :: (ms.filter fun y=>decide (x < y)),?_,fun y=>?_⟩
   ·rw [List.pairwise_append,List.pairwise_cons]
    refine ⟨List.Pairwise.filter _ h1,⟨fun a ha=>?_,List.Pairwise.filter _ h1⟩,fun a ha b hb=>?_⟩
    ·rw [List.mem_filter,decide_eq_true_iff] at ha; exact ha.2
    ·rw [List.mem_filter,decide_eq_true_iff] at ha
     rcases List.mem_cons.mp hb with z | z
     ·rw [z]; exact ha.2
     ·rw [List.mem_filter,decide_eq_true_iff] at z; omega
   ·rw [List.mem_append,List.mem_cons,List.mem_cons,List.mem_filter,List.mem_filter,decide_eq_true_iff,decide_eq_true_iff,h2]
    constructor
    ·rintro (z | z | z)
     ·exact .inr z.1
     ·exact .inl z
     ·exact .inr z.1
    ·rintro (z | z)
     ·exact .inr (.inl z)
     ·rcases Int.lt_trichotomy y x with q | q | q
      ·exact .inl ⟨z,q⟩
      ·exact .inr (.inl q)
      ·exact .inr (.inr ⟨z,q⟩)
theorem Zfz {N:Nat} {ms:List Int} (h:Firsts ms (marksL N [])):ms=(List.range N).map fun i:Nat=>(i:Int):=by
 refine Zcy h.1 ?_ fun x=>(h.2 x).trans Iff.rfl
 rw [List.pairwise_map]
 exact List.pairwise_lt_range.imp fun h=>by omega
end
section
variable {f:Int->Int} {m:Nat} (F:OneOne f m) {a b:Int} (a0:0<=a) (a1:a < (m:Int)) (b0:0<=b) (b1:b < (m:Int)) (hout:b ∉ orb f a)
include F a0 a1 b0 b1 hout
end
section
variable {N:Nat} {ts:List (Int × Int)} {o:List (List Int)} (hW:WebOk (N:Int) ts) (hO:OrdOk (N:Int) ts o)
include hW hO
end
structure Own (N:Nat) (ts:List (Int × Int)) (S:Int->Bool):Prop where
 tie:∀ t ∈ ts,S t.1=S t.2
theorem Zjf {N:Nat} {ts:List (Int × Int)} {S:Int->Bool} (hW:WebOk (N:Int) ts) (hS:Own N ts S):∀ k,k<=ts.length->∀ p:Nat,p < N->S ((marksL N (ts.take k)).getD p 0)=S (p:Int)
 | 0,_,p,hp=>by
  rw [List.take_zero]
  show S (((List.range N).map fun i:Nat=>(i:Int)).getD p 0)=_
  rw [List.getD_eq_getElem?_getD,List.getElem?_map,List.getElem?_range hp]
  rfl
 | k + 1,hk,p,hp=>by
  have hlt:k < ts.length:=hk
  have hl:=Zbo N (ts.take k)
  have ht:=hW.tie _ (List.getElem_mem hlt)
  have ih:=Zjf hW hS k (by omega)
  rw [Zcl (List.getElem?_eq_getElem hlt),Zdc _ _ _ (by omega)]
  have s1:=ih ts[k].1.toNat (by omega)
  have s2:=ih ts[k].2.toNat (by omega)
  have st:=hS.tie _ (List.getElem_mem hlt)
  rw [show ((ts[k].1.toNat:Nat):Int)=ts[k].1 by omega] at s1
  rw [show ((ts[k].2.toNat:Nat):Int)=ts[k].2 by omega] at s2
  split
  ·rename_i c
   have sp:=ih p hp
   rw [c] at sp
   rw [<- sp]
   unfold loI hiI
   split <;> split
   all_goals first | rfl | rw [s2,s1,st] | rw [s1,s2,st]
  ·exact ih p hp
section
variable {N:Nat} {ts:List (Int × Int)} {o:List (List Int)} {S:Int->Bool} (hW:WebOk (N:Int) ts) (hO:OrdOk (N:Int) ts o) (hS:Own N ts S)
include hW hO hS
end
section
variable {P:Program} {w:World} {K:PySem.W.Frag} {mg:Str->Option Value} {base:Heap} {f:Addr} {fd:FuncData}
def OneP (N:Nat) (ts:List (Int × Int)):Prop:=∀ ms,Firsts ms (marksL N ts)->ms.length<=1
def fRef:DSp:=fun ds Post=>∃ n ts,ds=[encWeb n ts]/\WebOk n ts/\OneP n.toNat ts/\Post .non
theorem Zrz (mb:Mb mg) (C_parts_of:Callee P w K mg base 1 "parts_of" ["web"] (spN K fParts)) (F:Fun K "refuse_parts" "refuse_parts" s_refuse_parts f fd):FnOk P w K mg base CX0 2 f fd ["web"] (spD K fRef):=by
 refine F.ok sc_refuse_parts (Zb2 fun ds Post h=>by obtain ⟨_,_,rfl,_⟩:=h; rfl) (fun cdv A outer s H vs Q E hr h=>?_)
 have hu:=Zco hr
 refine ⟨_,(Zak (Zb0 (Zar Znf (Zaj (lenK K) rfl (mb "len" (by decide)) Zbj (Zaa (Zbc C_parts_of (hr.mono (by decide)) (Zaa (pv 0) Zac)) Zac)) Zae (nomark _)) Zib Za8)),Zdy (fun ds Post hf=>?_) h⟩
 obtain ⟨n,ts,rfl,hW,h1,q⟩:=hf
 refine ⟨by simp,?_⟩
 dsimp only [startD,List.tail,List.map,List.length,List.replicate]
 refine Zb4 (Za0 (Zaz (Za4 (Zab (Zcs (Zes (Zab (Zad rfl (Zah ⟨n,ts,rfl,hW,fun ms hm=>⟨_,rfl,?_⟩⟩)))))))))
 refine Zah (Zbp (Or.inl rfl) ?_)
 have:=h1 ms hm
 rw [List.length_map,show (partsL n.toNat ts ms).length=ms.length from List.length_map _]
 refine Zay (Zfa ⟨_,rfl,?_⟩)
 rw [decide_eq_false (by omega)]
 exact iteF (Za2 q)
end
section
variable {P:Program} {w:World} {K:PySem.W.Frag} {mg:Str->Option Value} {base:Heap} {f:Addr} {fd:FuncData}
def mk (N:Nat) (ts:List (Int × Int)) (p:Int):Int:=(marksL N ts).getD p.toNat 0
theorem Zl4 {N:Nat} {ts:List (Int × Int)} (hW:WebOk (N:Int) ts) {g:Int->Int} (hg:∀ t ∈ ts,g t.1=g t.2) {p:Int} (p0:0<=p) (p1:p < (N:Int)):g (mk N ts p)=g p:=by
 have:=Zjf (S:=fun x=>decide (g x=g p)) hW ⟨fun t ht=>by rw [hg t ht]⟩ ts.length (Nat.le_refl _) p.toNat (by omega)
 rw [List.take_length,show ((p.toNat:Nat):Int)=p by omega,decide_eq_true rfl] at this
 exact of_decide_eq_true this
theorem Ziv {N:Nat} {ts:List (Int × Int)} (hW:WebOk (N:Int) ts) {g:Int->Int} (hg:∀ t ∈ ts,g t.1=g t.2) {p q:Int} (p0:0<=p) (p1:p < (N:Int)) (q0:0<=q) (q1:q < (N:Int)) (h:mk N ts p=mk N ts q):g p=g q:=by
 rw [<- Zl4 hW hg p0 p1,<- Zl4 hW hg q0 q1,h]
theorem Zo4 {N:Nat} {ts:List (Int × Int)} (hW:WebOk (N:Int) ts) {t:Int × Int} (ht:t ∈ ts):mk N ts t.1=mk N ts t.2:=Znx hW ht
theorem Zmb {N:Nat} {ts:List (Int × Int)} {p:Int} (p0:0<=p) (p1:p < (N:Int)):mk N ts p ∈ marksL N ts:=Zgv (by rw [Zbo]; omega)
end
section
variable {P:Program} {w:World} {K:PySem.W.Frag} {mg:Str->Option Value} {base:Heap} {f:Addr} {fd:FuncData}
theorem Zn8 {N:Nat} {ts:List (Int × Int)} (hW:WebOk (N:Int) ts) (h:∀ k:Nat,k + 1 < N->∃ t ∈ ts,∃ j:Nat,j<=k/\(t=((j:Int),(k:Int) + 1)\/t=((k:Int) + 1,(j:Int)))):OneP N ts:=by
 have all:∀ p:Nat,p < N->mk N ts (p:Int)=mk N ts 0:=by
  intro p
  induction p using Nat.strongRecOn with
  | _ p ih=>
   intro hp
   cases p with
   | zero=>rfl
   | succ k=>
    obtain ⟨t,ht,j,hj,e⟩:=h k hp
    have m:=Zo4 hW ht
    have ek:((k + 1:Nat):Int)=(k:Int) + 1:=by omega
    rw [ek]
    rcases e with rfl | rfl
    ·exact m.symm.trans (ih j (by omega) (by omega))
    ·exact m.trans (ih j (by omega) (by omega))
 intro ms hm
 match ms,hm with
 | [],_=>exact Nat.zero_le _
 | [a],_=>exact Nat.le_refl _
 | a :: b :: r,hm=>
  exfalso
  have one:∀ x ∈ a :: b :: r,x=mk N ts 0:=fun x hx=>by
   have:=(hm.2 x).mp hx
   obtain ⟨i,hi⟩:=List.mem_iff_getElem?.mp this
   have hl:=(List.getElem?_eq_some_iff.mp hi).1
   rw [Zbo] at hl
   have:=all i hl
   unfold mk at this ⊢
   rw [Int.toNat_natCast,List.getD_eq_getElem?_getD,hi] at this
   exact this
  have hs:=hm.1
  rw [List.pairwise_cons] at hs
  have l:=hs.1 b List.mem_cons_self
  have e1:=one a List.mem_cons_self
  have e2:=one b (List.mem_cons_of_mem _ List.mem_cons_self)
  omega
end
section
variable {P:Program} {w:World} {K:PySem.W.Frag} {mg:Str->Option Value} {base:Heap} {f:Addr} {fd:FuncData}
def intD:D->Int
 | .int i=>i
 | _=>0
theorem Zok (r:List Int):(r.map D.int).map intD=r:=by
 rw [List.map_map]
 conv=>rhs; rw [<- List.map_id r]
 rfl
end
section
variable {P:Program} {w:World} {K:PySem.W.Frag} {mg:Str->Option Value} {base:Heap} {f:Addr} {fd:FuncData}
def fRank:DSp:=fun ds Post=>∃ (N:Nat) (ts:List (Int × Int)),ds=[encWeb (N:Int) ts]/\WebOk (N:Int) ts/\∀ ms,Firsts ms (marksL N ts)->Post (.int ((ts.length:Int) - (N:Int) + (ms.length:Int)))
theorem Zqx (mb:Mb mg) (C_parts_of:Callee P w K mg base 1 "parts_of" ["web"] (spN K fParts)) (F:Fun K "rank_of" "rank_of" s_rank_of f fd):FnOk P w K mg base CX0 2 f fd ["web"] (spD K fRank):=by
 refine F.ok sc_rank_of (Zb2 fun ds Post h=>by obtain ⟨_,_,rfl,_⟩:=h; rfl) (fun cdv A outer s H vs Q E hr h=>?_)
 have hu:=Zco hr
 refine ⟨_,(Zaf (Zc0 (pv 0) (gtupK (n:=2) K rfl (Zas (Zam (i:=1) sc_rank_of.nd rfl (Or.inl rfl)) (Zas (Zam (i:=2) sc_rank_of.nd rfl (Or.inl rfl)) Zbr)))) (Zak (Za9 (Zan (addK K) (Zan Zbw (Zaj (lenK K) rfl (mb "len" (by decide)) Zbj (Zaa (pv 2) Zac)) (pv 1)) (Zaj (lenK K) rfl (mb "len" (by decide)) Zbj (Zaa (Zbc C_parts_of (hr.mono (by decide)) (Zaa (pv 0) Zac)) Zac)))))),Zdy (fun ds Post hf=>?_) h⟩
 obtain ⟨N,ts,rfl,hW,q⟩:=hf
 refine ⟨by simp,?_⟩
 dsimp only [startD,List.tail,List.map,List.length,List.replicate]
 refine Zau (Zf2 (Zad rfl (Zdd rfl (Zba (Zbd (Zba (Zbd (Zck ?_))))))))
 refine Zav (Zaz (Zaz (Za4 (Zab (Zad rfl (Zah (Zbp (Or.inr rfl) (Zad rfl (Zkh (Za4 (Zab (Zcs (Zes (Zab (Zad rfl (Zah ⟨_,ts,rfl,hW,fun ms hm=>⟨_,rfl,?_⟩⟩))))))))))))))))
 rw [Int.toNat_natCast] at hm ⊢
 refine Zah (Zbp (Or.inl rfl) (Zcc ?_))
 rw [List.length_map,List.length_map,show (partsL N ts ms).length=ms.length from List.length_map _]
 exact q ms hm
end
section
variable {P:Program} {w:World} {K:PySem.W.Frag} {mg:Str->Option Value} {base:Heap} {f:Addr} {fd:FuncData}
def fLack:DSp:=fun ds Post=>∃ n ts,∃ c:Int,ds=[encWeb n ts,.int c]/\WebOk n ts/\∀ ms,Firsts ms (marksL n.toNat ts)->Post (.int (2 * (ms.length:Int) - n + (ts.length:Int) - c))
theorem Zk0 (mb:Mb mg) (C_parts_of:Callee P w K mg base 1 "parts_of" ["web"] (spN K fParts)) (F:Fun K "lacking" "lacking" s_lacking f fd):FnOk P w K mg base CX0 2 f fd ["web","faces_many"] (spD K fLack):=by
 refine F.ok sc_lacking (Zb2 fun ds Post h=>by obtain ⟨_,_,_,rfl,_⟩:=h; rfl) (fun cdv A outer s H vs Q E hr h=>?_)
 have hu:=Zco hr
 refine ⟨_,(Zaf (Zc0 (pv 0) (gtupK (n:=2) K rfl (Zas (Zam (i:=2) sc_lacking.nd rfl (Or.inl rfl)) (Zas (Zam (i:=3) sc_lacking.nd rfl (Or.inl rfl)) Zbr)))) (Zak (Za9 (Zan Zbw (Zan (addK K) (Zan Zbw (Zan Zd6 Zae (Zaj (lenK K) rfl (mb "len" (by decide)) Zbj (Zaa (Zbc C_parts_of (hr.mono (by decide)) (Zaa (pv 0) Zac)) Zac))) (pv 2)) (Zaj (lenK K) rfl (mb "len" (by decide)) Zbj (Zaa (pv 3) Zac))) (pv 1))))),Zdy (fun ds Post hf=>?_) h⟩
 obtain ⟨n,ts,c,rfl,hW,q⟩:=hf
 refine ⟨by simp,?_⟩
 dsimp only [startD,List.tail,List.map,List.length,List.replicate]
 have hn0:=hW.lo
 have hn1:=hW.hi
 have hts:=hW.len
 have hl:=Zbo n.toNat ts
 refine Zau (Zf2 (Zad rfl (Zdd rfl (Zba (Zbd (Zba (Zbd (Zck ?_))))))))
 refine Zav (Zaz (Zaz (Zaz (Zaz (Zay (Za4 (Zab (Zcs (Zes (Zab (Zad rfl (Zah ⟨n,ts,rfl,hW,fun ms hm=>⟨_,rfl,?_⟩⟩))))))))))))
 have hml:=hm.len
 refine Zah (Zbp (Or.inl rfl) ?_)
 rw [List.length_map,show (partsL n.toNat ts ms).length=ms.length from List.length_map _]
 refine jr_I (Or.inl ⟨by omega,by omega⟩) (Zad rfl (Zkh (Za4 (Zab (Zad rfl (Zah (Zbp (Or.inr rfl) ?_)))))))
 rw [List.length_map]
 refine Zcc (Zad rfl (Zkh ?_))
 exact q ms hm
end
section
variable {P:Program} {w:World} {K:PySem.W.Frag} {mg:Str->Option Value} {base:Heap} {f:Addr} {fd:FuncData}
def isIntX:D->Bool
 | .int _=>true
 | _=>false
def fIsWX:DSp:=fun ds Post=>∃ d T,ds=[d]/\tyD d=some T/\Post (.bl (isIntX d))
theorem Zpv (mb:Mb mg) (F:Fun K "is_whole" "is_whole" s_is_whole f fd):FnOk P w K mg base CX0 1 f fd ["thing"] (spD K fIsWX):=by
 refine F.ok sc_is_whole (Zb2 fun ds Post h=>by obtain ⟨_,_,rfl,_⟩:=h; rfl) (fun cdv A outer s H vs Q E hr h=>?_)
 have hu:=Zco hr
 refine ⟨_,(Zak (Za9 (Zh5 (Zaj (isiUK K) rfl (mb "isinstance" (by decide)) Zbe (Zaa (pv 0) (Zaa (Zc5 rfl (mb "int" (by decide)) Zpg (show RelV (.ty "int") _ from rfl)) Zac))) (Zhy (Zox (Zaj (isiUK K) rfl (mb "isinstance" (by decide)) Zbe (Zaa (pv 0) (Zaa (Zc5 rfl (mb "bool" (by decide)) Zme (show RelV (.ty "bool") _ from rfl)) Zac)))))))),Zdy (fun ds Post hf=>?_) h⟩
 obtain ⟨d,T,rfl,hT,q⟩:=hf
 refine ⟨by simp,?_⟩
 dsimp only [startD,List.tail,List.map,List.length]
 cases d with
 | int i=>
  refine Zav (Zbv (Za4 (Zab (Zad rfl (Zab (Zcp (Zah (Zbf (T:="int") (b:=true) rfl (fun _=>by rfl) ⟨_,rfl,?_⟩))))))))
  rw [if_pos rfl]
  exact Zfs (Za4 (Zab (Zad rfl (Zab (Zcp (Zah (Zbf (T:="int") (b:=false) rfl (fun _=>by rfl) ⟨_,rfl,q⟩)))))))
 | bl b=>
  refine Zav (Zbv (Za4 (Zab (Zad rfl (Zab (Zcp (Zah (Zbf (T:="bool") (b:=true) rfl (fun _=>by rfl) ⟨_,rfl,?_⟩))))))))
  rw [if_pos rfl]
  exact Zfs (Za4 (Zab (Zad rfl (Zab (Zcp (Zah (Zbf (T:="bool") (b:=true) rfl (fun _=>by rfl) ⟨_,rfl,q⟩)))))))
 | non=>exact Zav (Zbv (Za4 (Zab (Zad rfl (Zab (Zcp (Zah (Zbf (T:="NoneType") (b:=false) rfl (fun _=>by rfl) ⟨_,rfl,iteF q⟩))))))))
 | str x=>exact Zav (Zbv (Za4 (Zab (Zad rfl (Zab (Zcp (Zah (Zbf (T:="str") (b:=false) rfl (fun _=>by rfl) ⟨_,rfl,iteF q⟩))))))))
 | tup l=>exact Zav (Zbv (Za4 (Zab (Zad rfl (Zab (Zcp (Zah (Zbf (T:="tuple") (b:=false) rfl (fun _=>by rfl) ⟨_,rfl,iteF q⟩))))))))
 | lst l=>exact Zav (Zbv (Za4 (Zab (Zad rfl (Zab (Zcp (Zah (Zbf (T:="list") (b:=false) rfl (fun _=>by rfl) ⟨_,rfl,iteF q⟩))))))))
 | dct k l=>exact Zav (Zbv (Za4 (Zab (Zad rfl (Zab (Zcp (Zah (Zbf (T:="dict") (b:=false) rfl (fun _=>by rfl) ⟨_,rfl,iteF q⟩))))))))
 | _=>cases hT
end
section
variable {P:Program} {w:World} {K:PySem.W.Frag} {mg:Str->Option Value} {base:Heap} {f:Addr} {fd:FuncData}
theorem Zol {n:Int} {ts:List (Int × Int)} (hW:WebOk n ts) (k:Nat):WebOk n (ts.take k):=⟨hW.lo,hW.hi,Nat.le_trans (by rw [List.length_take]; omega) hW.len,fun t ht=>hW.tie t (List.mem_of_mem_take ht)⟩
theorem Zgd {n:Int} {ts:List (Int × Int)} (hW:WebOk n ts) (k:Nat):WebOk n (ts.eraseIdx k):=⟨hW.lo,hW.hi,Nat.le_trans (List.length_eraseIdx_le ..) hW.len,fun t ht=>hW.tie t (List.mem_of_mem_eraseIdx ht)⟩
theorem spare {N:Nat} {ts:List (Int × Int)} (hW:WebOk (N:Int) ts) (h1:OneP N ts) (hl:N<=ts.length):∃ k,∃ hk:k < ts.length,mk N (ts.eraseIdx k) ts[k].1=mk N (ts.eraseIdx k) ts[k].2:=by
 have hN:1<=N:=by have:=hW.lo; omega
 have ex:∃ k,∃ hk:k < ts.length,mk N (ts.take k) ts[k].1=mk N (ts.take k) ts[k].2:=by
  refine Classical.byContradiction fun no=>?_
  have no:∀ k (hk:k < ts.length),mk N (ts.take k) ts[k].1 ≠ mk N (ts.take k) ts[k].2:=fun k hk z=>no ⟨k,hk,z⟩
  have cnt:∀ k,k<=ts.length->∀ ms,Firsts ms (marksL N (ts.take k))->ms.length + k=N:=by
   intro k
   induction k with
   | zero=>
    intro _ ms hm
    rw [List.take_zero] at hm
    rw [Zfz hm,List.length_map,List.length_range]; omega
   | succ k ih=>
    intro hk ms hm
    obtain ⟨m0,h0⟩:=Zcx (marksL N (ts.take k))
    have e0:=ih (by omega) m0 h0
    have hk:k < ts.length:=hk
    have r:=hW.tie ts[k] (List.getElem_mem hk)
    rw [Zcl (List.getElem?_eq_getElem hk)] at hm
    have:=(Zgl (t:=ts[k]) (Zbo N (ts.take k)) (by omega) (by omega) (no k hk)).count h0 hm
    omega
  obtain ⟨ms,hm⟩:=Zcx (marksL N ts)
  have e:=cnt ts.length (Nat.le_refl _) ms (by rw [List.take_length]; exact hm)
  have:mk N ts 0 ∈ ms:=(hm.2 _).mpr (Zmb (Int.le_refl _) (by omega))
  have:=List.length_pos_of_mem this
  omega
 obtain ⟨k,hk,e⟩:=ex
 have r:=hW.tie ts[k] (List.getElem_mem hk)
 refine ⟨k,hk,Ziv (Zol hW k) (g:=mk N (ts.eraseIdx k)) (fun t ht=>Zo4 (Zgd hW k) ?_) r.1 r.2.1 r.2.2.1 r.2.2.2 e⟩
 rw [List.eraseIdx_eq_take_drop_succ]; exact List.mem_append_left _ ht
structure Hts (N:Nat) (ts:List (Int × Int)) (k:Nat) (g:Int) (r:List Int):Prop where
 len:r.length=N
 a:∀ t,ts[k]? = some t->r.getD t.1.toNat 0=0
 b:∀ t,ts[k]? = some t->g - 1<=r.getD t.2.toNat 0
 flat:∀ t ∈ ts.eraseIdx k,r.getD t.1.toNat 0 - r.getD t.2.toNat 0<=1/\r.getD t.2.toNat 0 - r.getD t.1.toNat 0<=1
theorem Zsa {N:Nat} {ts:List (Int × Int)} {k:Nat} {g:Int} {r:List Int} (hW:WebOk (N:Int) ts) (hk:k < ts.length) (hm:mk N (ts.eraseIdx k) ts[k].1=mk N (ts.eraseIdx k) ts[k].2) (H:Hts N ts k g r):g<=(N:Int):=by
 have rt:=hW.tie ts[k] (List.getElem_mem hk)
 have ha:=H.a _ (List.getElem?_eq_getElem hk)
 have hb:=H.b _ (List.getElem?_eq_getElem hk)
 have all:∀ v:Nat,(v:Int) < g->(v:Int) ∈ r:=by
  intro v hv
  by_cases z:v=0
  ·subst z
   have:r.getD ts[k].1.toNat 0 ∈ r:=Zgv (by rw [H.len]; omega)
   rw [ha] at this; exact this
  refine Classical.byContradiction fun no=>?_
  have cl:∀ t ∈ ts.eraseIdx k,(if r.getD t.1.toNat 0 < (v:Int) then (1:Int) else 0)=if r.getD t.2.toNat 0 < (v:Int) then 1 else 0:=fun t ht=>by
   have q:=H.flat t ht
   have w:=hW.tie t (List.mem_of_mem_eraseIdx ht)
   have n1:r.getD t.1.toNat 0 ≠ (v:Int):=fun e=>no (e ▸ Zgv (by rw [H.len]; omega))
   have n2:r.getD t.2.toNat 0 ≠ (v:Int):=fun e=>no (e ▸ Zgv (by rw [H.len]; omega))
   split <;> split <;> omega
  have:=Ziv (Zgd hW k) (g:=fun p=>if r.getD p.toNat 0 < (v:Int) then (1:Int) else 0) cl rt.1 rt.2.1 rt.2.2.1 rt.2.2.2 hm
  have h1:r.getD ts[k].1.toNat 0 < (v:Int):=by rw [ha]; omega
  have h2:¬ r.getD ts[k].2.toNat 0 < (v:Int):=by omega
  rw [if_pos h1,if_neg h2] at this
  omega
 have nd:((List.range g.toNat).map fun i:Nat=>(i:Int)).Nodup:=List.Pairwise.map _ (fun a b h=>by omega) List.nodup_range
 have:=Zdg (m:=r) nd fun x hx=>by
  obtain ⟨v,hv,rfl⟩:=List.mem_map.mp hx
  exact all v (by have:=List.mem_range.mp hv; omega)
 rw [List.length_map,List.length_range,H.len] at this
 omega
end
structure Stp (N:Nat) (a:Int) (ws:List (Int × Int)) (s:Int) (l:List (Int × Int)):Prop where
 nd:(l.map (·.1)).Nodup
 rng:∀ x ∈ l,0<=x.1/\x.1 < (N:Int)/\0<=x.2/\x.2 < s
 start:(a,0) ∈ l
 under:∀ x ∈ l,∀ v,0<=v->v<=x.2->∃ y ∈ l,y.2=v
 shut:∀ x ∈ l,x.2 < s - 1->∀ w ∈ ws,w.1=x.1->∃ y ∈ l,y.1=w.2/\y.2<=x.2 + 1
theorem Zj3 {l:List (Int × Int)} (nd:(l.map (·.1)).Nodup) {c u v:Int} (h1:(c,u) ∈ l) (h2:(c,v) ∈ l):u=v:=by
 induction l with
 | nil=>cases h1
 | cons x t ih=>
  rw [List.map_cons,List.nodup_cons] at nd
  rcases List.mem_cons.mp h1 with e1 | e1 <;> rcases List.mem_cons.mp h2 with e2 | e2
  ·rw [<- e1] at e2; exact (Prod.mk.inj e2).2.symm
  ·exfalso; apply nd.1; rw [<- e1]; exact List.mem_map.mpr ⟨_,e2,rfl⟩
  ·exfalso; apply nd.1; rw [<- e2]; exact List.mem_map.mpr ⟨_,e1,rfl⟩
  ·exact ih nd.2 e1 e2
theorem Zql {N:Nat} {a:Int} (ws:List (Int × Int)) (a0:0<=a) (a1:a < (N:Int)):Stp N a ws 1 [(a,0)] where
 nd:=by simp
 rng:=fun x hx=>by rw [List.mem_singleton.mp hx]; exact ⟨a0,a1,Int.le_refl 0,(by decide:(0:Int) < 1)⟩
 start:=List.mem_singleton.mpr rfl
 under:=fun x hx v v0 v1=>⟨_,List.mem_singleton.mpr rfl,by rw [List.mem_singleton.mp hx] at v1; have v1:v<=0:=v1; show (0:Int)=v; omega⟩
 shut:=fun x hx h=>by rw [List.mem_singleton.mp hx] at h; exact absurd h (show ¬ (0:Int) < 1 - 1 by decide)
structure StpI (N:Nat) (a:Int) (ws:List (Int × Int)) (s:Int) (i:Nat) (l:List (Int × Int)):Prop where
 nd:(l.map (·.1)).Nodup
 rng:∀ x ∈ l,0<=x.1/\x.1 < (N:Int)/\0<=x.2/\x.2 < s + 1
 start:(a,0) ∈ l
 under:∀ x ∈ l,∀ v,0<=v->v<=x.2->∃ y ∈ l,y.2=v
 shut:∀ x ∈ l,x.2 < s - 1->∀ w ∈ ws,w.1=x.1->∃ y ∈ l,y.1=w.2/\y.2<=x.2 + 1
 done:∀ x ∈ l,x.2=s - 1->∀ j w,j < i->ws[j]? = some w->w.1=x.1->∃ y ∈ l,y.1=w.2/\y.2<=x.2 + 1
section
variable {N:Nat} {a:Int} {ws:List (Int × Int)} {s:Int} {i:Nat} {l:List (Int × Int)}
theorem Stp.begin (h:Stp N a ws s l):StpI N a ws s 0 l:=⟨h.nd,fun x hx=>by have:=h.rng x hx; omega,h.start,h.under,h.shut,fun _ _ _ j _ hj=>absurd hj (Nat.not_lt_zero j)⟩
theorem StpI.close (h:StpI N a ws s ws.length l):Stp N a ws (s + 1) l:=⟨h.nd,h.rng,h.start,h.under,fun x hx hs w hw e=>by
 by_cases c:x.2 < s - 1
 ·exact h.shut x hx c w hw e
 ·obtain ⟨j,hj⟩:=List.mem_iff_getElem?.mp hw
  exact h.done x hx (by omega) j w (List.getElem?_eq_some_iff.mp hj).1 hj e⟩
theorem StpI.skip {w:Int × Int} (h:StpI N a ws s i l) (hw:ws[i]? = some w) (c:(∀ x ∈ l,x.1=w.1->x.2 ≠ s - 1)\/w.2 ∈ l.map (·.1)):StpI N a ws s (i + 1) l:=⟨h.nd,h.rng,h.start,h.under,h.shut,fun x hx hs j w' hj hw' e=>by
 by_cases z:j < i
 ·exact h.done x hx hs j w' z hw' e
 ·have:j=i:=by omega
  subst this
  rw [hw] at hw'; cases hw'
  rcases c with c | c
  ·exact absurd hs (c x hx e.symm)
  ·obtain ⟨y,hy,ey⟩:=List.mem_map.mp c
   exact ⟨y,hy,ey,by have:=(h.rng y hy).2.2.2; omega⟩⟩
theorem StpI.more {w x0:Int × Int} (h:StpI N a ws s i l) (hw:ws[i]? = some w) (w0:0<=w.2) (w1:w.2 < (N:Int)) (hx0:x0 ∈ l) (e0:x0.2=s - 1) (n:w.2 ∉ l.map (·.1)):StpI N a ws s (i + 1) (l ++ [(w.2,s)]):=by
 have inl:∀ {y},y ∈ l->y ∈ l ++ [(w.2,s)]:=fun hy=>List.mem_append_left _ hy
 have new:(w.2,s) ∈ l ++ [(w.2,s)]:=List.mem_append_right _ (List.mem_singleton.mpr rfl)
 have s0:=h.rng x0 hx0
 refine ⟨?_,fun x hx=>?_,inl h.start,fun x hx v v0 v1=>?_,fun x hx hs w' hw' e=>?_,fun x hx hs j w' hj hw' e=>?_⟩
 ·rw [List.map_append,List.nodup_append]
  refine ⟨h.nd,by simp,fun x hx y hy=>?_⟩
  rw [List.mem_singleton.mp hy]; intro z; subst z; exact n hx
 ·rcases List.mem_append.mp hx with hx | hx
  ·exact h.rng x hx
  ·rw [List.mem_singleton.mp hx]; exact ⟨w0,w1,by show 0<=s; omega,by show s < s + 1; omega⟩
 ·rcases List.mem_append.mp hx with hx | hx
  ·obtain ⟨y,hy,e⟩:=h.under x hx v v0 v1
   exact ⟨y,inl hy,e⟩
  ·rw [List.mem_singleton.mp hx] at v1
   have v1:v<=s:=v1
   by_cases c:v=s
   ·exact ⟨_,new,c.symm⟩
   ·obtain ⟨y,hy,e⟩:=h.under x0 hx0 v v0 (by omega)
    exact ⟨y,inl hy,e⟩
 ·rcases List.mem_append.mp hx with hx | hx
  ·obtain ⟨y,hy,e⟩:=h.shut x hx hs w' hw' e
   exact ⟨y,inl hy,e⟩
  ·rw [List.mem_singleton.mp hx] at hs
   have hs:s < s - 1:=hs
   omega
 ·rcases List.mem_append.mp hx with hx | hx
  ·by_cases z:j < i
   ·obtain ⟨y,hy,e⟩:=h.done x hx hs j w' z hw' e
    exact ⟨y,inl hy,e⟩
   ·have:j=i:=by omega
    subst this
    rw [hw] at hw'; cases hw'
    exact ⟨_,new,rfl,by show s<=x.2 + 1; omega⟩
  ·rw [List.mem_singleton.mp hx] at hs
   have hs:s=s - 1:=hs
   omega
end
theorem Stp.all {N:Nat} {a:Int} {ws:List (Int × Int)} {l:List (Int × Int)} (h:Stp N a ws (N:Int) l) (hw:∀ w ∈ ws,0<=w.2/\w.2 < (N:Int)):∀ x ∈ l,∀ w ∈ ws,w.1=x.1->∃ y ∈ l,y.1=w.2/\y.2<=x.2 + 1:=by
 intro x hx w hww e
 have rx:=h.rng x hx
 by_cases c:x.2 < (N:Int) - 1
 ·exact h.shut x hx c w hww e
 -- all places stand in it
 have r:=hw w hww
 have many:N<=l.length:=by
  have nd:((List.range N).map fun i:Nat=>(i:Int)).Nodup:=List.Pairwise.map _ (fun a b h=>by omega) List.nodup_range
  have:=Zdg (m:=l.map (·.2)) nd fun v hv=>by
   obtain ⟨i,hi,rfl⟩:=List.mem_map.mp hv
   have hi:=List.mem_range.mp hi
   obtain ⟨y,hy,ey⟩:=h.under x hx (i:Int) (by omega) (by omega)
   exact List.mem_map.mpr ⟨y,hy,ey⟩
  rw [List.length_map,List.length_range,List.length_map] at this
  exact this
 have:w.2 ∈ l.map (·.1):=by
  refine Classical.byContradiction fun z=>?_
  have:=Zdg (l:=w.2 :: l.map (·.1)) (m:=(List.range N).map fun i:Nat=>(i:Int)) (List.nodup_cons.mpr ⟨z,h.nd⟩) fun v hv=>by
   have:0<=v/\v < (N:Int):=by
    rcases List.mem_cons.mp hv with e | hv
    ·rw [e]; exact r
    ·obtain ⟨y,hy,rfl⟩:=List.mem_map.mp hv
     have:=h.rng y hy
     exact ⟨this.1,this.2.1⟩
   exact List.mem_map.mpr ⟨v.toNat,List.mem_range.mpr (by omega),by omega⟩
  rw [List.length_cons,List.length_map,List.length_map,List.length_range] at this
  omega
 obtain ⟨y,hy,ey⟩:=List.mem_map.mp this
 exact ⟨y,hy,ey,by have:=(h.rng y hy).2.2.2; omega⟩
def hgt (l:List (Int × Int)) (top:Int) (p:Int):Int:=match l.find? fun x=>x.1 == p with
 | some x=>if x.2 < top then x.2 else top
 | none=>top
theorem Zlq {l:List (Int × Int)} (nd:(l.map (·.1)).Nodup) {x:Int × Int} (h:x ∈ l):(l.find? fun y=>y.1 == x.1)=some x:=by
 induction l with
 | nil=>cases h
 | cons y t ih=>
  rw [List.map_cons,List.nodup_cons] at nd
  rcases List.mem_cons.mp h with e | e
  ·subst e; rw [List.find?_cons_of_pos (by simp)]
  ·have:¬ (y.1 == x.1)=true:=fun z=>nd.1 (by rw [eq_of_beq z]; exact List.mem_map.mpr ⟨x,e,rfl⟩)
   rw [List.find?_cons,Bool.eq_false_iff.mpr this]
   exact ih nd.2 e
theorem Znk {l:List (Int × Int)} {p:Int} (h:p ∉ l.map (·.1)):(l.find? fun y=>y.1 == p)=none:=by
 rw [List.find?_eq_none]
 intro x hx z
 exact h (List.mem_map.mpr ⟨x,hx,eq_of_beq z⟩)
theorem Zj8 {l:List (Int × Int)} (nd:(l.map (·.1)).Nodup) {x:Int × Int} (h:x ∈ l) (top:Int):hgt l top x.1=if x.2 < top then x.2 else top:=by
 unfold hgt; rw [Zlq nd h]
theorem Zim {l:List (Int × Int)} {p:Int} (h:p ∉ l.map (·.1)) (top:Int):hgt l top p=top:=by
 unfold hgt; rw [Znk h]
def waysB (us:List (Int × Int)):List (Int × Int):=us ++ us.map fun t=>(t.2,t.1)
section
variable {N:Nat} {ts:List (Int × Int)} {k:Nat} {l:List (Int × Int)} (hW:WebOk (N:Int) ts) (hk:k < ts.length)
include hW in
theorem Zg7:∀ w ∈ waysB (ts.eraseIdx k),(0<=w.1/\w.1 < (N:Int))/\0<=w.2/\w.2 < (N:Int):=fun w hw=>by
 rcases List.mem_append.mp hw with h | h
 ·have:=hW.tie w (List.mem_of_mem_eraseIdx h); exact ⟨⟨this.1,this.2.1⟩,this.2.2⟩
 ·obtain ⟨t,ht,rfl⟩:=List.mem_map.mp h
  have:=hW.tie t (List.mem_of_mem_eraseIdx ht); exact ⟨this.2.2,this.1,this.2.1⟩
include hW in
theorem Zsn {top:Int} (h0:0<=top) (L:Stp N ts[k].1 (waysB (ts.eraseIdx k)) (N:Int) l) (hb:∀ v,(ts[k].2,v) ∈ l->top<=v):Hts N ts k (top + 1) ((List.range N).map fun p:Nat=>hgt l top (p:Int)):=by
 have get:∀ p:Int,0<=p->p < (N:Int)->((List.range N).map fun p:Nat=>hgt l top (p:Int)).getD p.toNat 0=hgt l top p:=fun p p0 p1=>by
  rw [List.getD_eq_getElem?_getD,List.getElem?_map,List.getElem?_range (by omega)]
  show hgt l top ((p.toNat:Nat):Int)=_
  rw [Int.toNat_of_nonneg p0]
 have rk:=hW.tie ts[k] (List.getElem_mem hk)
 refine ⟨by rw [List.length_map,List.length_range],fun t ht=>?_,fun t ht=>?_,fun t ht=>?_⟩
 ·rw [List.getElem?_eq_getElem hk] at ht; cases ht
  rw [get _ rk.1 rk.2.1,Zj8 L.nd L.start top]
  show (if (0:Int) < top then (0:Int) else top)=0
  split <;> omega
 ·rw [List.getElem?_eq_getElem hk] at ht; cases ht
  rw [get _ rk.2.2.1 rk.2.2.2]
  by_cases c:ts[k].2 ∈ l.map (·.1)
  ·obtain ⟨x,hx,ex⟩:=List.mem_map.mp c
   have:=hb x.2 (by rw [<- ex]; exact hx)
   rw [<- ex,Zj8 L.nd hx top]
   split <;> omega
  ·rw [Zim c]; omega
 ·have r:=hW.tie t (List.mem_of_mem_eraseIdx ht)
  rw [get _ r.1 r.2.1,get _ r.2.2.1 r.2.2.2]
  have A:=L.all fun w hw=>(Zg7 hW w hw).2
  have m1:t ∈ waysB (ts.eraseIdx k):=List.mem_append_left _ ht
  have m2:(t.2,t.1) ∈ waysB (ts.eraseIdx k):=List.mem_append_right _ (List.mem_map.mpr ⟨t,ht,rfl⟩)
  by_cases c:t.1 ∈ l.map (·.1)
  ·obtain ⟨x,hx,ex⟩:=List.mem_map.mp c
   obtain ⟨y,hy,ey,ly⟩:=A x hx t m1 ex.symm
   obtain ⟨z,hz,ez,lz⟩:=A y hy (t.2,t.1) m2 ey.symm
   have ez:z.1=t.1:=ez
   have:z.2=x.2:=Zj3 L.nd (c:=t.1) (by rw [<- ez]; exact hz) (by rw [<- ex]; exact hx)
   rw [<- ex,<- ey,Zj8 L.nd hx,Zj8 L.nd hy]
   split <;> split <;> omega
  ·by_cases c2:t.2 ∈ l.map (·.1)
   ·obtain ⟨y,hy,ey⟩:=List.mem_map.mp c2
    obtain ⟨z,hz,ez,lz⟩:=A y hy (t.2,t.1) m2 ey.symm
    exact absurd (List.mem_map.mpr ⟨z,hz,ez⟩) c
   ·rw [Zim c,Zim c2]; omega
include hW in
theorem Zmc (L:Stp N ts[k].1 (waysB (ts.eraseIdx k)) (N:Int) l) (hm:mk N (ts.eraseIdx k) ts[k].1=mk N (ts.eraseIdx k) ts[k].2):ts[k].2 ∈ l.map (·.1):=by
 have rk:=hW.tie ts[k] (List.getElem_mem hk)
 have A:=L.all fun w hw=>(Zg7 hW w hw).2
 have:=Ziv (Zgd hW k) (g:=fun p=>if p ∈ l.map (·.1) then (1:Int) else 0) (fun t ht=>by
  have m1:t ∈ waysB (ts.eraseIdx k):=List.mem_append_left _ ht
  have m2:(t.2,t.1) ∈ waysB (ts.eraseIdx k):=List.mem_append_right _ (List.mem_map.mpr ⟨t,ht,rfl⟩)
  have i1:t.1 ∈ l.map (·.1)->t.2 ∈ l.map (·.1):=fun c=>by
   obtain ⟨x,hx,ex⟩:=List.mem_map.mp c
   obtain ⟨y,hy,ey,_⟩:=A x hx t m1 ex.symm
   exact List.mem_map.mpr ⟨y,hy,ey⟩
  have i2:t.2 ∈ l.map (·.1)->t.1 ∈ l.map (·.1):=fun c=>by
   obtain ⟨x,hx,ex⟩:=List.mem_map.mp c
   obtain ⟨y,hy,ey,_⟩:=A x hx (t.2,t.1) m2 ex.symm
   exact List.mem_map.mpr ⟨y,hy,ey⟩
  by_cases c:t.1 ∈ l.map (·.1)
  ·show (if t.1 ∈ _ then (1:Int) else 0)=if t.2 ∈ _ then 1 else 0
   rw [if_pos c,if_pos (i1 c)]
  ·show (if t.1 ∈ _ then (1:Int) else 0)=if t.2 ∈ _ then 1 else 0
   rw [if_neg c,if_neg fun z=>c (i2 z)]) rk.1 rk.2.1 rk.2.2.1 rk.2.2.2 hm
 have s:ts[k].1 ∈ l.map (·.1):=List.mem_map.mpr ⟨_,L.start,rfl⟩
 refine Classical.byContradiction fun z=>?_
 have this:(if ts[k].1 ∈ l.map (·.1) then (1:Int) else 0)=if ts[k].2 ∈ l.map (·.1) then 1 else 0:=this
 rw [if_pos s,if_neg z] at this
 omega
end
def fOth:DSp:=fun ds Post=>∃ n ts,∃ k:Nat,ds=[encWeb n ts,.int k]/\WebOk n ts/\k < ts.length/\Post (.tup ((ts.eraseIdx k).map encTie))
def fStp:OSp:=fun ds Post=>∃ (N:Nat) (ts:List (Int × Int)) (k:Nat) (hk:k < ts.length),ds=[encWeb (N:Int) ts,.int k]/\WebOk (N:Int) ts/\∀ l,Stp N ts[k].1 (waysB (ts.eraseIdx k)) (N:Int) l->Post (.dct (l.map encPair))
def swD:D->D
 | .tup [a,b]=>.tup [b,a]
 | d=>d
theorem Zq6 (us:List (Int × Int)):((us.map encTie).filter fun _=>true).map swD=(us.map fun t=>(t.2,t.1)).map encTie:=by
 rw [List.filter_eq_self.mpr (by simp),List.map_map,List.map_map]; rfl
theorem Zjs {l:List (Int × Int)} {x:Int} (h:x ∉ l.map (·.1)):valD (l.map encPair) (.inl x)=none:=by
 unfold valD
 rw [List.find?_eq_none.mpr,Option.map_none]
 intro y hy z
 obtain ⟨p,hp,rfl⟩:=List.mem_map.mp hy
 have z:Sum.inl p.1=(Sum.inl x:Key):=by simpa [encPair] using z
 exact h (List.mem_map.mpr ⟨p,hp,Sum.inl.inj z⟩)
theorem Zqy {N:Nat} {a s:Int} {ws l:List (Int × Int)} {i:Nat} (h:StpI N a ws s i l):l.length<=N:=by
 have:=Zdg (m:=(List.range N).map fun i:Nat=>(i:Int)) h.nd fun v hv=>by
  obtain ⟨y,hy,rfl⟩:=List.mem_map.mp hv
  have:=h.rng y hy
  exact List.mem_map.mpr ⟨y.1.toNat,List.mem_range.mpr (by omega),by omega⟩
 rw [List.length_map,List.length_map,List.length_range] at this
 exact this
section
variable {P:Program} {w:World} {K:PySem.W.Frag} {mg:Str->Option Value} {base:Heap} {f:Addr} {fd:FuncData}
theorem Zr4 (mb:Mb mg) (F:Fun K "other_ties" "other_ties" s_other_ties f fd):FnOk P w K mg base CX0 1 f fd ["web","tie"] (spD K fOth):=by
 refine F.ok sc_other_ties (Zb2 fun ds Post h=>by obtain ⟨_,_,_,rfl,_⟩:=h; rfl) (fun cdv A outer s H vs Q E hr h=>?_)
 have hu:=Zco hr
 refine ⟨_,(Zak (Za9 (Zan (addK K) (Zbs (slK K) (Zap (ixK K hu) (pv 0) Zae (fun _ _=>rfl)) Zci (Zby (pv 1))) (Zbs (slK K) (Zap (ixK K hu) (pv 0) Zae (fun _ _=>rfl)) (Zby (Zan (addK K) (pv 1) Zae)) Zci)))),Zdy (fun ds Post hf=>?_) h⟩
 obtain ⟨n,ts,k,rfl,hW,hk,q⟩:=hf
 refine ⟨by simp,?_⟩
 dsimp only [startD,List.tail,List.map,List.length]
 have hl:=hW.len
 refine Zav (Zaz (Zl2 (Za1 (Zaw (d:=.tup (ts.map encTie)) (Zag rfl) Zal rfl) (Zfx (Zfw (Zad rfl ⟨_,rfl,.tup ((ts.map encTie).take k),?_,?_⟩))))))
 ·show some (D.tup (cutD (ts.map encTie) none (some (k:Int))))=_
  rw [Zoy _ (by rw [List.length_map]; omega)]
 refine Zl2 (Za1 (Zaw (d:=.tup (ts.map encTie)) (Zag rfl) Zal rfl) (Zfw (Za1 (Za7 (Zag rfl) Zal Zbt) ⟨_,rfl,Zfx ⟨.tup ((ts.map encTie).drop (k + 1)),?_,Zih ?_ ?_⟩⟩)))
 ·show some (D.tup (cutD (ts.map encTie) (some ((k:Int) + 1)) none))=_
  rw [show (k:Int) + 1=((k + 1:Nat):Int) by omega,Zje _ (by rw [List.length_map]; omega)]
 ·rw [List.length_take,List.length_drop,List.length_map]; exact Nat.le_of_lt (small1000 (by omega))
 rw [List.eraseIdx_eq_take_drop_succ,List.map_append,List.map_take,List.map_drop] at q
 exact q
theorem Zto (mb:Mb mg) (C_other_ties:Callee P w K mg base 1 "other_ties" ["web","tie"] (spD K fOth)) (F:Fun K "steps_beside" "steps_beside" s_steps_beside f fd):FnOk P w K mg base CX0 2 f fd ["web","tie"] (spO K fStp):=by
 refine F.ok sc_steps_beside (Zqm fun ds Post h=>by obtain ⟨_,_,_,_,rfl,_⟩:=h; rfl) (fun cdv A outer s H vs Q E hr h=>?_)
 have hu:=Zco hr
 refine ⟨_,(Zaf (Zax (i:=2) sc_steps_beside.nd rfl (Or.inl rfl) (Zbc C_other_ties (hr.mono (by decide)) (Zaa (pv 0) (Zaa (pv 1) Zac)))) (Zaf (Zax (i:=3) sc_steps_beside.nd rfl (Or.inl rfl) (Zan (addK K) (pv 2) (Zbg (tupK K) rfl (mb "tuple" (by decide)) Zbk (Zaa (Zbn ["a","b"] (show CompSc (defScope s_steps_beside) ["web","tie","others","ways","steps","step","here","there"] _ [] [] from ⟨rfl,by decide +kernel,by decide +kernel,by decide +kernel,rfl,by decide +kernel⟩) rfl (seqK K (pv 2)) (fun _ _ _ _ _=>(gtupK (n:=2) K rfl (Zas (Zam (i:=0) (show List.Nodup (["a","b"]:List Str) from by decide) rfl (Or.inl rfl)) (Zas (Zam (i:=1) (show List.Nodup (["a","b"]:List Str) from by decide) rfl (Or.inl rfl)) Zbr)))) (fun _ _ _ _ _=>Zb8) (fun _ _ _ _ _=>(Zbl (Zaa (pv 1) (Zaa (pv 0) Zac))))) Zac)))) (Zaf (Zax (i:=4) sc_steps_beside.nd rfl (Or.inl rfl) (Zra (Znv (Zap (ixK K hu) (Zap (ixK K hu) (Zap (ixK K hu) (pv 0) Zae (fun _ _=>rfl)) (pv 1) (fun _ _=>rfl)) Zae (fun _ _=>rfl)) Zae Zp5) rfl rfl (List.cons_ne_nil _ _) (by show 1<=15; decide))) (Zaf (Zcq PassesOwn.never rfl (Zhv rfl (mb "range" (by decide)) (Zaa Zae (Zaa (Zap (ixK K hu) (pv 0) Zae (fun _ _=>rfl)) Zac))) (Zam (i:=5) sc_steps_beside.nd rfl (Or.inl rfl)) (Zak (Zcq PassesOwn.never rfl (seqK K (pv 3)) (gtupK (n:=2) K rfl (Zas (Zam (i:=6) sc_steps_beside.nd rfl (Or.inl rfl)) (Zas (Zam (i:=7) sc_steps_beside.nd rfl (Or.inl rfl)) Zbr))) (Zak (Zb0 (PW.pt (pw_and (Zar Zbx (bmK K PySem.F.plainAttrs_dict PySem.F.slot_dict_get PySem.F.type_dict_get Zq4 (pv 4) (Zaa (pv 6) Zac)) (Zan Zbw (pv 5) Zae) (nomark _)) (pw_and1 (Zar (notinK K hu) (pv 7) (pv 4) rfl)))) (Zak (Zc0 (pv 5) (Ze5 (pv 4) (pv 7) (setU hu)))) Za8))))) (Zak (Za9 (pv 4))))))),Zt4 (fun ds Post hf=>?_) h⟩
 obtain ⟨N,ts,k,hk,rfl,hW,q⟩:=hf
 refine ⟨by simp,?_⟩
 dsimp only [startD,List.tail,List.map,List.length,List.replicate]
 have hl:=hW.len
 have hN:=hW.hi
 have hN1:=hW.lo
 have rk:=hW.tie ts[k] (List.getElem_mem hk)
 have el:(ts.eraseIdx k).length<=24:=Nat.le_trans (List.length_eraseIdx_le ..) hl
 refine Zau (Za5 (Zbi (Zab (Zad rfl (Zab (Zad rfl (Zah ⟨_,ts,k,rfl,hW,hk,?_⟩)))))))
 refine Zbb (fun Δ=>Δ = [.val (encWeb (N:Int) ts),.val (.int k),.val (.tup ((ts.eraseIdx k).map encTie)),.val (.tup ((waysB (ts.eraseIdx k)).map encTie)),.any,.any,.any,.any]) ?_ ?_
 ·refine Za5 (Zaz (Zad rfl (Za4 (Zab (Zfh (by decide) (Zc7 (Zad rfl ⟨_,rfl,?_,fun _=>true,swD,fun i d hd=>?_,?_⟩)))))))
  ·rw [List.length_map]; exact small1000 (by omega)
  ·rw [List.getElem?_map] at hd
   cases z:(ts.eraseIdx k)[i]? with
   | none=>rw [z] at hd; cases hd
   | some t=>
    rw [z] at hd
    have hd:encTie t=d:=by simpa using hd
    subst hd
    exact ⟨_,_,rfl,Zb7 ⟨rfl,Zdf (Zab (Zad rfl (Zab (Zad rfl (Zah ⟨Zb9,rfl,_,_,rfl⟩)))))⟩⟩
  ·rw [Zq6]
   refine Zah (Zc9 (Or.inl rfl) (Zih ?_ ?_))
   ·rw [List.length_map,List.length_map,List.length_map]; exact Nat.le_of_lt (small1000 (by omega))
   ·unfold waysB; rw [List.map_append]; rfl
 rintro Δ1 rfl
 have atT:atI (ts.map encTie) (k:Int)=some (encTie ts[k]):=Zcv (by rw [List.getElem?_map,List.getElem?_eq_getElem hk]; rfl)
 refine Zau (Zdn (Zsp (Za1 (Zaw (d:=.int ts[k].1) (Zaw (d:=encTie ts[k]) (Zaw (d:=.tup (ts.map encTie)) (Zag rfl) Zal rfl) (Zag rfl) atT) Zal rfl) ⟨_,rfl,?_⟩)))
 refine Zbb (fun Δ=>∃ (l:List (Int × Int)) (x5 x6 x7:L2.Slot),Stp N ts[k].1 (waysB (ts.eraseIdx k)) (N:Int) l /\ Δ = [.val (encWeb (N:Int) ts),.val (.int k),.val (.tup ((ts.eraseIdx k).map encTie)),.val (.tup ((waysB (ts.eraseIdx k)).map encTie)),.own (.dct (l.map encPair)),x5,x6,x7]) ?_ ?_
 ·refine Zcr (Zia (Zab (Zay (Zab (Za1 (Zaw (d:=.int (N:Int)) (Zag rfl) Zal rfl) (Zah ⟨1,N,rfl,by omega,?_⟩))))))
  refine ⟨fun i Δ=>∃ (l:List (Int × Int)) (x5 x6 x7:L2.Slot),Stp N ts[k].1 (waysB (ts.eraseIdx k)) (1 + (i:Int)) l /\ Δ = [.val (encWeb (N:Int) ts),.val (.int k),.val (.tup ((ts.eraseIdx k).map encTie)),.val (.tup ((waysB (ts.eraseIdx k)).map encTie)),.own (.dct (l.map encPair)),x5,x6,x7],⟨[(ts[k].1,0)],_,_,_,Zql _ rk.1 rk.2.1,rfl⟩,?_,?_⟩
  ·rintro i d Δ2 hd ⟨l,x5,x6,x7,hL,rfl⟩
   obtain ⟨hi,rfl⟩:=Zb3 hd
   refine Zbd (Zcr (Zc7 (Zad rfl ⟨_,rfl,fun j Δ=>∃ (l:List (Int × Int)) (x6 x7:L2.Slot),StpI N ts[k].1 (waysB (ts.eraseIdx k)) (1 + (i:Int)) j l /\ Δ = [.val (encWeb (N:Int) ts),.val (.int k),.val (.tup ((ts.eraseIdx k).map encTie)),.val (.tup ((waysB (ts.eraseIdx k)).map encTie)),.own (.dct (l.map encPair)),.val (.int (1 + (i:Int))),x6,x7],⟨l,_,_,hL.begin,rfl⟩,?_,?_⟩)))
   ·rintro j d Δ3 hd ⟨l,x6,x7,hL,rfl⟩
    rw [List.getElem?_map] at hd
    cases z:(waysB (ts.eraseIdx k))[j]? with
    | none=>rw [z] at hd; cases hd
    | some t=>
     rw [z] at hd
     have hd:encTie t=d:=by simpa using hd
     subst hd
     have rt:=Zg7 hW t (List.mem_of_getElem? z)
     have ll:=Zqy hL
     refine Zdd rfl (Zba (Zbd (Zba (Zbd (Zck ?_)))))
     by_cases c:∃ v,(t.1,v) ∈ l
     ·obtain ⟨v,hv⟩:=c
      refine Zb4 (Zf0 (Za0 (Zaz (Zmi rfl rfl (Zad rfl ⟨_,_,_,rfl,rfl,rfl,?_⟩)))))
      rw [Zpe hL.nd hv]
      refine Za1 (Za7 (Zag rfl) Zal Zc4) (Zdu ⟨_,rfl,ite2 (fun e=>?_) fun e=>iteF (Za2 ⟨l,_,_,hL.skip z (.inl fun x hx ex=>?_),rfl⟩)⟩)
      ·have e:v=1 + (i:Int) - 1:=of_decide_eq_true e
       refine Za0 (Zr3 (Zad rfl ⟨_,_,_,rfl,rfl,rfl,_,rfl,?_⟩))
       by_cases c2:t.2 ∈ l.map (·.1)
       ·obtain ⟨y,hy,ey⟩:=List.mem_map.mp c2
        have:valD (l.map encPair) (.inl t.2)=some (.int y.2):=Zpe hL.nd (by rw [<- ey]; exact hy)
        rw [this]
        exact iteF (Za2 ⟨l,_,_,hL.skip z (.inr c2),rfl⟩)
       ·rw [Zjs c2]
        refine iteT (Zq0 (Zad rfl ⟨⟨_,_,rfl,rfl⟩,Zad rfl ⟨_,_,_,rfl,rfl,rfl,?_,l ++ [(t.2,1 + (i:Int))],.val (.int t.1),.val (.int t.2),hL.more z rt.2.1 rt.2.2 hv e c2,?_⟩⟩))
        ·rw [List.length_map]; exact small1000 (by omega)
        ·show [_,_,_,_,L2.Slot.own (.dct (putD (l.map encPair) (.inl t.2) (.int (1 + (i:Int))))),_,_,_]=_
         rw [Zrg c2]
      ·have e:¬ v=1 + (i:Int) - 1:=of_decide_eq_false (by simpa using e)
       have:x.2=v:=Zj3 hL.nd (c:=t.1) (by rw [<- ex]; exact hx) hv
       omega
     ·refine Zb4 (Zf0 (Za0 (Zaz (Zmi rfl rfl (Zad rfl ⟨_,_,_,rfl,rfl,rfl,?_⟩)))))
      have c':t.1 ∉ l.map (·.1):=fun h=>by
       obtain ⟨y,hy,ey⟩:=List.mem_map.mp h
       exact c ⟨y.2,by rw [<- ey]; exact hy⟩
      rw [Zjs c']
      exact Za1 (Za7 (Zag rfl) Zal Zc4) (Zqv ⟨_,rfl,iteF (Za2 ⟨l,_,_,hL.skip z (.inl fun x hx ex=>absurd (List.mem_map.mpr ⟨x,hx,ex⟩) c'),rfl⟩)⟩)
   ·rintro Δ3 ⟨l,x6,x7,hL,rfl⟩
    rw [List.length_map] at hL
    exact ⟨l,_,_,_,by have:=hL.close; rw [show (1:Int) + (i:Int) + 1=1 + ((i + 1:Nat):Int) by omega] at this; exact this,rfl⟩
  ·rintro Δ2 ⟨l,x5,x6,x7,hL,rfl⟩
   rw [Zbm,show (1:Int) + ((((N:Int) - 1).toNat:Nat):Int)=(N:Int) by omega] at hL
   exact ⟨l,x5,x6,x7,hL,rfl⟩
 rintro Δ1 ⟨l,x5,x6,x7,hL,rfl⟩
 exact Zg1 (Zpj rfl (q l hL))
end
section
variable {P:Program} {w:World} {K:PySem.W.Frag} {mg:Str->Option Value} {base:Heap} {f:Addr} {fd:FuncData}
def paperD (g:Int) (hs:List (List Int)):D:=.tup [.int g,.tup (hs.map encRow)]
def barI (N:Nat) (ts:List (Int × Int)) (g:Int):Int:=if (2 - (N:Int) + (ts.length:Int) - 2 * (ts.length:Int) / g + 1) / 2 > 0 then (2 - (N:Int) + (ts.length:Int) - 2 * (ts.length:Int) / g + 1) / 2 else 0
def fBars:DSp:=fun ds Post=>∃ (N:Nat) (ts:List (Int × Int)) (g:Int),ds=[encWeb (N:Int) ts,.int g]/\WebOk (N:Int) ts/\OneP N ts/\1<=g/\g<=25/\Post (.int (barI N ts g))
theorem Zs1 {ds:List D} {i:Nat} {d:D} (h:ds[i]? = some d):(enD ds)[i]? = some (.tup [.int (i:Int),d]):=by
 unfold enD
 rw [List.getElem?_map,List.getElem?_zipIdx,h]; simp
theorem Zep {r:List Int} {a:Int} (h0:0<=a) (h1:a < (r.length:Int)):atI (r.map D.int) a=some (.int (r.getD a.toNat 0)):=by
 have:=Zcv (xs:=r.map D.int) (j:=a.toNat) (v:=.int (r.getD a.toNat 0)) (by rw [List.getElem?_map,List.getElem?_eq_getElem (by omega),List.getD_eq_getElem?_getD,List.getElem?_eq_getElem (by omega)]; rfl)
 rw [Int.toNat_of_nonneg h0] at this
 exact this
def absI (i:Int):Int:=if i < 0 then -i else i
def flB (r:List Int):D->Bool
 | .tup [.int c,.int d]=>decide (absI (r.getD c.toNat 0 - r.getD d.toNat 0)<=1)
 | _=>false
theorem Zjc {i:Int}:absI i<=1 ↔ i<=1 /\ -i<=1:=by unfold absI; split <;> omega
theorem Zho {N:Nat} {ts:List (Int × Int)} (hW:WebOk (N:Int) ts) (h1:OneP N ts) {ms:List Int} (hm:Firsts ms (marksL N ts)):ms.length=1:=by
 have:=h1 ms hm
 have h:=hW.lo
 have:mk N ts 0 ∈ ms:=(hm.2 _).mpr (Zmb (Int.le_refl _) (by omega))
 have:=List.length_pos_of_mem this
 omega
theorem Zfr {p:Prop}:@decide p (Classical.propDecidable p)=true ↔ p:=@decide_eq_true_iff p (Classical.propDecidable p)
theorem Zqs (mb:Mb mg) (C_lacking:Callee P w K mg base 2 "lacking" ["web","faces_many"] (spD K fLack)) (F:Fun K "bars_of" "bars_of" s_bars_of f fd):FnOk P w K mg base CX0 3 f fd ["web","shortest"] (spD K fBars):=by
 refine F.ok sc_bars_of (Zb2 fun ds Post h=>by obtain ⟨_,_,_,rfl,_⟩:=h; rfl) (fun cdv A outer s H vs Q E hr h=>?_)
 have hu:=Zco hr
 refine ⟨_,(Zaf (Zax (i:=2) sc_bars_of.nd rfl (Or.inl rfl) (Zan Zf5 (Zan Zd6 Zae (Zaj (lenK K) rfl (mb "len" (by decide)) Zbj (Zaa (Zap (ixK K hu) (pv 0) Zae (fun _ _=>rfl)) Zac))) (pv 1))) (Zak (Za9 (Zaj (Zda rfl) rfl (mb "max" (by decide)) Zgy (Zaa Zae (Zaa (Zan Zf5 (Zan (addK K) (Zbc C_lacking (hr.mono (by decide)) (Zaa (pv 0) (Zaa (pv 2) Zac))) Zae) Zae) Zac)))))),Zdy (fun ds Post hf=>?_) h⟩
 obtain ⟨N,ts,g,rfl,hW,h1,hg,hg2,q⟩:=hf
 refine ⟨by simp,?_⟩
 dsimp only [startD,List.tail,List.map,List.length,List.replicate]
 have hN:=hW.hi
 have hlen:=hW.len
 refine Zau (Za5 (Zaz (Zaz (Zay (Za4 (Zab (Za1 (Zaw (d:=.tup (ts.map encTie)) (Zag rfl) Zal rfl) (Zah (Zbp (Or.inr rfl) (jr_I (Or.inl ⟨by decide,by decide⟩) (Zad rfl (jr_I ?_ ?_))))))))))))
 ·exact ⟨by omega,by omega⟩
 rw [List.length_map]
 refine Zav (Za4 (Zab (Zay (Zab (Zaz (Zaz (Zbi (Zab (Zad rfl (Zab (Zad rfl (Zah ⟨_,ts,_,rfl,hW,fun ms hm=>?_⟩))))))))))))
 rw [Int.toNat_natCast] at hm
 rw [Zho hW h1 hm]
 exact Zay (Zcc (Zay (jr_I ⟨by decide,by decide⟩ (Zah (Zc2 q)))))
end
def fRp:DSp:=fun ds Post=>∃ (N:Nat) (ts:List (Int × Int)),ds=[encWeb (N:Int) ts]/\WebOk (N:Int) ts/\OneP N ts/\N<=ts.length/\∀ (g:Int) (hs:List (List Int)),1<=g->g<=25->hs.length=ts.length->(∀ r ∈ hs,r.length=N/\∀ x ∈ r,0<=x/\x<=25)->(∀ k,k < ts.length->Hts N ts k g (hs.getD k []))->Post (paperD g hs)
def stD (l:List (Int × Int)):D:=dctD (l.map encPair)
def unV:Key × D->Option (Int × Int)
 | (.inl k,.int v)=>some (k,v)
 | _=>none
def unP:D->List (Int × Int)
 | .dct ks ds=>(ks.zip ds).filterMap unV
 | _=>[]
theorem Zgn (l:List (Int × Int)):unP (stD l)=l:=by
 show (((l.map encPair).map (·.1)).zip ((l.map encPair).map (·.2))).filterMap unV=l
 rw [Zff,List.filterMap_map]
 induction l with
 | nil=>rfl
 | cons x t ih=>rw [List.filterMap_cons]; show x :: _=_; rw [ih]
theorem Zfd (l:List (Int × Int)) (x:Int):valD (l.map encPair) (.inl x)=(l.find? fun y=>y.1 == x).map fun y=>D.int y.2:=by
 unfold valD
 rw [List.find?_map,Option.map_map]
 have:((fun kv:Key × D=>decide (kv.1=Sum.inl x)) ∘ encPair)=fun y:Int × Int=>y.1 == x:=by
  funext y
  show decide (Sum.inl y.1=(Sum.inl x:Key))=(y.1 == x)
  rw [Bool.eq_iff_iff,decide_eq_true_iff,beq_iff_eq]
  exact ⟨fun z=>Sum.inl.inj z,fun z=>by rw [z]⟩
 rw [this]
 rfl
theorem Zqr {l:List (Int × Int)} {top x:Int} (h0:0<=top) (h:∀ y ∈ l,0<=y.2):0<=hgt l top x/\hgt l top x<=top:=by
 unfold hgt
 cases z:l.find? fun y=>y.1 == x with
 | none=>exact ⟨h0,Int.le_refl _⟩
 | some y=>
  have:=h y (List.mem_of_find?_eq_some z)
  dsimp only
  split <;> omega
def fnd (l:List (Int × Int)) (x:Int):Option (Int × Int):=l.find? fun y=>y.1 == x
def pB:D->Bool
 | .tup [d,.tup [_,.int b]]=>(fnd (unP d) b).isSome
 | _=>false
def vD:D->D
 | .tup [d,.tup [_,.int b]]=>.int (((fnd (unP d) b).getD (0,0)).2 + 1)
 | _=>.non
def lens (ls:List (List (Int × Int))) (ts:List (Int × Int)):List Int:=((ls.zip ts).filter fun p=>(fnd p.1 p.2.2).isSome).map fun p=>((fnd p.1 p.2.2).getD (0,0)).2 + 1
theorem Ztd (ls:List (List (Int × Int))) (ts:List (Int × Int)):((((ls.map stD).zip (ts.map encTie)).map fun p=>D.tup [p.1,p.2]).filter pB).map vD=(lens ls ts).map D.int:=by
 unfold lens
 rw [List.zip_map,List.map_map,List.filter_map,List.map_map,List.map_map]
 have e1:(pB ∘ ((fun p:D × D=>D.tup [p.1,p.2]) ∘ Prod.map stD encTie))=fun p=>(fnd p.1 p.2.2).isSome:=by
  funext p
  show (fnd (unP (stD p.1)) p.2.2).isSome=_
  rw [Zgn]
 rw [e1]
 refine List.map_congr_left fun p _=>?_
 show D.int (((fnd (unP (stD p.1)) p.2.2).getD (0,0)).2 + 1)=_
 rw [Zgn]; rfl
theorem Zpl {l:List (Int × Int)} {x:Int} {y:Int × Int} (h:fnd l x=some y):y ∈ l/\y.1=x:=⟨List.mem_of_find?_eq_some h,by have:=List.find?_some h; exact eq_of_beq this⟩
structure StpA (N:Nat) (ts:List (Int × Int)) (i:Nat) (ls:List (List (Int × Int))):Prop where
 len:ls.length=i
 stp:∀ (k:Nat) (hk:k < ts.length) l,ls[k]? = some l->Stp N ts[k].1 (waysB (ts.eraseIdx k)) (N:Int) l
section
variable {N:Nat} {ts:List (Int × Int)} {ls:List (List (Int × Int))} (hW:WebOk (N:Int) ts) (A:StpA N ts ts.length ls)
include A in
theorem Zju {k:Nat} (hk:k < ts.length) {l:List (Int × Int)} (hl:ls[k]? = some l) {v:Int} (hv:(ts[k].2,v) ∈ l):v + 1 ∈ lens ls ts:=by
 have f:fnd l ts[k].2=some (ts[k].2,v):=Zlq (A.stp k hk l hl).nd hv
 refine List.mem_map.mpr ⟨(l,ts[k]),List.mem_filter.mpr ⟨?_,?_⟩,?_⟩
 ·refine List.mem_of_getElem? (i:=k) ?_
  rw [List.getElem?_zip_eq_some]
  exact ⟨hl,List.getElem?_eq_getElem hk⟩
 ·show (fnd l ts[k].2).isSome=true
  rw [f]; rfl
 ·show ((fnd l ts[k].2).getD (0,0)).2 + 1=_
  rw [f]; rfl
include A in
theorem Zj4 {x:Int} (h:x ∈ lens ls ts):1<=x/\x<=(N:Int):=by
 obtain ⟨p,hp,rfl⟩:=List.mem_map.mp h
 obtain ⟨h1,h2⟩:=List.mem_filter.mp hp
 obtain ⟨k,hk⟩:=List.mem_iff_getElem?.mp h1
 rw [List.getElem?_zip_eq_some] at hk
 have hk2:=(List.getElem?_eq_some_iff.mp hk.2).1
 cases z:fnd p.1 p.2.2 with
 | none=>rw [z] at h2; cases h2
 | some y=>
  have:=(A.stp k hk2 p.1 hk.1).rng y (Zpl z).1
  show 1<=y.2 + 1/\y.2 + 1<=(N:Int)
  omega
include hW A in
theorem Zm2 (h1:OneP N ts) (hn:N<=ts.length):lens ls ts ≠ []:=by
 obtain ⟨k,hk,hm⟩:=spare hW h1 hn
 have hl:k < ls.length:=by rw [A.len]; exact hk
 have L:=A.stp k hk _ (List.getElem?_eq_getElem hl)
 obtain ⟨y,hy,ey⟩:=List.mem_map.mp (Zmc hW hk L hm)
 exact List.ne_nil_of_mem (Zju A hk (List.getElem?_eq_getElem hl) (v:=y.2) (by rw [<- ey]; exact hy))
include hW A in
theorem Zob {g:Int} (hg:g ∈ lens ls ts) (hle:∀ x ∈ lens ls ts,g<=x) {k:Nat} (hk:k < ts.length):Hts N ts k g ((ls.map fun l=>(List.range N).map fun p:Nat=>hgt l (g - 1) (p:Int)).getD k []):=by
 have hl:k < ls.length:=by rw [A.len]; exact hk
 have:=Zj4 A hg
 rw [List.getD_eq_getElem?_getD,List.getElem?_map,List.getElem?_eq_getElem hl]
 have:=Zsn hW hk (top:=g - 1) (by omega) (A.stp k hk _ (List.getElem?_eq_getElem hl)) fun v hv=>by
  have:=hle _ (Zju A hk (List.getElem?_eq_getElem hl) hv)
  omega
 rw [show g - 1 + 1=g by omega] at this
 exact this
end
section
variable {P:Program} {w:World} {K:PySem.W.Frag} {mg:Str->Option Value} {base:Heap} {f:Addr} {fd:FuncData}
theorem Zt1 (mb:Mb mg) (C_refuse_parts:Callee P w K mg base 2 "refuse_parts" ["web"] (spD K fRef)) (C_rank_of:Callee P w K mg base 2 "rank_of" ["web"] (spD K fRank)) (C_steps_beside:Callee P w K mg base 2 "steps_beside" ["web","tie"] (spO K fStp)) (F:Fun K "ring_paper" "ring_paper" s_ring_paper f fd):FnOk P w K mg base CX0 3 f fd ["web"] (spD K fRp):=by
 refine F.ok sc_ring_paper (Zb2 fun ds Post h=>by obtain ⟨_,_,rfl,_⟩:=h; rfl) (fun cdv A outer s H vs Q E hr h=>?_)
 have hu:=Zco hr
 refine ⟨_,(Zaf (Zd8 (Zbc C_refuse_parts (hr.mono (by decide)) (Zaa (pv 0) Zac))) (Zaf (Zb0 (Zar Zbx (Zbc C_rank_of (hr.mono (by decide)) (Zaa (pv 0) Zac)) Zae (nomark _)) Zib Za8) (Zaf (Zjg (i:=1) ["tie"] (show CompSc (defScope s_ring_paper) ["web","steps","shortest","top","heights"] _ ["web"] [0] from ⟨rfl,by decide +kernel,by decide +kernel,by decide +kernel,rfl,by decide +kernel⟩) rfl sc_ring_paper.nd rfl (Or.inl rfl) (Zbz rfl (mb "range" (by decide)) (Zaa (Zaj (lenK K) rfl (mb "len" (by decide)) Zbj (Zaa (Zap (ixK K hu) (pv 0) Zae (fun _ _=>rfl)) Zac)) Zac)) (fun _ _ _ _ _=>(Zam (i:=0) (show List.Nodup (["tie","web"]:List Str) from by decide) rfl (Or.inl rfl))) (fun _ _ _ _ _=>Zb8) (fun _ _ _ _ _=>(Zbc C_steps_beside (hr.mono (by decide)) (Zaa (pv 1) (Zaa (pv 0) Zac))))) (Zaf (Zax (i:=2) sc_ring_paper.nd rfl (Or.inl rfl) (Zaj (minK K rfl) rfl (mb "min" (by decide)) Zf7 (Zaa (Zbn ["own","a","b"] (show CompSc (defScope s_ring_paper) ["web","steps","shortest","top","heights"] _ [] [] from ⟨rfl,by decide +kernel,by decide +kernel,by decide +kernel,rfl,by decide +kernel⟩) rfl (Zpy K rfl (mb "zip" (by decide)) (Zaa (pv 1) (Zaa (Zap (ixK K hu) (pv 0) Zae (fun _ _=>rfl)) Zac))) (fun _ _ _ _ _=>(gtupK (n:=2) K rfl (Zas (Zam (i:=0) (show List.Nodup (["own","a","b"]:List Str) from by decide) rfl (Or.inl rfl)) (Zas (gtupK (n:=2) K rfl (Zas (Zam (i:=1) (show List.Nodup (["own","a","b"]:List Str) from by decide) rfl (Or.inl rfl)) (Zas (Zam (i:=2) (show List.Nodup (["own","a","b"]:List Str) from by decide) rfl (Or.inl rfl)) Zbr))) Zbr)))) (fun _ _ _ _ _=>(Zha (Zar (inK K hu) (pv 2) (pv 0) rfl))) (fun _ _ _ _ _=>(Zan (addK K) (Zap (ixK K hu) (pv 0) (pv 2) (fun _ _=>rfl)) Zae))) Zac))) (Zaf (Zax (i:=3) sc_ring_paper.nd rfl (Or.inr rfl) (Zan Zbw (pv 2) Zae)) (Zaf (Zli (i:=4) ["own"] (show CompScK (defScope s_ring_paper) ["web","steps","shortest","top","heights"] "own" _ ["web","top"] [0,3] from ⟨rfl,by decide +kernel,by decide +kernel,by decide +kernel,by decide +kernel,rfl,by decide +kernel⟩) rfl sc_ring_paper.nd rfl (Or.inl rfl) (seqK K (pv 1)) (fun _ _ _ _ _=>(Zam (i:=0) (show List.Nodup (["own","web","top"]:List Str) from by decide) rfl (Or.inr rfl))) (fun _ _ _ _ _=>Zb8) (fun _ _ _ _ _=>(Zbg (tupK K) rfl (mb "tuple" (by decide)) Zbk (Zaa (Zbn ["place"] (show CompSc (relab (defScope s_ring_paper) _) ["own","web","top"] _ ["own","top"] [0,2] from ⟨rfl,by decide +kernel,by decide +kernel,by decide +kernel,rfl,by decide +kernel⟩) rfl (Zbz rfl (mb "range" (by decide)) (Zaa (Zap (ixK K hu) (pv 1) Zae (fun _ _=>rfl)) Zac)) (fun _ _ _ _ _=>(Zam (i:=0) (show List.Nodup (["place","own","top"]:List Str) from by decide) rfl (Or.inl rfl))) (fun _ _ _ _ _=>Zb8) (fun _ _ _ _ _=>(Zaj (Zde rfl) rfl (mb "min" (by decide)) Zf7 (Zaa (pv 2) (Zaa (bmK K PySem.F.plainAttrs_dict PySem.F.slot_dict_get PySem.F.type_dict_get (Zq3 hu) (pv 1) (Zaa (pv 0) (Zaa (pv 2) Zac))) Zac))))) Zac)))) (Zak (Za9 (Zbl (Zaa (pv 2) (Zaa (Zbg (tupK K) rfl (mb "tuple" (by decide)) Zbk (Zaa (pv 4) Zac)) Zac))))))))))),Zdy (fun ds Post hf=>?_) h⟩
 obtain ⟨N,ts,rfl,hW,h1,hn,q⟩:=hf
 refine ⟨by simp,?_⟩
 dsimp only [startD,List.tail,List.map,List.length,List.replicate]
 have hN:=hW.hi
 have hlen:=hW.len
 refine Zau (Zrc (Zbi (Zab (Zad rfl (Zah ⟨_,ts,rfl,hW,by rw [Int.toNat_natCast]; exact h1,?_⟩)))))
 refine Zau (Zb4 (Za0 (Zaz (Zbi (Zab (Zad rfl (Zah ⟨N,ts,rfl,hW,fun ms hm=>Zay (Zdu ⟨_,rfl,?_⟩)⟩)))))))
 rw [Zho hW h1 hm,decide_eq_false (by omega)]
 refine iteF (Za2 ?_)
 refine Zbb (fun Δ=>∃ ls,StpA N ts ts.length ls /\ Δ = [.val (encWeb (N:Int) ts),.val (.lst (ls.map stD)),.any,.any,.any]) ?_ ?_
 ·refine Za5 (Zg9 (n:=1) (by decide) (Zb1 (Zab (Za4 (Zab (Za1 (Zaw (d:=.tup (ts.map encTie)) (Zag rfl) Zal rfl) (Zah (Zbp (Or.inr rfl) ?_))))))))
  rw [List.length_map]
  refine Zah ⟨_,rfl,by omega,by omega,?_⟩
  refine ⟨by rw [Zbm]; exact small1000 (by omega),fun i ys Δ2=>∃ (ls:List (List (Int × Int))) (x:L2.Slot),StpA N ts i ls/\ys=ls.map stD /\ Δ2=[x,.val (encWeb (N:Int) ts)],⟨[],.any,⟨rfl,fun k _ l h=>by simp at h⟩,rfl,rfl⟩,?_,?_⟩
  ·rintro i d ys Δ2 hd ⟨ls,x,hA,rfl,rfl⟩
   obtain ⟨hi,rfl⟩:=Zb3 hd
   have hi:i < ts.length:=by omega
   rw [Int.zero_add]
   refine Zg2 (by decide) (Nat.succ_pos _) (Zb7 (iteT ?_))
   refine Zmf (Znq (Zab (Zad rfl (Zab (Zad rfl (Zah ⟨N,ts,i,hi,rfl,hW,fun l hL=>⟨_,rfl,ls ++ [l],_,⟨by rw [List.length_append,hA.len]; rfl,fun k hk l' hl'=>?_⟩,by rw [List.map_append]; rfl,rfl⟩⟩))))))
   by_cases c:k < ls.length
   ·rw [List.getElem?_append_left c] at hl'; exact hA.stp k hk l' hl'
   ·rw [List.getElem?_append_right (by omega)] at hl'
    have e0:k - ls.length=0:=by
     have:=(List.getElem?_eq_some_iff.mp hl').1
     rw [List.length_singleton] at this; omega
    rw [e0] at hl'
    have e1:l=l':=by simpa using hl'
    have e2:k=i:=by rw [<- hA.len]; omega
    subst e1; subst e2
    exact hL
  ·rintro ys Δ2 ⟨ls,x,hA,rfl,rfl⟩
   rw [Zbm,Int.toNat_natCast] at hA
   exact ⟨ls,hA,rfl⟩
 rintro Δ1 ⟨ls,hA,rfl⟩
 have hll:=hA.len
 obtain ⟨g,hg,hle⟩:=Zkc (lens ls ts) (Zm2 hW hA h1 hn)
 have gr:=Zj4 hA hg
 refine Zau (Za5 (Za4 (Zab (Zmu (by decide) (Zrj (Zab (Zad rfl (Zab (Za1 (Zaw (d:=.tup (ts.map encTie)) (Zag rfl) Zal rfl) (Zah ⟨_,_,rfl,by rw [List.length_map,List.length_map,hll],?_,pB,vD,fun i d hd=>?_,?_⟩))))))))))
 ·rw [List.length_map,List.length_zip,List.length_map,List.length_map]; exact small1000 (by omega)
 ·rw [List.getElem?_map] at hd
  cases z:((ls.map stD).zip (ts.map encTie))[i]? with
  | none=>rw [z] at hd; cases hd
  | some p=>
   rw [z] at hd
   have hd:D.tup [p.1,p.2]=d:=by simpa using hd
   rw [List.getElem?_zip_eq_some] at z
   obtain ⟨z1,z2⟩:=z
   rw [List.getElem?_map] at z1 z2
   cases y1:ls[i]? with
   | none=>rw [y1] at z1; cases z1
   | some l=>
    cases y2:ts[i]? with
    | none=>rw [y2] at z2; cases z2
    | some t=>
     rw [y1] at z1; rw [y2] at z2
     have z1:stD l=p.1:=by simpa using z1
     have z2:encTie t=p.2:=by simpa using z2
     rw [<- z1,<- z2] at hd
     subst hd
     refine ⟨_,_,_,rfl,Za0 (Zaz (Zad rfl (Zad rfl (Zpo ⟨_,rfl,?_,?_⟩))))⟩
     ·show (valD (l.map encPair) (.inl t.2)).isSome=(fnd (unP (stD l)) t.2).isSome
      rw [Zfd,Zgn,Option.isSome_map]; rfl
     ·show if (valD (l.map encPair) (.inl t.2)).isSome=true then _ else _
      cases y3:fnd l t.2 with
      | none=>
       have:valD (l.map encPair) (.inl t.2)=none:=by rw [Zfd]; show (fnd l t.2).map _=_; rw [y3]; rfl
       rw [this]
       exact iteF ⟨_,_,_,rfl⟩
      | some y=>
       have e:valD (l.map encPair) (.inl t.2)=some (.int y.2):=by rw [Zfd]; show (fnd l t.2).map _=_; rw [y3]; rfl
       rw [e]
       refine iteT (Zaz (Zaz (Zad rfl (Zad rfl (Zqz e (Zay (Zcc ⟨?_,_,_,_,rfl⟩)))))))
       show D.int (y.2 + 1)=.int (((fnd (unP (stD l)) t.2).getD (0,0)).2 + 1)
       rw [Zgn,y3]; rfl
 ·refine Zah ?_
  rw [Ztd]
  refine Zqk (Or.inl rfl) hg hle ?_
  refine Zau (Za5 (Za1 (Za7 (Zag rfl) Zal Zc4) ?_))
  refine Zbb (fun Δ=>Δ = [.val (encWeb (N:Int) ts),.val (.lst (ls.map stD)),.val (.int g),.val (.int (g - 1)),.val (.lst ((ls.map fun l=>(List.range N).map fun p:Nat=>hgt l (g - 1) (p:Int)).map encRow))]) ?_ ?_
  ·refine Za5 (Zce (by decide) (Zeq (Zad rfl ⟨_,Or.inl rfl,?_,fun _=>true,fun d=>encRow ((List.range N).map fun p:Nat=>hgt (unP d) (g - 1) (p:Int)),fun i d hd=>?_,?_⟩)))
   ·rw [List.length_map]; exact small1000 (by omega)
   ·rw [List.getElem?_map] at hd
    cases z:ls[i]? with
    | none=>rw [z] at hd; cases hd
    | some l=>
     rw [z] at hd
     have hd:stD l=d:=by simpa using hd
     subst hd
     refine Zb7 ⟨rfl,Za4 (Zab (Zce (by decide) (Zb1 (Zab (Za1 (Zaw (d:=.int (N:Int)) (Zag rfl) Zal rfl) (Zah ⟨_,rfl,by omega,by omega,?_,fun _=>true,fun d=>.int (hgt l (g - 1) (intD d)),fun j d hd=>?_,?_⟩))))))⟩
     ·rw [Zbm]; exact small1000 (by omega)
     ·obtain ⟨hj,rfl⟩:=Zb3 hd
      refine Zb7 ⟨rfl,Za4 (Zab (Zad rfl (Zab (Zqa rfl (Zad rfl (Zad rfl ⟨_,rfl,?_⟩))))))⟩
      rw [Zfd]
      show JA K tNil _ _
      cases y3:fnd l (0 + (j:Int)) with
      | none=>
       have e:(List.find? (fun y=>y.1 == 0 + (j:Int)) l)=none:=y3
       rw [e]
       refine Zah (Zc2 ⟨?_,_,rfl⟩)
       show _=D.int (hgt l (g - 1) (0 + (j:Int)))
       unfold hgt; rw [e]
       congr 1
       split <;> rfl
      | some y=>
       have e:(List.find? (fun y=>y.1 == 0 + (j:Int)) l)=some y:=y3
       rw [e]
       refine Zah (Zc2 ⟨?_,_,rfl⟩)
       show _=D.int (hgt l (g - 1) (0 + (j:Int)))
       unfold hgt; rw [e]
     ·refine Zah (Zc9 (Or.inl rfl) ⟨?_,_,rfl⟩)
      show _=encRow ((List.range N).map fun p:Nat=>hgt (unP (stD l)) (g - 1) (p:Int))
      rw [Zgn,List.filter_eq_self.mpr (by simp)]
      show D.tup ((rngD 0 ((N:Int)).toNat).map _)=D.tup (((List.range N).map _).map D.int)
      unfold rngD
      rw [Int.toNat_natCast,List.map_map,List.map_map]
      congr 1
      refine List.map_congr_left fun p _=>?_
      show D.int (hgt l (g - 1) (0 + (p:Int)))=D.int (hgt l (g - 1) (p:Int))
      rw [Int.zero_add]
   ·rw [List.filter_eq_self.mpr (by simp),List.map_map]
    have:((fun d=>encRow ((List.range N).map fun p:Nat=>hgt (unP d) (g - 1) (p:Int))) ∘ stD)=encRow ∘ fun l=>(List.range N).map fun p:Nat=>hgt l (g - 1) (p:Int):=by
     funext l
     show encRow _=encRow _
     rw [Zgn]
    rw [this,<- List.map_map]
    rfl
  rintro Δ1 rfl
  refine Zav (Zdf (Zab (Zad rfl (Zab (Za4 (Zab (Zad rfl (Zah (Zc9 (Or.inl rfl) (Zah ⟨Zb9,q g _ gr.1 (by omega) (by rw [List.length_map,hll]) (fun r hr=>?_) fun k hk=>Zob hW hA hg hle hk⟩))))))))))
  obtain ⟨l,hlm,rfl⟩:=List.mem_map.mp hr
  refine ⟨by rw [List.length_map,List.length_range],fun x hx=>?_⟩
  obtain ⟨p,_,rfl⟩:=List.mem_map.mp hx
  obtain ⟨k,hk⟩:=List.mem_iff_getElem?.mp hlm
  have hk2:=(List.getElem?_eq_some_iff.mp hk).1
  have:=Zqr (l:=l) (top:=g - 1) (x:=(p:Int)) (by omega) fun y hy=>((hA.stp k (by omega) l hk).rng y hy).2.2.1
  omega
end
def fOne25:BSp:=fun ps ds Post=>Pen ps/\ds=[.int 25,.int 24]/\∀ (N:Nat) (ts:List (Int × Int)) ps',Pen ps' -> WebOk (N:Int) ts->OneP N ts->Post (encWeb (N:Int) ts) ps'
def o5St (ps:List D) (n m sh:Int) (r:List L2.Slot):Evt:=.bor (.lst ps) :: .val (.int 25) :: .val (.int 24) :: .val (.int n) :: .val (.int m) :: .val (.int sh) :: r
def HgL (n:Int) (i:Nat) (ts:List (Int × Int)):Prop:=(∀ t ∈ ts,0<=t.1/\t.1 < n/\0<=t.2/\t.2 < n)/\∀ k:Nat,k < i->∃ t ∈ ts,∃ j:Nat,j<=k/\(t=((j:Int),(k:Int) + 1)\/t=((k:Int) + 1,(j:Int)))
theorem Zi4 {α:Type} {l:List α} {x y:α} (j:Nat):y ∈ l.take j ++ x :: l.drop j ↔ y=x\/y ∈ l:=by
 rw [List.mem_append,List.mem_cons]
 conv=>rhs; rw [<- List.take_append_drop j l,List.mem_append]
 constructor
 ·rintro (h | h | h)
  ·exact .inr (.inl h)
  ·exact .inl h
  ·exact .inr (.inr h)
 ·rintro (h | h | h)
  ·exact .inr (.inl h)
  ·exact .inl h
  ·exact .inr (.inr h)
theorem Zni {n:Int} {i i':Nat} {ts:List (Int × Int)} {u v:Int} (h:HgL n i ts) (u0:0<=u) (u1:u < n) (v0:0<=v) (v1:v < n) (c:i' = i\/i' = i + 1/\∃ j:Nat,j<=i/\((u,v)=((j:Int),(i:Int) + 1)\/(u,v)=((i:Int) + 1,(j:Int)))) (j:Nat):HgL n i' (ts.take j ++ (u,v) :: ts.drop j):=by
 refine ⟨fun t ht=>?_,fun k hk=>?_⟩
 ·rcases (Zi4 j).mp ht with rfl | ht
  ·exact ⟨u0,u1,v0,v1⟩
  ·exact h.1 t ht
 ·by_cases z:k < i
  ·obtain ⟨t,ht,e⟩:=h.2 k z
   exact ⟨t,(Zi4 j).mpr (.inr ht),e⟩
  ·rcases c with c | ⟨c,g,hg,e⟩
   ·omega
   ·have:k=i:=by omega
    subst this
    exact ⟨(u,v),(Zi4 j).mpr (.inl rfl),g,hg,e⟩
def o5L (n m sh:Int) (i l:Nat) (x9 x10:L2.Slot):Evt->Prop:=fun Δ=>∃ (ps:List D) (ts:List (Int × Int)) (x7 x8:L2.Slot),Pen ps/\ts.length=l/\HgL n i ts /\ Δ = o5St ps n m sh [.own (.lst (ts.map encTie)),x7,x8,x9,x10]
section
variable {P:Program} {w:World} {K:PySem.W.Frag} {mg:Str->Option Value} {base:Heap} {f:Addr} {fd:FuncData}
theorem Zr0 (mb:Mb mg) (C__law_draw:Callee P w K mg base 1 "_law_draw" ["_law_pen_here","_law_many"] (spB K fDraw)) (F:Fun K "_law_one" "_law_one" s_law_one f fd):FnOk P w K mg base CX0 2 f fd ["_law_pen_here","_law_places","_law_ties"] (spB K fOne25):=by
 refine F.ok sc_law_one (Zfu fun ps ds Post h=>by obtain ⟨_,rfl,_⟩:=h; rfl) (fun cdv A outer s H vs Q E hr h=>?_)
 have hu:=Zco hr
 refine ⟨_,(Zaf (Zax (i:=3) sc_law_one.nd rfl (Or.inl rfl) (Zan (addK K) Zae (Zbc C__law_draw (hr.mono (by decide)) (Zaa (pv 0) (Zaa (pv 1) Zac))))) (Zaf (Zax (i:=4) sc_law_one.nd rfl (Or.inl rfl) (Zbc C__law_draw (hr.mono (by decide)) (Zaa (pv 0) (Zaa (Zaj (Zda rfl) rfl (mb "max" (by decide)) Zgy (Zaa Zae (Zaa (Zan (addK K) (Zan Zbw (pv 2) (pv 3)) Zae) Zac))) Zac)))) (Zaf (Zax (i:=5) sc_law_one.nd rfl (Or.inl rfl) (Zbc C__law_draw (hr.mono (by decide)) (Zaa (pv 0) (Zaa Zae Zac)))) (Zaf (Zb0 (PW.pt (pw_and (Zar Zbx (pv 5) Zae (nomark _)) (pw_and1 (Zar Zbx (Zbc C__law_draw (hr.mono (by decide)) (Zaa (pv 0) (Zaa Zae Zac))) Zae (nomark _))))) (Zaf (Zax (i:=3) sc_law_one.nd rfl (Or.inl rfl) (pv 1)) (Zak (Zax (i:=4) sc_law_one.nd rfl (Or.inl rfl) (Zaj (Zda rfl) rfl (mb "max" (by decide)) Zgy (Zaa Zae (Zaa (Zan (addK K) (Zan Zbw (pv 2) (pv 3)) Zae) Zac)))))) Za8) (Zaf (Zax (i:=6) sc_law_one.nd rfl (Or.inl rfl) (Zb5 Zac)) (Zaf (Zcq PassesOwn.never rfl (Zhv rfl (mb "range" (by decide)) (Zaa Zae (Zaa (pv 3) Zac))) (Zam (i:=7) sc_law_one.nd rfl (Or.inl rfl)) (Zaf (Zax (i:=8) sc_law_one.nd rfl (Or.inl rfl) (Zap (ixK K hu) (Zb5 (Zaa (Zbc C__law_draw (hr.mono (by decide)) (Zaa (pv 0) (Zaa (pv 7) Zac))) (Zaa (Zan Zbw (pv 7) Zae) (Zaa Zae (Zaa (Zaj (Zda rfl) rfl (mb "max" (by decide)) Zgy (Zaa Zae (Zaa (Zan Zbw (Zan Zbw (pv 7) Zae) (Zbc C__law_draw (hr.mono (by decide)) (Zaa (pv 0) (Zaa Zae Zac)))) Zac))) Zac))))) (pv 5) (fun _ _=>rfl))) (Zak (Zd8 (bmK K PySem.F.plainAttrs_list PySem.F.slot_list_insert PySem.F.type_list_insert Zhm (pv 6) (Zaa (Zbc C__law_draw (hr.mono (by decide)) (Zaa (pv 0) (Zaa (Zan (addK K) (Zaj (lenK K) rfl (mb "len" (by decide)) Zbj (Zaa (pv 6) Zac)) Zae) Zac))) (Zaa (Zap (ixK K hu) (Zb5 (Zaa (Zbl (Zaa (pv 7) (Zaa (pv 8) Zac))) (Zaa (Zbl (Zaa (pv 8) (Zaa (pv 7) Zac))) Zac))) (Zbc C__law_draw (hr.mono (by decide)) (Zaa (pv 0) (Zaa Zae Zac))) (fun _ _=>rfl)) Zac))))))) (Zaf (Zcq PassesOwn.never rfl (Zbz rfl (mb "range" (by decide)) (Zaa (pv 4) Zac)) (Zam (i:=7) sc_law_one.nd rfl (Or.inl rfl)) (Zaf (Zka (i:=9) (j:=10) rfl sc_law_one.nd rfl rfl (by decide) rfl rfl (Zaa (Zbc C__law_draw (hr.mono (by decide)) (Zaa (pv 0) (Zaa (pv 3) Zac))) (Zaa (Zbc C__law_draw (hr.mono (by decide)) (Zaa (pv 0) (Zaa (pv 3) Zac))) Zac)) rfl) (Zaf (Zb0 (PW.pt (pw_and (Zar Zbx (pv 5) Zae (nomark _)) (pw_and1 (Zar Zbx (Zan Zcw (pv 7) Zae) Zae (nomark _))))) (Zak (Zax (i:=10) sc_law_one.nd rfl (Or.inl rfl) (pv 9))) Za8) (Zaf (Zb0 (Zar Zbx (pv 5) Zae (nomark _)) (Zak (Zax (i:=10) sc_law_one.nd rfl (Or.inl rfl) (Zan Zcw (Zan (addK K) (Zan (addK K) (pv 9) Zae) (Zbc C__law_draw (hr.mono (by decide)) (Zaa (pv 0) (Zaa Zae Zac)))) (pv 3)))) Za8) (Zak (Zd8 (bmK K PySem.F.plainAttrs_list PySem.F.slot_list_insert PySem.F.type_list_insert Zhm (pv 6) (Zaa (Zbc C__law_draw (hr.mono (by decide)) (Zaa (pv 0) (Zaa (Zan (addK K) (Zaj (lenK K) rfl (mb "len" (by decide)) Zbj (Zaa (pv 6) Zac)) Zae) Zac))) (Zaa (Zbl (Zaa (pv 9) (Zaa (pv 10) Zac))) Zac))))))))) (Zak (Za9 (Zbl (Zaa (pv 3) (Zaa (Zbg (tupK K) rfl (mb "tuple" (by decide)) Zbk (Zaa (Zbs (slK K) (pv 6) Zci (Zby (pv 2))) Zac)) Zac)))))))))))),Zk3 (fun ps ds Post hf=>?_) h⟩
 obtain ⟨hp,rfl,q⟩:=hf
 refine ⟨by simp,?_⟩
 dsimp only [cxOf,startD,List.tail,List.map,List.length,List.replicate]
 refine Zau (Za5 (Zaz (Zay (Zdj rfl rfl (Zab (Zad rfl (Zah (Zb6 (m:=25) rfl rfl hp (by decide) (by decide) fun r ps1 hp1 r0 r1=>Zcc ?_))))))))
 have hm1:1<=(if 24 - (1 + r) + 2 > 1 then 24 - (1 + r) + 2 else 1)/\(if 24 - (1 + r) + 2 > 1 then 24 - (1 + r) + 2 else 1)<=25 - r:=by split <;> omega
 refine Zau (Za5 (Zdj rfl rfl (Zab (Za4 (Zab (Zay (Zab (Za1 (Za7 (Za7 (Zag rfl) (Zag rfl) Zc4) Zal Zbt) (Zah (Zc2 (Zah (Zb6 (m:=if 24 - (1 + r) + 2 > 1 then 24 - (1 + r) + 2 else 1) rfl rfl hp1 (by omega) (by omega) fun c ps2 hp2 c0 c1=>?_))))))))))))
 refine Zau (Za5 (Zeu rfl rfl hp2 (by decide) (by decide) fun sh ps3 hp3 s0 s1=>?_))
 refine Zbb (fun Δ=>∃ (ps:List D) (n m:Int),Pen ps/\1<=n/\n<=25/\0<=m/\n - 1 + m<=24 /\ Δ = o5St ps n m sh [.any,.any,.any,.any,.any]) ?_ ?_
 ·refine Zb4 (Zf0 (Ze7 rfl (fun _=>iteT (Za0 (Zaz (Zeu rfl rfl hp3 (by decide) (by decide) fun z ps4 hp4 z0 z1=>Zay (Zdu ⟨_,rfl,ite2 (fun _=>?_) fun _=>Za2 ⟨ps4,1 + r,c,hp4,by omega,by omega,c0,by omega,rfl⟩⟩))))) (fun _=>iteF (Za2 ⟨ps3,1 + r,c,hp3,by omega,by omega,c0,by omega,rfl⟩))))
  refine Zau (Za5 (Zad rfl ?_))
  exact Za5 (Za4 (Zab (Zay (Zab (Za1 (Za7 (Za7 (Zag rfl) (Zag rfl) Zc4) Zal Zbt) (Zah (Zc2 ⟨ps4,25,0,hp4,by decide,by decide,by decide,by decide,rfl⟩)))))))
 rintro Δ1 ⟨ps4,n,m,hp4,n1,n2,m0,m1,rfl⟩
 refine Zau (Zdn (Zhx (Zah ⟨by decide,?_⟩)))
 refine Zbb (o5L n m sh (n - 1).toNat (n - 1).toNat .any .any) ?_ ?_
 ·refine Zcr (Zia (Zab (Zay (Zab (Zad rfl (Zah ⟨1,n,rfl,by omega,?_⟩))))))
  refine ⟨fun i=>o5L n m sh i i .any .any,⟨ps4,[],.any,.any,hp4,rfl,⟨fun _ h=>(nomatch h),fun k hk=>absurd hk (Nat.not_lt_zero k)⟩,rfl⟩,?_,fun Δ2 h=>by rw [Zbm] at h; exact h⟩
  rintro i d Δ2 hd ⟨px,ts,x7,x8,hpx,hl,hg,rfl⟩
  obtain ⟨hi,rfl⟩:=Zb3 hd
  refine Zbd (Zbb (fun Δ=>∃ (ps:List D) (g:Nat),Pen ps/\g<=i /\ Δ = o5St ps n m sh [.own (.lst (ts.map encTie)),.val (.int (1 + (i:Int))),.val (.int (g:Int)),.any,.any]) ?_ ?_)
  ·refine Za5 (Zaz (Zjr (Zab (Zdj rfl rfl (Zab (Zad rfl (Zah (Zb6 (m:=1 + (i:Int)) rfl rfl hpx (by omega) (by omega) fun a pa hpa a0 a1=>?_))))))))
   refine Zab (Za1 (Za7 (Zag rfl) Zal Zc4) (Zab (Zay (Zab (Za4 (Zab (Zay (Zab (Zaz (Za1 (Za7 (Zag rfl) Zal Zc4) (Zeu rfl rfl hpa (by decide) (by decide) fun b pb hpb b0 b1=>Zkh (Zah (Zc2 (Zah ⟨(by show 4<=sizeLine; decide),?_⟩))))))))))))))
   obtain ⟨g,e1,e2⟩:∃ g:Nat,atI [D.int a,.int (1 + (i:Int) - 1),.int 0,.int (if 1 + (i:Int) - 1 - b > 0 then 1 + (i:Int) - 1 - b else 0)] sh=some (.int (g:Int))/\g<=i:=by
    rcases (show sh=0\/sh=1\/sh=2\/sh=3 by omega) with e | e | e | e <;> subst e
    ·exact ⟨a.toNat,by rw [Int.toNat_of_nonneg a0]; rfl,by omega⟩
    ·exact ⟨i,by rw [show 1 + (i:Int) - 1=(i:Int) by omega]; rfl,Nat.le_refl _⟩
    ·exact ⟨0,rfl,by omega⟩
    ·have hz:0<=(if 1 + (i:Int) - 1 - b > 0 then 1 + (i:Int) - 1 - b else 0)/\(if 1 + (i:Int) - 1 - b > 0 then 1 + (i:Int) - 1 - b else 0)<=(i:Int):=by split <;> omega
     exact ⟨(if 1 + (i:Int) - 1 - b > 0 then 1 + (i:Int) - 1 - b else 0).toNat,by rw [Int.toNat_of_nonneg hz.1]; rfl,by omega⟩
   exact Zad rfl (Zcd e1 ⟨pb,g,hpb,e2,rfl⟩)
  rintro Δ3 ⟨pc,g,hpc,hgi,rfl⟩
  refine Zma rfl rfl (Zdj rfl rfl (Zab (Zaz (Zhb rfl rfl (Zay (Zcc (Zah ?_)))))))
  rw [List.length_map]
  refine Zb6 (m:=(ts.length:Int) + 1) rfl rfl hpc (by omega) (by omega) fun s0' pf hpf s00 s01=>?_
  refine Zaz (Za1 (Zc1 (Zai (Zcn (Zai (Zag rfl) (Zai (Zag rfl) Za3)) Zb9) (Zai (Zcn (Zai (Zag rfl) (Zai (Zag rfl) Za3)) Zb9) Za3)) Zb9) (Zeu rfl rfl hpf (by decide) (by decide) fun z pg hpg z0 z1=>?_))
  obtain ⟨u,v,e1,u0,u1,v0,v1,e2⟩:∃ u v:Int,atI [D.tup [.int (1 + (i:Int)),.int (g:Int)],.tup [.int (g:Int),.int (1 + (i:Int))]] z=some (encTie (u,v))/\0<=u/\u < n/\0<=v/\v < n/\∃ j:Nat,j<=i/\((u,v)=((j:Int),(i:Int) + 1)\/(u,v)=((i:Int) + 1,(j:Int))):=by
   rcases (show z=0\/z=1 by omega) with e | e <;> subst e
   ·exact ⟨1 + (i:Int),(g:Int),rfl,by omega,by omega,by omega,by omega,g,hgi,.inr (by rw [Int.add_comm])⟩
   ·exact ⟨(g:Int),1 + (i:Int),rfl,by omega,by omega,by omega,by omega,g,hgi,.inl (by rw [Int.add_comm])⟩
  refine Zcd e1 ⟨_,s0',_,rfl,rfl,rfl,?_,by omega,by omega,?_⟩
  ·rw [List.length_map]; exact small1000 (by omega)
  refine ⟨pg,ts.take (insI (ts.map encTie).length s0') ++ (u,v) :: ts.drop (insI (ts.map encTie).length s0'),.val (.int (1 + (i:Int))),.val (.int (g:Int)),hpg,?_,Zni hg u0 u1 v0 v1 (.inr ⟨rfl,e2⟩) _,?_⟩
  ·rw [List.length_append,List.length_cons,List.length_take,List.length_drop]; omega
  ·rw [List.map_append,List.map_cons,List.map_take,List.map_drop]; rfl
 rintro Δ1 ⟨px,ts,x7,x8,hpx,hl,hg,rfl⟩
 refine Zbb (fun Δ=>∃ x9 x10:L2.Slot,o5L n m sh (n - 1).toNat ((n - 1).toNat + m.toNat) x9 x10 Δ) ?_ ?_
 ·refine Zcr (Zb1 (Zab (Zad rfl (Zah ⟨_,rfl,by omega,by omega,?_⟩))))
  refine ⟨fun i Δ=>∃ x9 x10:L2.Slot,o5L n m sh (n - 1).toNat ((n - 1).toNat + i) x9 x10 Δ,⟨_,_,px,ts,x7,x8,hpx,hl,hg,rfl⟩,?_,fun Δ2 h=>by rw [Zbm] at h; exact h⟩
  rintro i d Δ2 hd ⟨x9,x10,px,ts,x7,x8,hpx,hl,hg,rfl⟩
  obtain ⟨hi,rfl⟩:=Zb3 hd
  refine Zbd (Zau (Zgc (Zab (Zdj rfl rfl (Zab (Zad rfl (Zah (Zb6 (m:=n) rfl rfl hpx n1 (by omega) fun a pa hpa a0 a1=>?_))))))))
  refine Zab (Zdj rfl rfl (Zab (Zad rfl (Zah (Zb6 (m:=n) rfl rfl hpa n1 (by omega) fun b pb hpb b0 b1=>Zah ⟨_,_,rfl,?_⟩)))))
  refine Zbb (fun Δ=>∃ b:Int,0<=b/\b < n /\ Δ = o5St pb n m sh [.own (.lst (ts.map encTie)),.val (.int (0 + (i:Int))),x8,.val (.int a),.val (.int b)]) ?_ ?_
  ·refine Zb4 (Zf0 (Ze7 rfl (fun _=>iteT (Za0 (Zaz (Za1 (Za7 (Zag rfl) Zal (pr_I (by show (0:Int) < 2; omega))) (Zay (Zdu ⟨_,rfl,ite2 (fun _=>?_) fun _=>Za2 ⟨b,b0,b1,rfl⟩⟩)))))) (fun _=>iteF (Za2 ⟨b,b0,b1,rfl⟩))))
   exact Za5 (Zad rfl ⟨a,a0,a1,rfl⟩)
  rintro Δ3 ⟨b2,b20,b21,rfl⟩
  refine Zbb (fun Δ=>∃ (pc:List D) (b:Int),Pen pc/\0<=b/\b < n /\ Δ = o5St pc n m sh [.own (.lst (ts.map encTie)),.val (.int (0 + (i:Int))),x8,.val (.int a),.val (.int b)]) ?_ ?_
  ·refine Zb4 (Ze7 rfl (fun _=>iteT ?_) (fun _=>iteF (Za2 ⟨pb,b2,hpb,b20,b21,rfl⟩)))
   refine Za5 (Zaz (Zaz (Za1 (Za7 (Zag rfl) Zal Zbt) (Zeu rfl rfl hpb (by decide) (by decide) fun c pc hpc c0 c1=>Zcc (Zad rfl (jr_I (by show (0:Int) < n; omega) ⟨pc,_,hpc,Int.emod_nonneg _ (by omega),Int.emod_lt_of_pos _ (by omega),rfl⟩))))))
  rintro Δ3 ⟨pc,b3,hpc,b30,b31,rfl⟩
  refine Zma rfl rfl (Zdj rfl rfl (Zab (Zaz (Zhb rfl rfl (Zay (Zcc (Zah ?_)))))))
  rw [List.length_map]
  refine Zb6 (m:=(ts.length:Int) + 1) rfl rfl hpc (by omega) (by omega) fun s0' pf hpf s00 s01=>?_
  refine Za1 (Zcn (Zai (Zag rfl) (Zai (Zag rfl) Za3)) Zb9) ⟨_,s0',_,rfl,rfl,rfl,?_,by omega,by omega,?_⟩
  ·rw [List.length_map]; exact small1000 (by omega)
  refine ⟨.val (.int a),.val (.int b3),pf,ts.take (insI (ts.map encTie).length s0') ++ (a,b3) :: ts.drop (insI (ts.map encTie).length s0'),.val (.int (0 + (i:Int))),x8,hpf,?_,Zni hg a0 a1 b30 b31 (.inl rfl) _,?_⟩
  ·rw [List.length_append,List.length_cons,List.length_take,List.length_drop]; omega
  ·rw [List.map_append,List.map_cons,List.map_take,List.map_drop]; rfl
 rintro Δ1 ⟨x9,x10,pz,ts,x7,x8,hpz,hl,hg,rfl⟩
 obtain ⟨N,rfl⟩:∃ N:Nat,n=(N:Int):=⟨n.toNat,by omega⟩
 have W:WebOk (N:Int) ts:=⟨n1,by omega,by omega,hg.1⟩
 refine Zav (Zdf (Zab (Zad rfl (Zab (Za4 (Zab (Zl2 (Zf1 rfl (Zfx (Zfw (Zad rfl ⟨_,rfl,.lst (ts.map encTie),?_,Zah (Zc9 (Or.inl rfl) (Zah ⟨Zb9,?_⟩))⟩)))))))))))
 ·show some (D.lst (cutD (ts.map encTie) none (some ((24:Nat):Int))))=_
  unfold cutD
  rw [HT.sIx_nat,HT.sIx_none,List.drop_zero,Nat.sub_zero,List.take_of_length_le (by rw [List.length_map]; omega)]
 refine ⟨_,rfl,q N ts _ hpz W (Zn8 W fun k hk=>hg.2 k (by omega))⟩
end
noncomputable def frs (l:List Int):List Int:=Classical.choose (Zcx l)
theorem Zj5 {ms l:List Int} (h:Firsts ms l):ms=frs l:=h.uniq (Classical.choose_spec (Zcx l))
theorem Zlt (l:List Int):Firsts (frs l) l:=Classical.choose_spec (Zcx l)
def isTup:D->Bool
 | .tup _=>true
 | _=>false
def tupI:D->List Int
 | .tup ds=>ds.map intD
 | _=>[]
def awB:D->Bool
 | .tup ds=>ds.all isIntX
 | _=>false
theorem Zdq {d:D} (h:isTup d=true):∃ ds,d=.tup ds:=by
 cases d with
 | tup ds=>exact ⟨ds,rfl⟩
 | _=>cases h
theorem Zi1 {d:D} (h:isTup d=false):awB d=false:=by
 cases d with
 | tup ds=>cases h
 | _=>rfl
theorem Zig:∀ {ds:List D},ds.all isIntX=true->ds=(ds.map intD).map D.int
 | [],_=>rfl
 | d :: ds,h=>by
  rw [List.all_cons,Bool.and_eq_true] at h
  cases d with
  | int i=>rw [List.map_cons,List.map_cons,<- Zig h.2]; rfl
  | _=>cases h.1
def TyN:Nat->D->Prop
 | 0,d=>∃ T,tyD d=some T
 | n + 1,d=>(∃ T,tyD d=some T)/\∀ ds,d=.tup ds->ds.length<=60/\∀ x ∈ ds,TyN n x
theorem TyN.ty:∀ {n:Nat} {d:D},TyN n d->∃ T,tyD d=some T
 | 0,_,h=>h
 | _ + 1,_,h=>h.1
noncomputable def htB (N:Nat) (ts:List (Int × Int)) (k:Nat) (g:Int) (d:D):Bool:=awB d && @decide (Hts N ts k g (tupI d)) (Classical.propDecidable _)
def Rng (N:Nat) (ts:List (Int × Int)):Prop:=OneP N ts/\N<=ts.length
noncomputable def rpB (N:Nat) (ts:List (Int × Int)):D->Bool
 | .tup [.int g,.tup rows]=>@decide (Rng N ts) (Classical.propDecidable _) && (decide (1<=g) && (decide (rows.length=ts.length) && (enD rows).all fun d=>match d with | .tup [.int k,r]=>htB N ts k.toNat g r | _=>false))
 | _=>false
def ppG:D->Int
 | .tup [.int g,_]=>g
 | _=>0
noncomputable def rbV (N:Nat) (ts:List (Int × Int)) (d:D):D:=if rpB N ts d=true then .int (barI N ts (ppG d)) else .non
theorem Znz {N:Nat} {ts:List (Int × Int)} (hW:WebOk (N:Int) ts):∀ k,k<=ts.length->∀ ms,Firsts ms (marksL N (ts.take k))->N<=ms.length + k:=by
 intro k
 induction k with
 | zero=>
  intro _ ms hm
  rw [List.take_zero] at hm
  rw [Zfz hm,List.length_map,List.length_range]; omega
 | succ k ih=>
  intro hk ms hm
  obtain ⟨m0,h0⟩:=Zcx (marksL N (ts.take k))
  have e0:=ih (by omega) m0 h0
  have hk:k < ts.length:=hk
  have r:=hW.tie ts[k] (List.getElem_mem hk)
  rw [Zcl (List.getElem?_eq_getElem hk)] at hm
  by_cases c:mk N (ts.take k) ts[k].1=mk N (ts.take k) ts[k].2
  ·rw [Zow c] at hm
   rw [h0.uniq hm] at e0
   omega
  ·have:=(Zgl (t:=ts[k]) (Zbo N (ts.take k)) (by omega) (by omega) c).count h0 hm
   omega
theorem Zek {N:Nat} {ts:List (Int × Int)}:OneP N ts ↔ (frs (marksL N ts)).length<=1:=⟨fun h=>h _ (Zlt _),fun h ms hm=>by rw [Zj5 hm]; exact h⟩
theorem Zmh {N:Nat} {ts:List (Int × Int)} (hW:WebOk (N:Int) ts):1<=(frs (marksL N ts)).length:=by
 have h:=hW.lo
 exact List.length_pos_of_mem ((Zlt (marksL N ts)).2 _ |>.mpr (Zmb (p:=0) (Int.le_refl _) (by omega)))
theorem Zmk {N:Nat} {ts:List (Int × Int)} (hW:WebOk (N:Int) ts):Rng N ts ↔ (frs (marksL N ts)).length<=1/\(ts.length:Int) - (N:Int) + ((frs (marksL N ts)).length:Int) ≠ 0:=by
 have g:=Znz hW ts.length (Nat.le_refl _) (frs (marksL N ts)) (by rw [List.take_length]; exact Zlt _)
 have p:=Zmh hW
 constructor
 ·rintro ⟨h1,h2⟩
  have:=Zek.mp h1
  exact ⟨this,by omega⟩
 ·rintro ⟨h1,h2⟩
  exact ⟨Zek.mpr h1,by omega⟩
theorem Zth {N:Nat} {ts:List (Int × Int)} {d:D} (hW:WebOk (N:Int) ts) (h:rpB N ts d=true):OneP N ts/\N<=ts.length/\1<=ppG d/\ppG d<=25/\∃ rows,d=.tup [.int (ppG d),rows]:=by
 unfold rpB at h
 split at h
 ·rename_i g rows
  rw [Bool.and_eq_true,Bool.and_eq_true,Bool.and_eq_true] at h
  obtain ⟨h1,h2,h3,h4⟩:=h
  have r:=Zfr.mp h1
  have hg:=of_decide_eq_true h2
  have hl:=of_decide_eq_true h3
  refine ⟨r.1,r.2,hg,?_,_,rfl⟩
  obtain ⟨k,hk,hm⟩:=spare hW r.1 r.2
  rw [List.all_eq_true] at h4
  have ek:(enD rows)[k]? = some (.tup [.int (k:Int),rows.getD k .non]):=Zs1 (by rw [List.getElem?_eq_getElem (by omega),List.getD_eq_getElem?_getD,List.getElem?_eq_getElem (by omega)]; rfl)
  have:=h4 _ (List.mem_of_getElem? ek)
  have this:htB N ts ((k:Int)).toNat g (rows.getD k .non)=true:=this
  unfold htB at this
  rw [Bool.and_eq_true,Int.toNat_natCast] at this
  have:=Zsa hW hk hm (Zfr.mp this.2)
  have:=hW.hi
  show g<=25
  omega
 ·cases h
def fAreWX:DSp:=fun ds Post=>∃ d,ds=[d]/\TyN 1 d/\Post (.bl (awB d))
def fAhX:DSp:=fun ds Post=>∃ (N:Nat) (ts:List (Int × Int)) (k:Nat) (g:Int) (d:D),ds=[encWeb (N:Int) ts,.int k,.int g,d]/\WebOk (N:Int) ts/\k < ts.length/\TyN 1 d/\Post (.bl (htB N ts k g d))
def fIrpX:DSp:=fun ds Post=>∃ (N:Nat) (ts:List (Int × Int)) (d:D),ds=[encWeb (N:Int) ts,d]/\WebOk (N:Int) ts/\TyN 3 d/\Post (.bl (rpB N ts d))
def fRbX:DSp:=fun ds Post=>∃ (N:Nat) (ts:List (Int × Int)) (d:D),ds=[encWeb (N:Int) ts,d]/\WebOk (N:Int) ts/\TyN 3 d/\Post (rbV N ts d)
theorem Zjz {N:Nat} {ts:List (Int × Int)} {k:Nat} {g:Int} {d:D} (h:awB d=false\/¬ Hts N ts k g (tupI d)):htB N ts k g d=false:=by
 unfold htB
 rcases h with h | h
 ·rw [h]; rfl
 ·rw [show @decide (Hts N ts k g (tupI d)) (Classical.propDecidable _)=false from @decide_eq_false _ (Classical.propDecidable _) h,Bool.and_false]
theorem Zo7 {N:Nat} {ts:List (Int × Int)} {k:Nat} {g:Int} {ns:List Int} {b:Bool} (h:b=true ↔ Hts N ts k g ns):htB N ts k g (.tup (ns.map D.int))=b:=by
 unfold htB
 have e:awB (.tup (ns.map D.int))=true:=by
  show (ns.map D.int).all isIntX=true
  rw [List.all_eq_true]
  intro x hx
  obtain ⟨i,_,rfl⟩:=List.mem_map.mp hx
  rfl
 have et:tupI (.tup (ns.map D.int))=ns:=Zok ns
 rw [e,et,Bool.true_and,Bool.eq_iff_iff,Zfr,h]
section
variable {P:Program} {w:World} {K:PySem.W.Frag} {mg:Str->Option Value} {base:Heap} {f:Addr} {fd:FuncData}
theorem Zgk {Δ:Evt} {Pd:D->Evt->Prop} {d:D} {T:String} (hT:tyD d=some T) (p:Pd (.bl (isTup d)) Δ):JC K (rIsiU K) [d,.ty "tuple"] Δ Pd:=by
 cases d with
 | int i=>exact Zbf (T:="int") (b:=false) rfl (fun _=>by rfl) p
 | bl b=>exact Zbf (T:="bool") (b:=false) rfl (fun _=>by rfl) p
 | non=>exact Zbf (T:="NoneType") (b:=false) rfl (fun _=>by rfl) p
 | str x=>exact Zbf (T:="str") (b:=false) rfl (fun _=>by rfl) p
 | tup l=>exact Zbf (T:="tuple") (b:=true) rfl (fun _=>by rfl) p
 | lst l=>exact Zbf (T:="list") (b:=false) rfl (fun _=>by rfl) p
 | dct k l=>exact Zbf (T:="dict") (b:=false) rfl (fun _=>by rfl) p
 | _=>cases hT
theorem Zot (mb:Mb mg) (C_is_whole:Callee P w K mg base 1 "is_whole" ["thing"] (spD K fIsWX)) (F:Fun K "are_wholes" "are_wholes" s_are_wholes f fd):FnOk P w K mg base CX0 2 f fd ["thing"] (spD K fAreWX):=by
 refine F.ok sc_are_wholes (Zb2 fun ds Post h=>by obtain ⟨_,rfl,_⟩:=h; rfl) (fun cdv A outer s H vs Q E hr h=>?_)
 have hu:=Zco hr
 refine ⟨_,(Zak (Za9 (Zh5 (Zaj (isiUK K) rfl (mb "isinstance" (by decide)) Zbe (Zaa (pv 0) (Zaa (Zc5 rfl (mb "tuple" (by decide)) Zbk (show RelV (.ty "tuple") _ from rfl)) Zac))) (Zhy (Zaj (allK K rfl) rfl (mb "all" (by decide)) Zlz (Zaa (Zbn ["number"] (show CompSc (defScope s_are_wholes) ["thing"] _ [] [] from ⟨rfl,by decide +kernel,by decide +kernel,by decide +kernel,rfl,by decide +kernel⟩) rfl (seqK K (pv 0)) (fun _ _ _ _ _=>(Zam (i:=0) (show List.Nodup (["number"]:List Str) from by decide) rfl (Or.inl rfl))) (fun _ _ _ _ _=>Zb8) (fun _ _ _ _ _=>(Zbc C_is_whole (hr.mono (by decide)) (Zaa (pv 0) Zac)))) Zac)))))),Zdy (fun ds Post hf=>?_) h⟩
 obtain ⟨d,rfl,hd,q⟩:=hf
 refine ⟨by simp,?_⟩
 dsimp only [startD,List.tail,List.map,List.length,List.replicate]
 obtain ⟨T,hT⟩:=hd.ty
 refine Zav (Zbv (Za4 (Zab (Zad rfl (Zab (Zcp (Zah (Zgk hT ⟨_,rfl,?_⟩))))))))
 cases c:isTup d with
 | false=>rw [Zi1 c] at q; exact iteF q
 | true=>
  obtain ⟨ds,rfl⟩:=Zdq c
  obtain ⟨hl,he⟩:=hd.2 ds rfl
  refine iteT (Za4 (Zab (Zce (by decide) (Zc7 (Zad rfl ⟨ds,rfl,small1000 (by omega),fun _=>true,fun x=>.bl (isIntX x),fun i x hx=>?_,?_⟩)))))
  ·obtain ⟨T',hT'⟩:=he x (List.mem_of_getElem? hx)
   exact Zb7 ⟨rfl,Zbi (Zab (Zad rfl (Zah ⟨x,T',rfl,hT',rfl,_,rfl⟩)))⟩
  ·refine Zah ?_
   have e:(ds.filter fun _=>true).map (fun x=>D.bl (isIntX x))=(ds.map isIntX).map D.bl:=by
    rw [List.filter_eq_self.mpr (by simp),List.map_map]; rfl
   rw [e]
   refine Zl0 ?_
   rw [List.all_map]
   exact q
theorem Zsj (mb:Mb mg) (C_are_wholes:Callee P w K mg base 2 "are_wholes" ["thing"] (spD K fAreWX)) (C_other_ties:Callee P w K mg base 1 "other_ties" ["web","tie"] (spD K fOth)) (F:Fun K "are_heights" "are_heights" s_are_heights f fd):FnOk P w K mg base CX0 3 f fd ["web","tie","shortest","row"] (spD K fAhX):=by
 refine F.ok sc_are_heights (Zb2 fun ds Post h=>by obtain ⟨_,_,_,_,_,rfl,_⟩:=h; rfl) (fun cdv A outer s H vs Q E hr h=>?_)
 have hu:=Zco hr
 refine ⟨_,(Zaf (Zb0 (PW.pt (pw_or (Zd7 (truK K (Zbc C_are_wholes (hr.mono (by decide)) (Zaa (pv 3) Zac)) (fun _=>rfl))) (pw_or1 (Zar Zds (Zaj (lenK K) rfl (mb "len" (by decide)) Zbj (Zaa (pv 3) Zac)) (Zap (ixK K hu) (pv 0) Zae (fun _ _=>rfl)) (nomark _))))) (Zak (Za9 Zc6)) Za8) (Zaf (Zc0 (Zap (ixK K hu) (Zap (ixK K hu) (pv 0) Zae (fun _ _=>rfl)) (pv 1) (fun _ _=>rfl)) (gtupK (n:=2) K rfl (Zas (Zam (i:=4) sc_are_heights.nd rfl (Or.inl rfl)) (Zas (Zam (i:=5) sc_are_heights.nd rfl (Or.inl rfl)) Zbr)))) (Zaf (Zb0 (PW.pt (pw_or (Zar Zds (Zap (ixK K hu) (pv 3) (pv 4) (fun _ _=>rfl)) Zae (nomark _)) (pw_or1 (Zar Zmm (Zap (ixK K hu) (pv 3) (pv 5) (fun _ _=>rfl)) (Zan Zbw (pv 2) Zae) (nomark _))))) (Zak (Za9 Zc6)) Za8) (Zak (Za9 (Zaj (allK K rfl) rfl (mb "all" (by decide)) Zlz (Zaa (Zbn ["c","d"] (show CompSc (defScope s_are_heights) ["web","tie","shortest","row","a","b"] _ ["row"] [3] from ⟨rfl,by decide +kernel,by decide +kernel,by decide +kernel,rfl,by decide +kernel⟩) rfl (seqK K (Zbc C_other_ties (hr.mono (by decide)) (Zaa (pv 0) (Zaa (pv 1) Zac)))) (fun _ _ _ _ _=>(gtupK (n:=2) K rfl (Zas (Zam (i:=0) (show List.Nodup (["c","d","row"]:List Str) from by decide) rfl (Or.inl rfl)) (Zas (Zam (i:=1) (show List.Nodup (["c","d","row"]:List Str) from by decide) rfl (Or.inl rfl)) Zbr)))) (fun _ _ _ _ _=>Zb8) (fun _ _ _ _ _=>(Zfo Zt3 (Zaj Zed rfl (mb "abs" (by decide)) Zif (Zaa (Zan Zbw (Zap (ixK K hu) (pv 2) (pv 0) (fun _ _=>rfl)) (Zap (ixK K hu) (pv 2) (pv 1) (fun _ _=>rfl))) Zac)) Zae (nomark _)))) Zac))))))),Zdy (fun ds Post hf=>?_) h⟩
 obtain ⟨N,ts,k,g,d,rfl,hW,hk,hd,q⟩:=hf
 refine ⟨by simp,?_⟩
 dsimp only [startD,List.tail,List.map,List.length,List.replicate]
 have hN:=hW.hi
 have hlen:=hW.len
 have rk:=hW.tie ts[k] (List.getElem_mem hk)
 refine Zau (Zb4 (Ze0 (Zdv (Zdk (Zbi (Zab (Zad rfl (Zah ⟨d,rfl,hd,_,rfl,?_⟩))))))))
 cases c0:awB d with
 | false=>rw [Zjz (.inl c0)] at q; exact iteT (iteT (Zav (Zcg q)))
 | true=>
 obtain ⟨ds,rfl⟩:∃ ds,d=.tup ds:=by
  cases z:isTup d with
  | false=>rw [Zi1 z] at c0; cases c0
  | true=>exact Zdq z
 obtain ⟨hl0,_⟩:=hd.2 ds rfl
 have ed:=Zig c0
 generalize ds.map intD=r at ed
 subst ed
 have q:∀ b:Bool,(b=true ↔ Hts N ts k g r)->Post (.bl b):=fun b hb=>by rw [Zo7 hb] at q; exact q
 rw [List.length_map] at hl0
 refine iteF (Za0 (Zaz (Za4 (Zab (Zad rfl (Zah (Zbp (Or.inr rfl) (Za1 (Zaw (d:=.int (N:Int)) (Zag rfl) Zal rfl) (Zga ⟨_,rfl,?_⟩)))))))))
 rw [List.length_map]
 by_cases hl:r.length=N
 rotate_left
 ·rw [decide_eq_false (by omega)]
  exact iteT (Zav (Zcg (q false ⟨fun z=>Bool.noConfusion z,fun H=>absurd H.len hl⟩)))
 rw [hl,decide_eq_true rfl]
 refine iteF (Za2 ?_)
 have atT:atI (ts.map encTie) (k:Int)=some (encTie ts[k]):=Zcv (by rw [List.getElem?_map,List.getElem?_eq_getElem hk]; rfl)
 refine Zau (Zf2 (Za1 (Zaw (d:=encTie ts[k]) (Zaw (d:=.tup (ts.map encTie)) (Zag rfl) Zal rfl) (Zag rfl) atT) (Zdd rfl (Zba (Zbd (Zba (Zbd (Zck ?_))))))))
 refine Zbb (fun Δ=>r.getD ts[k].1.toNat 0=0/\g - 1<=r.getD ts[k].2.toNat 0 /\ Δ = [.val (encWeb (N:Int) ts),.val (.int k),.val (.int g),.val (.tup (r.map D.int)),.val (.int ts[k].1),.val (.int ts[k].2)]) ?_ ?_
 ·refine Zb4 (Ze0 (Za0 (Zaz (Za1 (Zaw (Zag rfl) (Zag rfl) (Zep rk.1 (by omega))) (Zay (Zga ⟨_,rfl,ite2 (fun c=>?_) fun c=>?_⟩))))))
  ·exact Zav (Zcg (q false ⟨fun z=>Bool.noConfusion z,fun H=>absurd (H.a _ (List.getElem?_eq_getElem hk)) (by simpa using c)⟩))
  have c:r.getD ts[k].1.toNat 0=0:=by simpa using c
  refine Za0 (Zaz (Za1 (Zaw (Zag rfl) (Zag rfl) (Zep rk.2.2.1 (by omega))) (Za1 (Za7 (Zag rfl) Zal Zc4) (Zfa ⟨_,rfl,ite2 (fun c2=>?_) fun c2=>Za2 ⟨c,?_,rfl⟩⟩))))
  ·have c2:r.getD ts[k].2.toNat 0 < g - 1:=of_decide_eq_true c2
   exact Zav (Zcg (q false ⟨fun z=>Bool.noConfusion z,fun H=>absurd (H.b _ (List.getElem?_eq_getElem hk)) (by omega)⟩))
  ·have c2:¬ r.getD ts[k].2.toNat 0 < g - 1:=of_decide_eq_false (by simpa using c2)
   omega
 rintro Δ1 ⟨ca,cb,rfl⟩
 refine Zav (Za4 (Zab (Zfh (by decide) (Zc7 (Zbi (Zab (Zad rfl (Zab (Zad rfl (Zah ⟨_,ts,k,rfl,hW,hk,_,rfl,?_,fun _=>true,fun d=>.bl (flB r d),fun i d hd=>?_,?_⟩))))))))))
 ·rw [List.length_map]; exact small1000 (by have:=List.length_eraseIdx_le ts k; omega)
 ·rw [List.getElem?_map] at hd
  cases z:(ts.eraseIdx k)[i]? with
  | none=>rw [z] at hd; cases hd
  | some t=>
   rw [z] at hd
   have hd:encTie t=d:=by simpa using hd
   subst hd
   have rt:=hW.tie t (List.mem_of_mem_eraseIdx (List.mem_of_getElem? z))
   exact ⟨_,_,rfl,Zb7 ⟨rfl,Zaz (Za4 (Zab (Za1 (Za7 (Zaw (Zag rfl) (Zag rfl) (Zep rt.1 (by omega))) (Zaw (Zag rfl) (Zag rfl) (Zep rt.2.2.1 (by omega))) Zc4) (Zah (Zl5 (Zay (Zfa ⟨rfl,_,_,rfl⟩)))))))⟩⟩
 ·refine Zah ?_
  have e:(((ts.eraseIdx k).map encTie).filter fun _=>true).map (fun d=>D.bl (flB r d))=(((ts.eraseIdx k).map fun t=>flB r (encTie t))).map D.bl:=by
   rw [List.filter_eq_self.mpr (by simp),List.map_map,List.map_map]; rfl
  rw [e]
  refine Zl0 (q _ ?_)
  rw [List.all_map,List.all_eq_true]
  constructor
  ·intro h
   refine ⟨hl,fun t ht=>?_,fun t ht=>?_,fun t ht=>?_⟩
   ·rw [List.getElem?_eq_getElem hk] at ht; cases ht; exact ca
   ·rw [List.getElem?_eq_getElem hk] at ht; cases ht; exact cb
   ·have:=h t ht
    have:=Zjc.mp (of_decide_eq_true (show decide (absI (r.getD t.1.toNat 0 - r.getD t.2.toNat 0)<=1)=true from this))
    omega
  ·intro H t ht
   have:=H.flat t ht
   show decide (absI (r.getD t.1.toNat 0 - r.getD t.2.toNat 0)<=1)=true
   exact decide_eq_true (Zjc.mpr (by omega))
end
section
variable {N:Nat} {ts:List (Int × Int)}
theorem Zo1 {d:D} (h:¬ Rng N ts):rpB N ts d=false:=by
 unfold rpB
 split
 ·rw [show @decide (Rng N ts) (Classical.propDecidable _)=false from @decide_eq_false _ (Classical.propDecidable _) h]; rfl
 ·rfl
theorem Ze3 {d:D} (h:∀ g rows,d ≠ .tup [.int g,.tup rows]):rpB N ts d=false:=by
 unfold rpB
 split
 ·rename_i g rows; exact absurd rfl (h g rows)
 ·rfl
theorem Zj6 {g:Int} {rows:List D} (h:g < 1\/rows.length ≠ ts.length):rpB N ts (.tup [.int g,.tup rows])=false:=by
 show (_ && (_ && (_ && _)))=false
 rcases h with h | h
 ·rw [decide_eq_false (by omega:¬ 1<=g),Bool.false_and,Bool.and_false]
 ·rw [decide_eq_false h,Bool.false_and,Bool.and_false,Bool.and_false]
noncomputable def rowA (N:Nat) (ts:List (Int × Int)) (g:Int) (d:D):Bool:=match d with | .tup [.int k,r]=>htB N ts k.toNat g r | _=>false
theorem Zsd {g:Int} {rows:List D} (h:Rng N ts) (hg:1<=g) (hl:rows.length=ts.length):rpB N ts (.tup [.int g,.tup rows])=(enD rows).all (rowA N ts g):=by
 show (_ && (_ && (_ && _)))=_
 rw [Zfr.mpr h,decide_eq_true hg,decide_eq_true hl]; rfl
end
section
variable {P:Program} {w:World} {K:PySem.W.Frag} {mg:Str->Option Value} {base:Heap} {f:Addr} {fd:FuncData}
theorem Zqw (mb:Mb mg) (C_parts_of:Callee P w K mg base 1 "parts_of" ["web"] (spN K fParts)) (C_rank_of:Callee P w K mg base 2 "rank_of" ["web"] (spD K fRank)) (C_is_whole:Callee P w K mg base 1 "is_whole" ["thing"] (spD K fIsWX)) (C_are_heights:Callee P w K mg base 3 "are_heights" ["web","tie","shortest","row"] (spD K fAhX)) (F:Fun K "is_ring_paper" "is_ring_paper" s_is_ring_paper f fd):FnOk P w K mg base CX0 4 f fd ["web","paper"] (spD K fIrpX):=by
 refine F.ok sc_is_ring_paper (Zb2 fun ds Post h=>by obtain ⟨_,_,_,rfl,_⟩:=h; rfl) (fun cdv A outer s H vs Q E hr h=>?_)
 have hu:=Zco hr
 refine ⟨_,(Zaf (Zb0 (PW.pt (pw_or (Zar Znf (Zaj (lenK K) rfl (mb "len" (by decide)) Zbj (Zaa (Zbc C_parts_of (hr.mono (by decide)) (Zaa (pv 0) Zac)) Zac)) Zae (nomark _)) (pw_or1 (Zar Zbx (Zbc C_rank_of (hr.mono (by decide)) (Zaa (pv 0) Zac)) Zae (nomark _))))) (Zak (Za9 Zc6)) Za8) (Zaf (Zb0 (PW.pt (pw_or (Zd7 (truK K (Zaj (isiUK K) rfl (mb "isinstance" (by decide)) Zbe (Zaa (pv 1) (Zaa (Zc5 rfl (mb "tuple" (by decide)) Zbk (show RelV (.ty "tuple") _ from rfl)) Zac))) (fun _=>rfl))) (pw_or1 (Zar Zds (Zaj (lenK K) rfl (mb "len" (by decide)) Zbj (Zaa (pv 1) Zac)) Zae (nomark _))))) (Zak (Za9 Zc6)) Za8) (Zaf (Zc0 (pv 1) (gtupK (n:=2) K rfl (Zas (Zam (i:=2) sc_is_ring_paper.nd rfl (Or.inr rfl)) (Zas (Zam (i:=3) sc_is_ring_paper.nd rfl (Or.inl rfl)) Zbr)))) (Zaf (Zb0 (PW.pt (pw_or (Zd7 (truK K (Zbc C_is_whole (hr.mono (by decide)) (Zaa (pv 2) Zac)) (fun _=>rfl))) (pw_or1 (Zar Zmm (pv 2) Zae (nomark _))))) (Zak (Za9 Zc6)) Za8) (Zaf (Zb0 (PW.pt (pw_or (Zd7 (truK K (Zaj (isiUK K) rfl (mb "isinstance" (by decide)) Zbe (Zaa (pv 3) (Zaa (Zc5 rfl (mb "tuple" (by decide)) Zbk (show RelV (.ty "tuple") _ from rfl)) Zac))) (fun _=>rfl))) (pw_or1 (Zar Zds (Zaj (lenK K) rfl (mb "len" (by decide)) Zbj (Zaa (pv 3) Zac)) (Zaj (lenK K) rfl (mb "len" (by decide)) Zbj (Zaa (Zap (ixK K hu) (pv 0) Zae (fun _ _=>rfl)) Zac)) (nomark _))))) (Zak (Za9 Zc6)) Za8) (Zak (Za9 (Zaj (allK K rfl) rfl (mb "all" (by decide)) Zlz (Zaa (Zbn ["tie","row"] (show CompSc (defScope s_is_ring_paper) ["web","paper","shortest","heights"] _ ["web","shortest"] [0,2] from ⟨rfl,by decide +kernel,by decide +kernel,by decide +kernel,rfl,by decide +kernel⟩) rfl (Zc3 K rfl (mb "enumerate" (by decide)) (Zaa (pv 3) Zac)) (fun _ _ _ _ _=>(gtupK (n:=2) K rfl (Zas (Zam (i:=0) (show List.Nodup (["tie","row","web","shortest"]:List Str) from by decide) rfl (Or.inl rfl)) (Zas (Zam (i:=1) (show List.Nodup (["tie","row","web","shortest"]:List Str) from by decide) rfl (Or.inl rfl)) Zbr)))) (fun _ _ _ _ _=>Zb8) (fun _ _ _ _ _=>(Zbc C_are_heights (hr.mono (by decide)) (Zaa (pv 2) (Zaa (pv 0) (Zaa (pv 3) (Zaa (pv 1) Zac))))))) Zac))))))))),Zdy (fun ds Post hf=>?_) h⟩
 obtain ⟨N,ts,d,rfl,hW,hd,q⟩:=hf
 refine ⟨by simp,?_⟩
 dsimp only [startD,List.tail,List.map,List.length,List.replicate]
 have hN:=hW.hi
 have hlen:=hW.len
 have no:rpB N ts d=false->Post (.bl false):=fun h=>by rw [h] at q; exact q
 refine Zau (Zb4 (Ze0 (Za0 (Zaz (Za4 (Zab (Zcs (Zes (Zab (Zad rfl (Zah ⟨_,ts,rfl,hW,fun ms hm=>⟨_,rfl,?_⟩⟩)))))))))))
 rw [Int.toNat_natCast] at hm ⊢
 refine Zah (Zbp (Or.inl rfl) (Zay (Zfa ⟨_,rfl,?_⟩)))
 rw [List.length_map,show (partsL N ts ms).length=ms.length from List.length_map _,Zj5 hm]
 by_cases c1:(frs (marksL N ts)).length<=1
 rotate_left
 ·rw [decide_eq_true (show ((frs (marksL N ts)).length:Int) > 1 by omega)]
  exact iteT (iteT (Zav (Zcg (no (Zo1 fun z=>c1 (Zek.mp z.1))))))
 rw [decide_eq_false (show ¬ ((frs (marksL N ts)).length:Int) > 1 by omega)]
 refine iteF (Za0 (Zaz (Zbi (Zab (Zad rfl (Zah ⟨N,ts,rfl,hW,fun ms2 hm2=>Zay (Zdu ⟨_,rfl,?_⟩)⟩))))))
 rw [Zj5 hm2]
 by_cases c2:(ts.length:Int) - (N:Int) + ((frs (marksL N ts)).length:Int)=0
 ·rw [decide_eq_true c2]
  exact iteT (Zav (Zcg (no (Zo1 fun z=>((Zmk hW).mp z).2 c2))))
 rw [decide_eq_false c2]
 have hR:Rng N ts:=(Zmk hW).mpr ⟨c1,c2⟩
 refine iteF (Za2 ?_)
 obtain ⟨T,hT⟩:=hd.ty
 refine Zau (Zb4 (Ze0 (Zdv (Zdk (Za4 (Zab (Zad rfl (Zab (Zcp (Zah (Zgk hT ⟨_,rfl,?_⟩)))))))))))
 cases c3:isTup d with
 | false=>exact iteT (iteT (Zav (Zcg (no (Ze3 fun g rows e=>by rw [e] at c3; cases c3)))))
 | true=>
 obtain ⟨ds,rfl⟩:=Zdq c3
 obtain ⟨hl,he⟩:=hd.2 ds rfl
 refine iteF (Za0 (Zaz (Za4 (Zab (Zad rfl (Zah (Zbp (Or.inr rfl) (Zay (Zga ⟨_,rfl,?_⟩)))))))))
 by_cases c4:ds.length=2
 rotate_left
 ·rw [decide_eq_false (by omega)]
  exact iteT (Zav (Zcg (no (Ze3 fun g rows e=>by cases e; exact c4 rfl))))
 rw [decide_eq_true (by omega)]
 refine iteF (Za2 ?_)
 obtain ⟨x,y,rfl⟩:∃ x y,ds=[x,y]:=by
  match ds,c4 with
  | [x,y],_=>exact ⟨x,y,rfl⟩
 have hx:=he x List.mem_cons_self
 have hy:=he y (List.mem_cons_of_mem _ List.mem_cons_self)
 obtain ⟨Tx,hTx⟩:=hx.ty
 obtain ⟨Ty,hTy⟩:=hy.ty
 refine Zau (Zf2 (Zad rfl (Zdd rfl (Zba (Zbd (Zba (Zbd (Zck ?_))))))))
 refine Zau (Zb4 (Ze0 (Zdv (Zdk (Zbi (Zab (Zad rfl (Zah ⟨x,Tx,rfl,hTx,_,rfl,?_⟩))))))))
 cases c5:isIntX x with
 | false=>exact iteT (iteT (Zav (Zcg (no (Ze3 fun g rows e=>by cases e; cases c5)))))
 | true=>
 obtain ⟨g,rfl⟩:∃ g,x=.int g:=by
  cases x with
  | int g=>exact ⟨g,rfl⟩
  | _=>cases c5
 refine iteF (Za0 (Zaz (Zad rfl (Zay (Zfa ⟨_,rfl,?_⟩)))))
 by_cases c6:g < 1
 ·rw [decide_eq_true c6]
  cases y with
  | tup rows=>exact iteT (Zav (Zcg (no (Zj6 (.inl c6)))))
  | _=>exact iteT (Zav (Zcg (no rfl)))
 rw [decide_eq_false c6]
 refine iteF (Za2 ?_)
 refine Zau (Zb4 (Ze0 (Zdv (Zdk (Za4 (Zab (Zad rfl (Zab (Zcp (Zah (Zgk hTy ⟨_,rfl,?_⟩)))))))))))
 cases c7:isTup y with
 | false=>exact iteT (iteT (Zav (Zcg (no (Ze3 fun g rows e=>by cases e; cases c7)))))
 | true=>
 obtain ⟨rows,rfl⟩:=Zdq c7
 obtain ⟨hrl,hre⟩:=hy.2 rows rfl
 refine iteF (Za0 (Zaz (Za4 (Zab (Zad rfl (Zah (Zbp (Or.inr rfl) (Za4 (Zab (Za1 (Zaw (d:=.tup (ts.map encTie)) (Zag rfl) Zal rfl) (Zah (Zbp (Or.inr rfl) (Zga ⟨_,rfl,?_⟩)))))))))))))
 rw [List.length_map]
 by_cases c8:rows.length=ts.length
 rotate_left
 ·rw [decide_eq_false (by omega)]
  exact iteT (Zav (Zcg (no (Zj6 (.inr c8)))))
 rw [decide_eq_true (by omega)]
 refine iteF (Za2 ?_)
 rw [Zsd hR (by omega) c8] at q
 refine Zav (Za4 (Zab (Zfh (by decide) (Zhi (Zab (Zad rfl (Zah ⟨_,Or.inr rfl,?_,fun _=>true,fun d=>.bl (rowA N ts g d),fun i d hd=>?_,?_⟩)))))))
 ·rw [Zgb]; exact small1000 (by omega)
 ·obtain ⟨e,he,rfl⟩:=Zev hd
  have hi:=(List.getElem?_eq_some_iff.mp he).1
  refine ⟨_,_,rfl,Zb7 ⟨rfl,Zbi (Zab (Zad rfl (Zab (Zad rfl (Zab (Zad rfl (Zab (Zad rfl (Zah ⟨N,ts,i,g,e,rfl,hW,by omega,hre e (List.mem_of_getElem? he),?_,_,_,rfl⟩)))))))))⟩⟩
  show D.bl (htB N ts i g e)=.bl (htB N ts ((i:Int)).toNat g e)
  rw [Int.toNat_natCast]
 ·refine Zah ?_
  have e:((enD rows).filter fun _=>true).map (fun d=>D.bl (rowA N ts g d))=((enD rows).map (rowA N ts g)).map D.bl:=by
   rw [List.filter_eq_self.mpr (by simp),List.map_map]; rfl
  rw [e]
  refine Zl0 ?_
  rw [List.all_map]
  exact q
theorem Zs8 (mb:Mb mg) (C_bars_of:Callee P w K mg base 3 "bars_of" ["web","shortest"] (spD K fBars)) (C_is_ring_paper:Callee P w K mg base 4 "is_ring_paper" ["web","paper"] (spD K fIrpX)) (F:Fun K "ring_bars" "ring_bars" s_ring_bars f fd):FnOk P w K mg base CX0 5 f fd ["web","paper"] (spD K fRbX):=by
 refine F.ok sc_ring_bars (Zb2 fun ds Post h=>by obtain ⟨_,_,_,rfl,_⟩:=h; rfl) (fun cdv A outer s H vs Q E hr h=>?_)
 have hu:=Zco hr
 refine ⟨_,(Zak (Za9 (Zjv (truK K (Zbc C_is_ring_paper (hr.mono (by decide)) (Zaa (pv 0) (Zaa (pv 1) Zac))) (fun _=>rfl)) (Zbc C_bars_of (hr.mono (by decide)) (Zaa (pv 0) (Zaa (Zap (ixK K hu) (pv 1) Zae (fun _ _=>rfl)) Zac))) Zgr))),Zdy (fun ds Post hf=>?_) h⟩
 obtain ⟨N,ts,d,rfl,hW,hd,q⟩:=hf
 refine ⟨by simp,?_⟩
 dsimp only [startD,List.tail,List.map,List.length,List.replicate]
 refine Zav (Zjx (Zdk (Zbi (Zab (Zad rfl (Zab (Zad rfl (Zah ⟨N,ts,d,rfl,hW,hd,_,rfl,?_⟩))))))))
 cases c:rpB N ts d with
 | true=>
  obtain ⟨h1,h2,h3,h4,rows,e⟩:=Zth hW c
  have q2:Post (.int (barI N ts (ppG d))):=by
   have:rbV N ts d=.int (barI N ts (ppG d)):=if_pos c
   rw [this] at q; exact q
  generalize ppG d=g at h3 h4 e q2
  subst e
  refine iteT (Zbi (Zab (Zad rfl (Zab (Za1 (Zaw (d:=.int g) (Zag rfl) Zal rfl) (Zah ⟨N,ts,g,rfl,hW,h1,h3,h4,q2⟩))))))
 | false=>
  have:rbV N ts d=.non:=if_neg (by rw [c]; exact Bool.false_ne_true)
  rw [this] at q
  exact iteF (Zjn q)
end
section
variable {P:Program} {w:World} {K:PySem.W.Frag} {mg:Str->Option Value} {base:Heap} {f:Addr} {fd:FuncData}
theorem Zq5 {j n:Nat} (h:j < n):ixN n (j:Int)=some j:=by
 unfold ixN
 rw [if_pos (by omega),if_pos (by omega)]
 rfl
end
section
variable {P:Program} {w:World} {K:PySem.W.Frag} {mg:Str->Option Value} {base:Heap} {f:Addr} {fd:FuncData}
def sndD:D->D
 | .tup [_,d]=>d
 | d=>d
end
section
variable {P:Program} {w:World} {K:PySem.W.Frag} {mg:Str->Option Value} {base:Heap} {f:Addr} {fd:FuncData}
theorem Zmz (mb:Mb mg) (F:Fun K "_law_whole" "_law_whole" s_law_whole f fd):FnOk P w K mg base CX0 1 f fd ["_law_found"] (spD K fIsWX):=by
 refine F.ok sc_law_whole (Zb2 fun ds Post h=>by obtain ⟨_,_,rfl,_⟩:=h; rfl) (fun cdv A outer s H vs Q E hr h=>?_)
 have hu:=Zco hr
 refine ⟨_,(Zak (Za9 (Zh5 (Zaj (isiUK K) rfl (mb "isinstance" (by decide)) Zbe (Zaa (pv 0) (Zaa (Zc5 rfl (mb "int" (by decide)) Zpg (show RelV (.ty "int") _ from rfl)) Zac))) (Zhy (Zox (Zaj (isiUK K) rfl (mb "isinstance" (by decide)) Zbe (Zaa (pv 0) (Zaa (Zc5 rfl (mb "bool" (by decide)) Zme (show RelV (.ty "bool") _ from rfl)) Zac)))))))),Zdy (fun ds Post hf=>?_) h⟩
 obtain ⟨d,T,rfl,hT,q⟩:=hf
 refine ⟨by simp,?_⟩
 dsimp only [startD,List.tail,List.map,List.length]
 cases d with
 | int i=>
  refine Zav (Zbv (Za4 (Zab (Zad rfl (Zab (Zcp (Zah (Zbf (T:="int") (b:=true) rfl (fun _=>by rfl) ⟨_,rfl,?_⟩))))))))
  rw [if_pos rfl]
  exact Zfs (Za4 (Zab (Zad rfl (Zab (Zcp (Zah (Zbf (T:="int") (b:=false) rfl (fun _=>by rfl) ⟨_,rfl,q⟩)))))))
 | bl b=>
  refine Zav (Zbv (Za4 (Zab (Zad rfl (Zab (Zcp (Zah (Zbf (T:="bool") (b:=true) rfl (fun _=>by rfl) ⟨_,rfl,?_⟩))))))))
  rw [if_pos rfl]
  exact Zfs (Za4 (Zab (Zad rfl (Zab (Zcp (Zah (Zbf (T:="bool") (b:=true) rfl (fun _=>by rfl) ⟨_,rfl,q⟩)))))))
 | non=>exact Zav (Zbv (Za4 (Zab (Zad rfl (Zab (Zcp (Zah (Zbf (T:="NoneType") (b:=false) rfl (fun _=>by rfl) ⟨_,rfl,iteF q⟩))))))))
 | str x=>exact Zav (Zbv (Za4 (Zab (Zad rfl (Zab (Zcp (Zah (Zbf (T:="str") (b:=false) rfl (fun _=>by rfl) ⟨_,rfl,iteF q⟩))))))))
 | tup l=>exact Zav (Zbv (Za4 (Zab (Zad rfl (Zab (Zcp (Zah (Zbf (T:="tuple") (b:=false) rfl (fun _=>by rfl) ⟨_,rfl,iteF q⟩))))))))
 | lst l=>exact Zav (Zbv (Za4 (Zab (Zad rfl (Zab (Zcp (Zah (Zbf (T:="list") (b:=false) rfl (fun _=>by rfl) ⟨_,rfl,iteF q⟩))))))))
 | dct k l=>exact Zav (Zbv (Za4 (Zab (Zad rfl (Zab (Zcp (Zah (Zbf (T:="dict") (b:=false) rfl (fun _=>by rfl) ⟨_,rfl,iteF q⟩))))))))
 | _=>cases hT
end
theorem Zjo {K:PySem.W.Frag} {G:Hp}:∀ {vs:List V} {bs:List Bool},Reps K G vs (bs.map D.bl)->vs=bs.map V.bl
 | _,[],h=>by cases h; rfl
 | _,b :: bs,h=>by
  obtain ⟨v,vs',rfl,r,t⟩:=h.inv
  cases r.inv
  rw [Zjo t]; rfl
theorem Zpd:∀ bs:List Bool,inV (.bl false) (bs.map V.bl) = !bs.all id
 | []=>rfl
 | b :: bs=>by
  have:=Zpd bs
  unfold inV at this ⊢
  rw [List.map_cons,List.any_cons,this,List.all_cons]
  cases b <;> rfl
theorem Zp8 {K:PySem.W.Frag} {Δ:Evt} {P:D->Evt->Prop} {bs:List Bool} (p:P (.bl (!bs.all id)) Δ):JR2 K (rInU K false) (.bl false) (.lst (bs.map .bl)) Δ P:=fun g G H σ Q x y k rx ry c=>by
 cases rx.inv
 obtain ⟨a,vs,rfl,ha,rs⟩:=ry.inv
 have ev:=Zjo rs
 subst ev
 refine .inl ⟨a,_,rfl,.inl (SqL.of (k.live _ _ ha)),rfl,by rw [List.all_map]; exact List.all_eq_true.mpr fun _ _=>rfl,?_⟩
 rw [Zpd]
 exact c _ _ G H Δ k (Same.refl _) (.bl _) p
theorem Ztz {N:Nat} {ts:List (Int × Int)} {g:Int} {rows:List D} (hg:1<=g) (hl:rows.length=ts.length):rpB N ts (.tup [.int g,.tup rows])=(@decide (Rng N ts) (Classical.propDecidable _) && (enD rows).all (rowA N ts g)):=by
 show (_ && (_ && (_ && _)))=_
 rw [decide_eq_true hg,decide_eq_true hl]; rfl
def fLB:DSp:=fun ds Post=>∃ (N:Nat) (ts:List (Int × Int)) (g:Int),ds=[encWeb (N:Int) ts,.int g]/\WebOk (N:Int) ts/\1<=g/\g<=25/\Post (.int (barI N ts g))
def fFar:DSp:=fun ds Post=>∃ (N:Nat) (ts:List (Int × Int)) (k:Nat),ds=[encWeb (N:Int) ts,.int k]/\WebOk (N:Int) ts/\k < ts.length/\∀ ns:List Int,ns.length=N->(∀ x ∈ ns,0<=x/\x<=25)->Post (.tup (ns.map .int))
def neK (k:Nat):D->Bool
 | .tup [.int i,_]=>!decide (i=(k:Int))
 | _=>false
theorem Zin {ns:List Int} {j:Nat} {v:Int} (h:∀ x ∈ ns,0<=x/\x<=25) (h0:0<=v) (h1:v<=25):∀ x ∈ ns.set j v,0<=x/\x<=25:=fun x hx=>by
 rcases List.mem_or_eq_of_mem_set hx with h' | h'
 ·exact h x h'
 ·rw [h']; exact ⟨h0,h1⟩
theorem Zmt {n:Nat} {a:Int} (h0:0<=a) (h1:a < (n:Int)):ixN n a=some a.toNat:=by
 have:=Zq5 (j:=a.toNat) (n:=n) (by omega)
 rw [Int.toNat_of_nonneg h0] at this
 exact this
theorem Zqi {K:PySem.W.Frag} {Δ:Evt} {ta tb:TE} {Po:OD->Evt->Prop} (h:JE K ta Δ fun d Δ1=>JE K tb Δ1 fun e Δ2=>∃ (x:D) (n:Nat),d=.lst [x]/\e=.int (n:Int)/\n<=1000/\Po (.lst (List.replicate n x)) Δ2):JO K (tOp (rMulL K) ta tb) Δ Po:=fun g G H σ Q k c=>
 h g G H σ _ k fun x d G1 H1 Δ1 k1 s1 r1 p1=>p1 g G1 H1 σ _ k1 fun y e G2 H2 Δ2 k2 s2 r2 ⟨z,n,hd,he,hn,p⟩=>by
  subst hd he
  cases r2.inv
  obtain ⟨a,us,rfl,ha,rs⟩:=(r1.mono s2).inv
  obtain ⟨u,t,rfl,r,tt⟩:=rs.inv
  cases tt.inv
  refine ⟨a,u,n,rfl,rfl,SqL.of (k2.live _ _ ha),hn,fun l hl=>?_⟩
  obtain ⟨k4,pd⟩:=k2.fresh (od:=.lst (List.replicate n z)) hl (show OwnRep K G2 (.lst (List.replicate n u)) (.lst (List.replicate n z)) from Zhg r n)
  exact c l _ G2 _ Δ2 k4 (s1.trans s2) pd p
section
variable {P:Program} {w:World} {K:PySem.W.Frag} {mg:Str->Option Value} {base:Heap} {f:Addr} {fd:FuncData}
theorem Zii (mb:Mb mg) (C__law_whole:Callee P w K mg base 1 "_law_whole" ["_law_found"] (spD K fIsWX)) (F:Fun K "_law_heights" "_law_heights" s_law_heights f fd):FnOk P w K mg base CX0 2 f fd ["_law_web_here","_law_tie","_law_least","_law_heights_here"] (spD K fAhX):=by
 refine F.ok sc_law_heights (Zb2 fun ds Post h=>by obtain ⟨_,_,_,_,_,rfl,_⟩:=h; rfl) (fun cdv A outer s H vs Q E hr h=>?_)
 have hu:=Zco hr
 refine ⟨_,(Zaf (Zb0 (PW.pt (pw_or (Zd7 (truK K (Zaj (isiUK K) rfl (mb "isinstance" (by decide)) Zbe (Zaa (pv 3) (Zaa (Zc5 rfl (mb "tuple" (by decide)) Zbk (show RelV (.ty "tuple") _ from rfl)) Zac))) (fun _=>rfl))) (pw_or1 (Zar Zds (Zaj (lenK K) rfl (mb "len" (by decide)) Zbj (Zaa (pv 3) Zac)) (Zap (ixK K hu) (pv 0) Zae (fun _ _=>rfl)) (nomark _))))) (Zak (Za9 Zc6)) Za8) (Zaf (Zb0 (Zar (inK K hu) Zc6 (Zbn ["_law_height"] (show CompSc (defScope s_law_heights) ["_law_web_here","_law_tie","_law_least","_law_heights_here","_law_a","_law_b","_law_other","_law_pair"] _ [] [] from ⟨rfl,by decide +kernel,by decide +kernel,by decide +kernel,rfl,by decide +kernel⟩) rfl (seqK K (pv 3)) (fun _ _ _ _ _=>(Zam (i:=0) (show List.Nodup (["_law_height"]:List Str) from by decide) rfl (Or.inl rfl))) (fun _ _ _ _ _=>Zb8) (fun _ _ _ _ _=>(Zbc C__law_whole (hr.mono (by decide)) (Zaa (pv 0) Zac)))) rfl) (Zak (Za9 Zc6)) Za8) (Zaf (Zc0 (Zap (ixK K hu) (Zap (ixK K hu) (pv 0) Zae (fun _ _=>rfl)) (pv 1) (fun _ _=>rfl)) (gtupK (n:=2) K rfl (Zas (Zam (i:=4) sc_law_heights.nd rfl (Or.inl rfl)) (Zas (Zam (i:=5) sc_law_heights.nd rfl (Or.inl rfl)) Zbr)))) (Zaf (Zcq PassesOwn.never rfl (Zc3 K rfl (mb "enumerate" (by decide)) (Zaa (Zap (ixK K hu) (pv 0) Zae (fun _ _=>rfl)) Zac)) (gtupK (n:=2) K rfl (Zas (Zam (i:=6) sc_law_heights.nd rfl (Or.inl rfl)) (Zas (Zam (i:=7) sc_law_heights.nd rfl (Or.inl rfl)) Zbr))) (Zak (Zb0 (PW.pt (pw_and (Zar Zds (pv 6) (pv 1) (nomark _)) (pw_and1 (Zar Znf (Zaj Zed rfl (mb "abs" (by decide)) Zif (Zaa (Zan Zbw (Zap (ixK K hu) (pv 3) (Zap (ixK K hu) (pv 7) Zae (fun _ _=>rfl)) (fun _ _=>rfl)) (Zap (ixK K hu) (pv 3) (Zap (ixK K hu) (pv 7) Zae (fun _ _=>rfl)) (fun _ _=>rfl))) Zac)) Zae (nomark _))))) (Zak (Za9 Zc6)) Za8))) (Zak (Za9 (Zh5 (Zfo Zbx (Zap (ixK K hu) (pv 3) (pv 4) (fun _ _=>rfl)) Zae (nomark _)) (Zhy (Zfo Zn0 (Zap (ixK K hu) (pv 3) (pv 5) (fun _ _=>rfl)) (Zan Zbw (pv 2) Zae) (nomark _)))))))))),Zdy (fun ds Post hf=>?_) h⟩
 obtain ⟨N,ts,k,g,d,rfl,hW,hk,hd,q⟩:=hf
 refine ⟨by simp,?_⟩
 dsimp only [startD,List.tail,List.map,List.length,List.replicate]
 have hN:=hW.hi
 have hlen:=hW.len
 have rk:=hW.tie ts[k] (List.getElem_mem hk)
 obtain ⟨T,hT⟩:=hd.ty
 refine Zau (Zb4 (Ze0 (Zdv (Zdk (Za4 (Zab (Zad rfl (Zab (Zcp (Zah (Zgk hT ⟨_,rfl,?_⟩)))))))))))
 cases c:isTup d with
 | false=>rw [Zjz (.inl (Zi1 c))] at q; exact iteT (iteT (Zav (Zcg q)))
 | true=>
 obtain ⟨ds,rfl⟩:=Zdq c
 obtain ⟨hl0,he⟩:=hd.2 ds rfl
 refine iteF (Za0 (Zaz (Za4 (Zab (Zad rfl (Zah (Zbp (Or.inr rfl) (Za1 (Zaw (d:=.int (N:Int)) (Zag rfl) Zal rfl) (Zga ⟨_,rfl,?_⟩)))))))))
 by_cases hl:ds.length=N
 rotate_left
 ·rw [decide_eq_false (by omega)]
  rw [Zjz (.inr fun H=>hl (by have:=H.len; rw [show tupI (.tup ds)=ds.map intD from rfl,List.length_map] at this; exact this))] at q
  exact iteT (Zav (Zcg q))
 rw [decide_eq_true (by omega)]
 refine iteF (Za2 ?_)
 refine Zau (Zb4 (Za0 (Zaz (Zcg (Zce (by decide) (Zc7 (Zad rfl ⟨ds,rfl,small1000 (by omega),fun _=>true,fun x=>.bl (isIntX x),fun i x hx=>?_,?_⟩)))))))
 ·obtain ⟨T',hT'⟩:=he x (List.mem_of_getElem? hx)
  exact Zb7 ⟨rfl,Zbi (Zab (Zad rfl (Zah ⟨x,T',rfl,hT',rfl,_,rfl⟩)))⟩
 have e:(ds.filter fun _=>true).map (fun x=>D.bl (isIntX x))=(ds.map isIntX).map D.bl:=by
  rw [List.filter_eq_self.mpr (by simp),List.map_map]; rfl
 rw [e]
 refine Zp8 ⟨_,rfl,?_⟩
 rw [List.all_map]
 show if (!(ds.all isIntX))=true then _ else _
 cases c0:ds.all isIntX with
 | false=>rw [Zjz (.inl (show awB (.tup ds)=false from c0))] at q; exact iteT (Zav (Zcg q))
 | true=>
 have ed:=Zig c0
 generalize ds.map intD=r at ed
 subst ed
 have q:∀ b:Bool,(b=true ↔ Hts N ts k g r)->Post (.bl b):=fun b hb=>by rw [Zo7 hb] at q; exact q
 rw [List.length_map] at hl
 refine iteF (Za2 ?_)
 have atT:∀ j (hj:j < ts.length),atI (ts.map encTie) (j:Int)=some (encTie ts[j]):=fun j hj=>Zcv (by rw [List.getElem?_map,List.getElem?_eq_getElem hj]; rfl)
 refine Zau (Zf2 (Za1 (Zaw (d:=encTie ts[k]) (Zaw (d:=.tup (ts.map encTie)) (Zag rfl) Zal rfl) (Zag rfl) (atT k hk)) (Zdd rfl (Zba (Zbd (Zba (Zbd (Zck ?_))))))))
 refine Zbb (fun Δ=>(∀ j (hj:j < ts.length),j ≠ k->r.getD ts[j].1.toNat 0 - r.getD ts[j].2.toNat 0<=1/\r.getD ts[j].2.toNat 0 - r.getD ts[j].1.toNat 0<=1)/\∃ x6 x7:L2.Slot,Δ = [.val (encWeb (N:Int) ts),.val (.int k),.val (.int g),.val (.tup (r.map D.int)),.val (.int ts[k].1),.val (.int ts[k].2),x6,x7]) ?_ ?_
 ·refine Zcr (Zhi (Zab (Za1 (Zaw (d:=.tup (ts.map encTie)) (Zag rfl) Zal rfl) (Zah ⟨_,Or.inr rfl,fun i Δ=>(∀ j (hj:j < ts.length),j < i->j ≠ k->r.getD ts[j].1.toNat 0 - r.getD ts[j].2.toNat 0<=1/\r.getD ts[j].2.toNat 0 - r.getD ts[j].1.toNat 0<=1)/\∃ x6 x7:L2.Slot,Δ = [.val (encWeb (N:Int) ts),.val (.int k),.val (.int g),.val (.tup (r.map D.int)),.val (.int ts[k].1),.val (.int ts[k].2),x6,x7],⟨fun j _ hj=>absurd hj (Nat.not_lt_zero j),_,_,rfl⟩,?_,?_⟩))))
  ·rintro i d Δ2 hd ⟨hf,x6,x7,rfl⟩
   obtain ⟨e,he,rfl⟩:=Zev hd
   rw [List.getElem?_map] at he
   cases z:ts[i]? with
   | none=>rw [z] at he; cases he
   | some t=>
    rw [z] at he
    have he:encTie t=e:=by simpa using he
    subst he
    have hi:=(List.getElem?_eq_some_iff.mp z).1
    have et:ts[i]=t:=(List.getElem?_eq_some_iff.mp z).2
    have rt:=hW.tie t (List.mem_of_getElem? z)
    have step:(i ≠ k->r.getD t.1.toNat 0 - r.getD t.2.toNat 0<=1/\r.getD t.2.toNat 0 - r.getD t.1.toNat 0<=1)->∀ j (hj:j < ts.length),j < i + 1->j ≠ k->r.getD ts[j].1.toNat 0 - r.getD ts[j].2.toNat 0<=1/\r.getD ts[j].2.toNat 0 - r.getD ts[j].1.toNat 0<=1:=fun h j hj hji hjk=>by
     by_cases z:j < i
     ·exact hf j hj z hjk
     ·have:j=i:=by omega
      subst this
      rw [et]; exact h hjk
    refine Zdd rfl (Zba (Zbd (Zba (Zbd (Zck (Zb4 (Zf0 (Za0 (Zaz (Zad rfl (Zad rfl (Zga ⟨_,rfl,?_⟩))))))))))))
    by_cases c1:i=k
    ·rw [decide_eq_true (by omega)]
     exact iteF (Za2 ⟨step fun h=>absurd c1 h,_,_,rfl⟩)
    rw [decide_eq_false (by omega)]
    refine iteT (Za0 (Zaz (Za4 (Zab (Za1 (Za7 (Zaw (Zag rfl) (Zaw (d:=.int t.1) (Zag rfl) Zal rfl) (Zep rt.1 (by omega))) (Zaw (Zag rfl) (Zaw (d:=.int t.2) (Zag rfl) Zal rfl) (Zep rt.2.2.1 (by omega))) Zc4) (Zah (Zl5 (Zay (Zfa ⟨_,rfl,?_⟩)))))))))
    show if decide (absI (r.getD t.1.toNat 0 - r.getD t.2.toNat 0) > 1)=true then _ else _
    by_cases c2:absI (r.getD t.1.toNat 0 - r.getD t.2.toNat 0) > 1
    ·rw [decide_eq_true c2]
     refine iteT (Zav (Zcg (q false ⟨fun z=>Bool.noConfusion z,fun H=>?_⟩)))
     have:=H.flat t (List.mem_eraseIdx_iff_getElem?.mpr ⟨i,c1,z⟩)
     have:=Zjc (i:=r.getD t.1.toNat 0 - r.getD t.2.toNat 0)
     omega
    ·rw [decide_eq_false c2]
     have:=(Zjc (i:=r.getD t.1.toNat 0 - r.getD t.2.toNat 0)).mp (by omega)
     exact iteF (Za2 ⟨step fun _=>by omega,_,_,rfl⟩)
  ·rintro Δ2 ⟨hf,x6,x7,rfl⟩
   rw [Zgb,List.length_map] at hf
   exact ⟨fun j hj hjk=>hf j hj hj hjk,x6,x7,rfl⟩
 rintro Δ1 ⟨hf,x6,x7,rfl⟩
 have flat:∀ t ∈ ts.eraseIdx k,r.getD t.1.toNat 0 - r.getD t.2.toNat 0<=1/\r.getD t.2.toNat 0 - r.getD t.1.toNat 0<=1:=fun t ht=>by
  obtain ⟨j,hjk,hj⟩:=List.mem_eraseIdx_iff_getElem?.mp ht
  obtain ⟨hj1,hj2⟩:=List.getElem?_eq_some_iff.mp hj
  have:=hf j hj1 hjk
  rw [hj2] at this; exact this
 refine Zav (Zbv (Zaz (Za1 (Zaw (Zag rfl) (Zag rfl) (Zep rk.1 (by omega))) (Zay (Zdu ⟨_,rfl,?_⟩)))))
 by_cases ca:r.getD ts[k].1.toNat 0=0
 rotate_left
 ·rw [decide_eq_false ca]
  exact iteF (q false ⟨fun z=>Bool.noConfusion z,fun H=>absurd (H.a _ (List.getElem?_eq_getElem hk)) ca⟩)
 rw [decide_eq_true ca]
 refine iteT (Zaz (Za1 (Zaw (Zag rfl) (Zag rfl) (Zep rk.2.2.1 (by omega))) (Za1 (Za7 (Zag rfl) Zal Zc4) (Zfa (q _ ?_)))))
 constructor
 ·intro z
  have z:r.getD ts[k].2.toNat 0 ≥ g - 1:=of_decide_eq_true z
  refine ⟨hl,fun t ht=>?_,fun t ht=>?_,flat⟩
  ·rw [List.getElem?_eq_getElem hk] at ht; cases ht; exact ca
  ·rw [List.getElem?_eq_getElem hk] at ht; cases ht; exact z
 ·intro H
  exact decide_eq_true (show r.getD ts[k].2.toNat 0 ≥ g - 1 from H.b _ (List.getElem?_eq_getElem hk))
theorem Zn7 (mb:Mb mg) (F:Fun K "_law_bars" "_law_bars" s_law_bars f fd):FnOk P w K mg base CX0 1 f fd ["_law_web_here","_law_least"] (spD K fLB):=by
 refine F.ok sc_law_bars (Zb2 fun ds Post h=>by obtain ⟨_,_,_,rfl,_⟩:=h; rfl) (fun cdv A outer s H vs Q E hr h=>?_)
 have hu:=Zco hr
 refine ⟨_,(Zaf (Zax (i:=2) sc_law_bars.nd rfl (Or.inl rfl) (Zan Zbw (Zan (addK K) (Zan Zbw Zae (Zap (ixK K hu) (pv 0) Zae (fun _ _=>rfl))) (Zaj (lenK K) rfl (mb "len" (by decide)) Zbj (Zaa (Zap (ixK K hu) (pv 0) Zae (fun _ _=>rfl)) Zac))) (Zan Zf5 (Zan Zd6 Zae (Zaj (lenK K) rfl (mb "len" (by decide)) Zbj (Zaa (Zap (ixK K hu) (pv 0) Zae (fun _ _=>rfl)) Zac))) (pv 1)))) (Zaf (Zax (i:=3) sc_law_bars.nd rfl (Or.inl rfl) Zae) (Zaf (Zn9 PassesOwn.never (Zar Zmm (Zan Zd6 Zae (pv 3)) (pv 2) (nomark _)) (Zak (Zax (i:=3) sc_law_bars.nd rfl (Or.inl rfl) (Zan (addK K) (pv 3) Zae)))) (Zak (Za9 (pv 3)))))),Zdy (fun ds Post hf=>?_) h⟩
 obtain ⟨N,ts,g,rfl,hW,h1,h2,q⟩:=hf
 refine ⟨by simp,?_⟩
 dsimp only [startD,List.tail,List.map,List.length,List.replicate]
 have hN:=hW.hi
 have hlen:=hW.len
 refine Zau (Za5 (Za1 (Za7 (Za7 (Za7 Zal (Zaw (d:=.int (N:Int)) (Zag rfl) Zal rfl) Zc4) (Zdz (Zaw (d:=.tup (ts.map encTie)) (Zag rfl) Zal rfl)) Zbt) (Za7 (Za7 Zal (Zdz (Zaw (d:=.tup (ts.map encTie)) (Zag rfl) Zal rfl)) (pr_I (Or.inl ⟨by decide,by decide⟩))) (Zag rfl) (pr_I ⟨by omega,by omega⟩)) Zc4) ?_))
 rw [List.length_map]
 have qn:0<=2 * (ts.length:Int) / g:=Int.ediv_nonneg (by omega) (by omega)
 have q2:Post (.int (if (2 - (N:Int) + (ts.length:Int) - 2 * (ts.length:Int) / g + 1) / 2 > 0 then (2 - (N:Int) + (ts.length:Int) - 2 * (ts.length:Int) / g + 1) / 2 else 0)):=q
 generalize 2 * (ts.length:Int) / g=dv at qn q2
 generalize etw:2 - (N:Int) + (ts.length:Int) - dv=tw at q2
 refine Zau (Za5 (Zay ?_))
 refine Zbb (fun Δ=>∃ v:Int,0<=v/\tw<=2 * v/\(v=0\/2 * (v - 1) < tw) /\ Δ = [.val (encWeb (N:Int) ts),.val (.int g),.val (.int tw),.val (.int v)]) ?_ ?_
 ·refine Zn6 (fun μ Δ=>∃ v:Int,0<=v/\v<=30/\(v=0\/2 * (v - 1) < tw) /\ μ = 60 - v.toNat /\ Δ = [.val (encWeb (N:Int) ts),.val (.int g),.val (.int tw),.val (.int v)]) ⟨_,0,by decide,by decide,.inl rfl,rfl,rfl⟩ ?_
  rintro μ Δ2 ⟨v,v0,v1,v2,rfl,rfl⟩
  refine Za0 (Zaz (Za1 (Za7 Zal (Zag rfl) (pr_I (Or.inl ⟨by decide,by decide⟩))) (Zad rfl (Zfa ⟨_,rfl,ite2 (fun z=>?_) (fun z=>⟨v,v0,?_,v2,rfl⟩)⟩))))
  ·have z:2 * v < tw:=of_decide_eq_true z
   exact Za5 (Za1 (Za7 (Zag rfl) Zal Zbt) ⟨60 - (v + 1).toNat,by omega,v + 1,by omega,by omega,.inr (by omega),rfl,rfl⟩)
  ·have z:¬ 2 * v < tw:=of_decide_eq_false (Bool.eq_false_iff.mpr z)
   omega
 rintro Δ1 ⟨v,v0,v1,v2,rfl⟩
 have ev:(if (tw + 1) / 2 > 0 then (tw + 1) / 2 else 0)=v:=by split <;> omega
 rw [ev] at q2
 exact Zav (Zad rfl q2)
theorem Zml (mb:Mb mg) (C__law_whole:Callee P w K mg base 1 "_law_whole" ["_law_found"] (spD K fIsWX)) (C__law_heights:Callee P w K mg base 2 "_law_heights" ["_law_web_here","_law_tie","_law_least","_law_heights_here"] (spD K fAhX)) (C__law_parts:Callee P w K mg base 1 "_law_parts" ["_law_web_here"] (spN K fPartsU)) (F:Fun K "_law_paper" "_law_paper" s_law_paper f fd):FnOk P w K mg base CX0 3 f fd ["_law_web_here","_law_paper_here"] (spD K fIrpX):=by
 refine F.ok sc_law_paper (Zb2 fun ds Post h=>by obtain ⟨_,_,_,rfl,_⟩:=h; rfl) (fun cdv A outer s H vs Q E hr h=>?_)
 have hu:=Zco hr
 refine ⟨_,(Zaf (Zb0 (PW.pt (pw_or (Zd7 (truK K (Zaj (isiUK K) rfl (mb "isinstance" (by decide)) Zbe (Zaa (pv 1) (Zaa (Zc5 rfl (mb "tuple" (by decide)) Zbk (show RelV (.ty "tuple") _ from rfl)) Zac))) (fun _=>rfl))) (pw_or (Zar Zds (Zaj (lenK K) rfl (mb "len" (by decide)) Zbj (Zaa (pv 1) Zac)) Zae (nomark _)) (pw_or (Zd7 (truK K (Zbc C__law_whole (hr.mono (by decide)) (Zaa (Zap (ixK K hu) (pv 1) Zae (fun _ _=>rfl)) Zac)) (fun _=>rfl))) (pw_or1 (Zar Zmm (Zap (ixK K hu) (pv 1) Zae (fun _ _=>rfl)) Zae (nomark _))))))) (Zak (Za9 Zc6)) Za8) (Zaf (Zb0 (PW.pt (pw_or (Zd7 (truK K (Zaj (isiUK K) rfl (mb "isinstance" (by decide)) Zbe (Zaa (Zap (ixK K hu) (pv 1) Zae (fun _ _=>rfl)) (Zaa (Zc5 rfl (mb "tuple" (by decide)) Zbk (show RelV (.ty "tuple") _ from rfl)) Zac))) (fun _=>rfl))) (pw_or1 (Zar Zds (Zaj (lenK K) rfl (mb "len" (by decide)) Zbj (Zaa (Zap (ixK K hu) (pv 1) Zae (fun _ _=>rfl)) Zac)) (Zaj (lenK K) rfl (mb "len" (by decide)) Zbj (Zaa (Zap (ixK K hu) (pv 0) Zae (fun _ _=>rfl)) Zac)) (nomark _))))) (Zak (Za9 Zc6)) Za8) (Zaf (Zcq PassesOwn.never rfl (Zc3 K rfl (mb "enumerate" (by decide)) (Zaa (Zap (ixK K hu) (pv 1) Zae (fun _ _=>rfl)) Zac)) (gtupK (n:=2) K rfl (Zas (Zam (i:=2) sc_law_paper.nd rfl (Or.inl rfl)) (Zas (Zam (i:=3) sc_law_paper.nd rfl (Or.inl rfl)) Zbr))) (Zak (Zb0 (Zd7 (truK K (Zbc C__law_heights (hr.mono (by decide)) (Zaa (pv 0) (Zaa (pv 2) (Zaa (Zap (ixK K hu) (pv 1) Zae (fun _ _=>rfl)) (Zaa (pv 3) Zac))))) (fun _=>rfl))) (Zak (Za9 Zc6)) Za8))) (Zak (Za9 (Zh5 (Zfo Zbx (Zaj (lenK K) rfl (mb "len" (by decide)) Zbj (Zaa (Zbc C__law_parts (hr.mono (by decide)) (Zaa (pv 0) Zac)) Zac)) Zae (nomark _)) (Zhy (Zfo Zn0 (Zaj (lenK K) rfl (mb "len" (by decide)) Zbj (Zaa (Zap (ixK K hu) (pv 0) Zae (fun _ _=>rfl)) Zac)) (Zap (ixK K hu) (pv 0) Zae (fun _ _=>rfl)) (nomark _))))))))),Zdy (fun ds Post hf=>?_) h⟩
 obtain ⟨N,ts,d,rfl,hW,hd,q⟩:=hf
 refine ⟨by simp,?_⟩
 dsimp only [startD,List.tail,List.map,List.length,List.replicate]
 have hN:=hW.hi
 have hlen:=hW.len
 have no:rpB N ts d=false->Post (.bl false):=fun h=>by rw [h] at q; exact q
 obtain ⟨T,hT⟩:=hd.ty
 refine Zau (Zb4 (Ze0 (Zdv (Zdk (Za4 (Zab (Zad rfl (Zab (Zcp (Zah (Zgk hT ⟨_,rfl,?_⟩)))))))))))
 cases c3:isTup d with
 | false=>exact iteT (iteT (Zav (Zcg (no (Ze3 fun g rows e=>by rw [e] at c3; cases c3)))))
 | true=>
 obtain ⟨ds,rfl⟩:=Zdq c3
 obtain ⟨hl,he⟩:=hd.2 ds rfl
 refine iteF (Ze0 (Za0 (Zaz (Za4 (Zab (Zad rfl (Zah (Zbp (Or.inr rfl) (Zay (Zga ⟨_,rfl,?_⟩))))))))))
 by_cases c4:ds.length=2
 rotate_left
 ·rw [decide_eq_false (by omega)]
  exact iteT (iteT (Zav (Zcg (no (Ze3 fun g rows e=>by cases e; exact c4 rfl)))))
 rw [decide_eq_true (by omega)]
 obtain ⟨x,y,rfl⟩:∃ x y,ds=[x,y]:=by
  match ds,c4 with
  | [x,y],_=>exact ⟨x,y,rfl⟩
 have hx:=he x List.mem_cons_self
 have hy:=he y (List.mem_cons_of_mem _ List.mem_cons_self)
 obtain ⟨Tx,hTx⟩:=hx.ty
 obtain ⟨Ty,hTy⟩:=hy.ty
 refine iteF (Ze0 (Zdv (Zdk (Zbi (Zab (Za1 (Zaw (d:=x) (Zag rfl) Zal rfl) (Zah ⟨x,Tx,rfl,hTx,_,rfl,?_⟩)))))))
 cases c5:isIntX x with
 | false=>exact iteT (iteT (Zav (Zcg (no (Ze3 fun g rows e=>by cases e; cases c5)))))
 | true=>
 obtain ⟨g,rfl⟩:∃ g,x=.int g:=by
  cases x with
  | int g=>exact ⟨g,rfl⟩
  | _=>cases c5
 refine iteF (Za0 (Zaz (Za1 (Zaw (d:=.int g) (Zag rfl) Zal rfl) (Zay (Zfa ⟨_,rfl,?_⟩)))))
 by_cases c6:g < 1
 ·rw [decide_eq_true c6]
  cases y with
  | tup rows=>exact iteT (Zav (Zcg (no (Zj6 (.inl c6)))))
  | _=>exact iteT (Zav (Zcg (no rfl)))
 rw [decide_eq_false c6]
 refine iteF (Za2 ?_)
 refine Zau (Zb4 (Ze0 (Zdv (Zdk (Za4 (Zab (Za1 (Zaw (d:=y) (Zag rfl) Zal rfl) (Zab (Zcp (Zah (Zgk hTy ⟨_,rfl,?_⟩)))))))))))
 cases c7:isTup y with
 | false=>exact iteT (iteT (Zav (Zcg (no (Ze3 fun g rows e=>by cases e; cases c7)))))
 | true=>
 obtain ⟨rows,rfl⟩:=Zdq c7
 obtain ⟨hrl,hre⟩:=hy.2 rows rfl
 refine iteF (Za0 (Zaz (Za1 (Zdz (Zaw (d:=.tup rows) (Zag rfl) Zal rfl)) (Za1 (Zdz (Zaw (d:=.tup (ts.map encTie)) (Zag rfl) Zal rfl)) (Zga ⟨_,rfl,?_⟩)))))
 rw [List.length_map]
 by_cases c8:rows.length=ts.length
 rotate_left
 ·rw [decide_eq_false (by omega)]
  exact iteT (Zav (Zcg (no (Zj6 (.inr c8)))))
 rw [decide_eq_true (by omega)]
 refine iteF (Za2 ?_)
 rw [Ztz (by omega) c8] at q no
 refine Zbb (fun Δ=>(enD rows).all (rowA N ts g)=true/\∃ x2 x3:L2.Slot,Δ = [.val (encWeb (N:Int) ts),.val (.tup [.int g,.tup rows]),x2,x3]) ?_ ?_
 ·refine Zcr (Zhi (Zab (Za1 (Zaw (d:=.tup rows) (Zag rfl) Zal rfl) (Zah ⟨_,Or.inr rfl,fun i Δ=>((enD rows).take i).all (rowA N ts g)=true/\∃ x2 x3:L2.Slot,Δ = [.val (encWeb (N:Int) ts),.val (.tup [.int g,.tup rows]),x2,x3],⟨by rw [List.take_zero]; rfl,_,_,rfl⟩,?_,fun Δ h=>by have:=h.1; rw [List.take_length] at this; exact ⟨this,h.2⟩⟩))))
  rintro i d Δ2 hd ⟨ha,x2,x3,rfl⟩
  have hd0:=hd
  obtain ⟨e,he,rfl⟩:=Zev hd
  have hi:=(List.getElem?_eq_some_iff.mp he).1
  refine Zdd rfl (Zba (Zbd (Zba (Zbd (Zck (Zb4 (Zdv (Zdk (Zbi (Zab (Zad rfl (Zab (Zad rfl (Zab (Za1 (Zaw (d:=.int g) (Zag rfl) Zal rfl) (Zab (Zad rfl (Zah ⟨N,ts,i,g,e,rfl,hW,by omega,hre e (List.mem_of_getElem? he),_,rfl,?_⟩))))))))))))))))))
  have er:rowA N ts g (.tup [.int (i:Int),e])=htB N ts i g e:=by show htB N ts ((i:Int)).toNat g e=_; rw [Int.toNat_natCast]
  cases c9:htB N ts i g e with
  | true=>
   refine iteF (Za2 ⟨?_,_,_,rfl⟩)
   rw [List.take_add_one,hd0,List.all_append,ha]
   show (true && (rowA N ts g (.tup [.int (i:Int),e]) && true))=true
   rw [er,c9]; rfl
  | false=>
   refine iteT (Zav (Zcg (no ?_)))
   have:(enD rows).all (rowA N ts g)=false:=by
    cases z:(enD rows).all (rowA N ts g) with
    | false=>rfl
    | true=>
     rw [List.all_eq_true] at z
     have:=z _ (List.mem_of_getElem? hd0)
     rw [er,c9] at this; cases this
   rw [this,Bool.and_false]
 rintro Δ1 ⟨ha,x2,x3,rfl⟩
 rw [ha,Bool.and_true] at q no
 refine Zav (Zbv (Zaz (Za4 (Zab (Zcs (Zes (Zab (Zad rfl (Zah ⟨N,ts,_,rfl,Or.inl rfl,hW,fun ms hm=>⟨_,rfl,?_⟩⟩)))))))))
 refine Zah (Zbp (Or.inl rfl) (Zay (Zdu ⟨_,rfl,?_⟩)))
 rw [List.length_map,show (partsL N ts ms).length=ms.length from List.length_map _,Zj5 hm]
 have fp:=Zmh hW
 by_cases d1:(frs (marksL N ts)).length<=1
 rotate_left
 ·rw [decide_eq_false (by omega)]
  exact iteF (no (@decide_eq_false _ (Classical.propDecidable _) fun z=>d1 (Zek.mp z.1)))
 rw [decide_eq_true (by omega)]
 refine iteT (Zaz (Za1 (Zdz (Zaw (d:=.tup (ts.map encTie)) (Zag rfl) Zal rfl)) (Za1 (Zaw (d:=.int (N:Int)) (Zag rfl) Zal rfl) (Zfa ?_))))
 rw [List.length_map]
 have:decide ((ts.length:Int) ≥ (N:Int)) = @decide (Rng N ts) (Classical.propDecidable _):=by
  rw [Bool.eq_iff_iff,Zfr,decide_eq_true_iff]
  exact ⟨fun z=>⟨Zek.mpr d1,by omega⟩,fun z=>by have:=z.2; omega⟩
 rw [this]; exact q
theorem Zqp (mb:Mb mg) (F:Fun K "_law_far" "_law_far" s_law_far f fd):FnOk P w K mg base CX0 1 f fd ["_law_web_here","_law_tie"] (spD K fFar):=by
 refine F.ok sc_law_far (Zb2 fun ds Post h=>by obtain ⟨_,_,_,rfl,_⟩:=h; rfl) (fun cdv A outer s H vs Q E hr h=>?_)
 have hu:=Zco hr
 refine ⟨_,(Zaf (Zax (i:=2) sc_law_far.nd rfl (Or.inl rfl) (Zan (Zlb K) (Zb5 (Zaa Zae Zac)) (Zap (ixK K hu) (pv 0) Zae (fun _ _=>rfl)))) (Zaf (Zc0 Zae (Ze5 (pv 2) (Zap (ixK K hu) (Zap (ixK K hu) (Zap (ixK K hu) (pv 0) Zae (fun _ _=>rfl)) (pv 1) (fun _ _=>rfl)) Zae (fun _ _=>rfl)) (setU hu))) (Zaf (Zjg (i:=3) ["_law_k","_law_pair"] (show CompSc (defScope s_law_far) ["_law_web_here","_law_tie","_law_far_here","_law_others","_law_turn","_law_a","_law_b"] _ ["_law_tie"] [1] from ⟨rfl,by decide +kernel,by decide +kernel,by decide +kernel,rfl,by decide +kernel⟩) rfl sc_law_far.nd rfl (Or.inl rfl) (Zc3 K rfl (mb "enumerate" (by decide)) (Zaa (Zap (ixK K hu) (pv 0) Zae (fun _ _=>rfl)) Zac)) (fun _ _ _ _ _=>(gtupK (n:=2) K rfl (Zas (Zam (i:=0) (show List.Nodup (["_law_k","_law_pair","_law_tie"]:List Str) from by decide) rfl (Or.inl rfl)) (Zas (Zam (i:=1) (show List.Nodup (["_law_k","_law_pair","_law_tie"]:List Str) from by decide) rfl (Or.inl rfl)) Zbr)))) (fun _ _ _ _ _=>(Zha (Zar Zds (pv 0) (pv 2) (nomark _)))) (fun _ _ _ _ _=>(pv 1))) (Zaf (Zcq PassesOwn.never rfl (Zbz rfl (mb "range" (by decide)) (Zaa (Zap (ixK K hu) (pv 0) Zae (fun _ _=>rfl)) Zac)) (Zam (i:=4) sc_law_far.nd rfl (Or.inl rfl)) (Zak (Zcq PassesOwn.never rfl (seqK K (pv 3)) (gtupK (n:=2) K rfl (Zas (Zam (i:=5) sc_law_far.nd rfl (Or.inl rfl)) (Zas (Zam (i:=6) sc_law_far.nd rfl (Or.inl rfl)) Zbr))) (Zaf (Zc0 (Zaj (Zde rfl) rfl (mb "min" (by decide)) Zf7 (Zaa (Zap (ixK K hu) (pv 2) (pv 5) (fun _ _=>rfl)) (Zaa (Zan (addK K) (Zap (ixK K hu) (pv 2) (pv 6) (fun _ _=>rfl)) Zae) Zac))) (Ze5 (pv 2) (pv 5) (setU hu))) (Zak (Zc0 (Zaj (Zde rfl) rfl (mb "min" (by decide)) Zf7 (Zaa (Zap (ixK K hu) (pv 2) (pv 6) (fun _ _=>rfl)) (Zaa (Zan (addK K) (Zap (ixK K hu) (pv 2) (pv 5) (fun _ _=>rfl)) Zae) Zac))) (Ze5 (pv 2) (pv 6) (setU hu)))))))) (Zak (Za9 (Zbg (tupK K) rfl (mb "tuple" (by decide)) Zbk (Zaa (pv 2) Zac)))))))),Zdy (fun ds Post hf=>?_) h⟩
 obtain ⟨N,ts,k,rfl,hW,hk,q⟩:=hf
 refine ⟨by simp,?_⟩
 dsimp only [startD,List.tail,List.map,List.length,List.replicate]
 have hN:=hW.hi
 have hlen:=hW.len
 have rk:=hW.tie ts[k] (List.getElem_mem hk)
 have atT:atI (ts.map encTie) (k:Int)=some (encTie ts[k]):=Zcv (by rw [List.getElem?_map,List.getElem?_eq_getElem hk]; rfl)
 refine Zau (Zdn (Zqi (Zjr (Zab (Zay (Zah ⟨by decide,Za1 (Zaw (d:=.int (N:Int)) (Zag rfl) Zal rfl) ⟨_,N,rfl,rfl,by omega,?_⟩⟩))))))
 have e0:List.replicate N (D.int 25)=(List.replicate N (25:Int)).map D.int:=by rw [List.map_replicate]
 rw [e0]
 have l0:(List.replicate N (25:Int)).length=N:=List.length_replicate
 have r0:∀ x ∈ List.replicate N (25:Int),0<=x/\x<=25:=fun x hx=>by rw [(List.mem_replicate.mp hx).2]; decide
 generalize List.replicate N (25:Int)=n0 at l0 r0
 refine Zau (Zer (Zay ⟨⟨_,_,rfl,rfl⟩,Za1 (Zaw (d:=.int ts[k].1) (Zaw (d:=encTie ts[k]) (Zaw (d:=.tup (ts.map encTie)) (Zag rfl) Zal rfl) (Zag rfl) atT) Zal rfl) ⟨_,_,_,ts[k].1.toNat,rfl,rfl,rfl,by rw [List.length_map]; exact Zmt rk.1 (by omega),?_⟩⟩))
 rw [show (D.int 0)=D.int (0:Int) from rfl,<- List.map_set]
 have l1:(n0.set ts[k].1.toNat 0).length=N:=by rw [List.length_set]; exact l0
 have r1:=Zin (j:=ts[k].1.toNat) r0 (v:=0) (by decide) (by decide)
 generalize n0.set ts[k].1.toNat 0=n1 at l1 r1
 refine Zbb (fun Δ=>∃ us:List (Int × Int),us.length<=24/\(∀ t ∈ us,0<=t.1/\t.1 < (N:Int)/\0<=t.2/\t.2 < (N:Int)) /\ Δ = [.val (encWeb (N:Int) ts),.val (.int k),.own (.lst (n1.map D.int)),.val (.lst (us.map encTie)),.any,.any,.any]) ?_ ?_
 ·refine Za5 (Zfh (by decide) (Zhi (Zab (Za1 (Zaw (d:=.tup (ts.map encTie)) (Zag rfl) Zal rfl) (Zah ⟨_,Or.inr rfl,?_,neK k,sndD,fun i d hd=>?_,?_⟩)))))
  ·rw [Zgb,List.length_map]; exact small1000 (by omega)
  ·obtain ⟨e,he,rfl⟩:=Zev hd
   refine ⟨.int (i:Int),e,rfl,Za0 (Zaz (Zad rfl (Zad rfl (Zga ⟨_,rfl,rfl,?_⟩))))⟩
   exact ite2 (fun _=>Zad rfl ⟨rfl,_,_,rfl⟩) (fun _=>⟨_,_,rfl⟩)
  ·have hx:∀ d ∈ ((enD (ts.map encTie)).filter (neK k)).map sndD,∃ t ∈ ts,d=encTie t:=fun d hd=>by
    obtain ⟨e,he,rfl⟩:=List.mem_map.mp hd
    obtain ⟨i,hi⟩:=List.mem_iff_getElem?.mp (List.mem_filter.mp he).1
    obtain ⟨e',he',rfl⟩:=Zev hi
    rw [List.getElem?_map] at he'
    cases z:ts[i]? with
    | none=>rw [z] at he'; cases he'
    | some t=>rw [z] at he'; cases he'; exact ⟨t,List.mem_of_getElem? z,rfl⟩
   have hl:(((enD (ts.map encTie)).filter (neK k)).map sndD).length<=24:=by
    rw [List.length_map]
    refine Nat.le_trans (List.length_filter_le _ _) ?_
    rw [Zgb,List.length_map]; exact hlen
   generalize ((enD (ts.map encTie)).filter (neK k)).map sndD=xs at hx hl
   obtain ⟨us,e,hus⟩:∃ us:List (Int × Int),xs=us.map encTie/\∀ t ∈ us,t ∈ ts:=by
    clear hl
    induction xs with
    | nil=>exact ⟨[],rfl,fun _ h=>nomatch h⟩
    | cons x r ih=>
     obtain ⟨us,e,h⟩:=ih fun d hd=>hx d (List.mem_cons_of_mem _ hd)
     obtain ⟨t,ht,e1⟩:=hx x List.mem_cons_self
     exact ⟨t :: us,by rw [e,e1]; rfl,fun u hu=>(List.mem_cons.mp hu).elim (fun z=>z ▸ ht) (h u)⟩
   subst e
   rw [List.length_map] at hl
   exact ⟨us,hl,fun t ht=>hW.tie t (hus t ht),rfl⟩
 rintro Δ1 ⟨us,hul,hus,rfl⟩
 refine Zbb (fun Δ=>∃ (ns:List Int) (x4 x5 x6:L2.Slot),ns.length=N/\(∀ x ∈ ns,0<=x/\x<=25) /\ Δ = [.val (encWeb (N:Int) ts),.val (.int k),.own (.lst (ns.map D.int)),.val (.lst (us.map encTie)),x4,x5,x6]) ?_ ?_
 ·refine Zcr (Zb1 (Zab (Za1 (Zaw (d:=.int (N:Int)) (Zag rfl) Zal rfl) (Zah ⟨_,rfl,by omega,by omega,fun i Δ=>∃ (ns:List Int) (x4 x5 x6:L2.Slot),ns.length=N/\(∀ x ∈ ns,0<=x/\x<=25) /\ Δ = [.val (encWeb (N:Int) ts),.val (.int k),.own (.lst (ns.map D.int)),.val (.lst (us.map encTie)),x4,x5,x6],⟨n1,_,_,_,l1,r1,rfl⟩,?_,fun Δ h=>h⟩))))
  rintro i d Δ2 hd ⟨ns,x4,x5,x6,hl,hx,rfl⟩
  refine Zbd (Zcr (Zeq (Zad rfl ⟨_,Or.inl rfl,fun i Δ=>∃ (ns:List Int) (x4 x5 x6:L2.Slot),ns.length=N/\(∀ x ∈ ns,0<=x/\x<=25) /\ Δ = [.val (encWeb (N:Int) ts),.val (.int k),.own (.lst (ns.map D.int)),.val (.lst (us.map encTie)),x4,x5,x6],⟨ns,_,_,_,hl,hx,rfl⟩,?_,fun Δ h=>h⟩)))
  rintro j d Δ3 hd2 ⟨ns,x4,x5,x6,hl,hx,rfl⟩
  rw [List.getElem?_map] at hd2
  cases z:us[j]? with
  | none=>rw [z] at hd2; cases hd2
  | some t=>
   rw [z] at hd2
   cases hd2
   have rt:=hus t (List.mem_of_getElem? z)
   have at_:∀ (ms:List Int) (a:Int),ms.length=N->0<=a->a < (N:Int)->atI (ms.map D.int) a=some (.int (ms.getD a.toNat 0)):=fun ms a h h0 h1=>Zep h0 (by omega)
   have rg:∀ (ms:List Int) (a:Int),ms.length=N->(∀ x ∈ ms,0<=x/\x<=25)->0<=a->a < (N:Int)->0<=ms.getD a.toNat 0/\ms.getD a.toNat 0<=25:=fun ms a h hx h0 h1=>by
    have hj:a.toNat < ms.length:=by omega
    rw [List.getD_eq_getElem?_getD,List.getElem?_eq_getElem hj]
    exact hx _ (List.getElem_mem hj)
   refine Zdd rfl (Zba (Zbd (Zba (Zbd (Zck ?_)))))
   have mn:∀ a b:Int,0<=a->a<=25->0<=b->0<=(if b + 1 < a then b + 1 else a)/\(if b + 1 < a then b + 1 else a)<=25:=fun a b h0 h1 h2=>by split <;> omega
   have ra:=rg ns t.1 hl hx rt.1 rt.2.1
   have rb:=rg ns t.2 hl hx rt.2.2.1 rt.2.2.2
   refine Zau (Zer (Za4 (Zab (Zcz rfl rfl (Zad rfl ⟨_,_,_,_,rfl,rfl,rfl,at_ ns t.1 hl rt.1 rt.2.1,Zab (Zaz (Zcz rfl rfl (Zad rfl ⟨_,_,_,_,rfl,rfl,rfl,at_ ns t.2 hl rt.2.2.1 rt.2.2.2,Zay (Zcc (Zah (Zc2 (f:=fun i j=>if j < i then j else i) ⟨⟨_,_,rfl,rfl⟩,Zad rfl ⟨_,_,_,t.1.toNat,rfl,rfl,rfl,by rw [List.length_map]; exact Zmt rt.1 (by omega),?_⟩⟩)))⟩)))⟩)))))
   have m1:=mn _ _ ra.1 ra.2 rb.1
   dsimp only
   generalize (if ns.getD t.2.toNat 0 + 1 < ns.getD t.1.toNat 0 then ns.getD t.2.toNat 0 + 1 else ns.getD t.1.toNat 0)=v at m1
   have hl2:(ns.set t.1.toNat v).length=N:=by rw [List.length_set]; exact hl
   have hx2:=Zin (j:=t.1.toNat) hx m1.1 m1.2
   rw [<- List.map_set]
   generalize ns.set t.1.toNat v=ms at hl2 hx2
   have ra:=rg ms t.1 hl2 hx2 rt.1 rt.2.1
   have rb:=rg ms t.2 hl2 hx2 rt.2.2.1 rt.2.2.2
   refine Zer (Za4 (Zab (Zcz rfl rfl (Zad rfl ⟨_,_,_,_,rfl,rfl,rfl,at_ ms t.2 hl2 rt.2.2.1 rt.2.2.2,Zab (Zaz (Zcz rfl rfl (Zad rfl ⟨_,_,_,_,rfl,rfl,rfl,at_ ms t.1 hl2 rt.1 rt.2.1,Zay (Zcc (Zah (Zc2 (f:=fun i j=>if j < i then j else i) ⟨⟨_,_,rfl,rfl⟩,Zad rfl ⟨_,_,_,t.2.toNat,rfl,rfl,rfl,by rw [List.length_map]; exact Zmt rt.2.2.1 (by omega),?_⟩⟩)))⟩)))⟩))))
   have m1:=mn _ _ rb.1 rb.2 ra.1
   generalize (if ms.getD t.1.toNat 0 + 1 < ms.getD t.2.toNat 0 then ms.getD t.1.toNat 0 + 1 else ms.getD t.2.toNat 0)=v at m1
   refine ⟨ms.set t.2.toNat v,x4,.val (.int t.1),.val (.int t.2),by rw [List.length_set]; exact hl2,Zin hx2 m1.1 m1.2,?_⟩
   rw [List.map_set]; rfl
 rintro Δ1 ⟨ns,x4,x5,x6,hl,hx,rfl⟩
 refine Zav (Za4 (Zab (Zf1 rfl (Zah (Zc9 (Or.inl rfl) (q ns hl hx))))))
end
section
variable {P:Program} {w:World} {K:PySem.W.Frag} {mg:Str->Option Value} {base:Heap} {f:Addr} {fd:FuncData}
theorem Zk5:∀ (l:List Nat) (b:Nat),(∀ x ∈ l,x<=b)->l.sum<=l.length * b
 | [],_,_=>by simp
 | x :: l,b,h=>by
  have:=Zk5 l b fun y hy=>h y (List.mem_cons_of_mem _ hy)
  have:=h x List.mem_cons_self
  rw [List.sum_cons,List.length_cons,Nat.succ_mul]; omega
theorem Znc {i:Int} (h1:0<=i) (h2:i<=100):(D.pd (.int i)).shown.length<=13:=PyData.shown_int_le2 (by omega) (by omega)
theorem Zfk:∀ ds:List D,D.pds ds=ds.map D.pd
 | []=>rfl
 | d :: ds=>by show D.pd d :: D.pds ds=_; rw [Zfk ds]; rfl
theorem Zel:∀ xs:List PyData,PyData.shownAll xs=xs.map PyData.shown
 | []=>rfl
 | x :: xs=>by show x.shown :: PyData.shownAll xs=_; rw [Zel xs]; rfl
theorem Zls {xs:List PyData} {b:Nat} (h:∀ x ∈ xs,x.shown.length<=b):(PyData.list xs).shown.length<=xs.length * b + 2 * xs.length + 3:=by
 show (listText (PyData.shownAll xs)).length<=_
 have h1:=listText_len_le (PyData.shownAll xs)
 rw [Zel] at h1 ⊢
 rw [List.map_map,List.length_map] at h1
 have h2:=Zk5 (xs.map ((fun s:Str=>s.length) ∘ PyData.shown)) b fun y hy=>by
  obtain ⟨x,hx,rfl⟩:=List.mem_map.mp hy
  exact h x hx
 rw [List.length_map] at h2
 omega
theorem Zlu {xs:List PyData} {b:Nat} (h:∀ x ∈ xs,x.shown.length<=b):(PyData.tuple xs).shown.length<=xs.length * b + 2 * xs.length + 3:=by
 show (tupleText (PyData.shownAll xs)).length<=_
 have h1:=tupleText_len_le (PyData.shownAll xs)
 rw [Zel] at h1 ⊢
 rw [List.map_map,List.length_map] at h1
 have h2:=Zk5 (xs.map ((fun s:Str=>s.length) ∘ PyData.shown)) b fun y hy=>by
  obtain ⟨x,hx,rfl⟩:=List.mem_map.mp hy
  exact h x hx
 rw [List.length_map] at h2
 omega
theorem Zk6:∀ {ds:List D},(∀ d ∈ ds,d.shw=true)->D.shws ds=true
 | [],_=>rfl
 | d :: ds,h=>by
  show (d.shw && D.shws ds)=true
  rw [h d List.mem_cons_self,Zk6 fun e he=>h e (List.mem_cons_of_mem _ he)]; rfl
theorem Zjp:∀ {xs:List PyData} {k:Nat},(∀ x ∈ xs,x.depth<=k)->PyData.depthAll xs<=k
 | [],_,_=>Nat.zero_le _
 | x :: xs,k,h=>by
  have h1:=h x List.mem_cons_self
  have h2:=Zjp (xs:=xs) (k:=k) fun y hy=>h y (List.mem_cons_of_mem _ hy)
  simp only [PyData.depthAll]
  omega
end
section
variable {P:Program} {w:World} {K:PySem.W.Frag} {mg:Str->Option Value} {base:Heap} {f:Addr} {fd:FuncData}
structure El (x:D):Prop where
 ty:∃ T,tyD x=some T
 sh:x.shU
 dp:x.pd.depth<=10
 sz:x.pd.shown.length<=400
theorem Zcj {i:Int} (h1:-1000000000000000000000000000000000000000000000000000000000000<=i) (h2:i<=1000000000000000000000000000000000000000000000000000000000000):El (.int i):=⟨⟨_,rfl⟩,.inl (.inl (decide_eq_true (Zhu h1 h2))),by show 0<=10; decide,by
 show (Str.ofString (toString i)).length<=400
 have e:=int_text_length_le10 (k:=61) (by decide) (a:=i) (Nat.lt_of_le_of_lt (show i.natAbs<=1000000000000000000000000000000000000000000000000000000000000 by omega) (by decide))
 rw [ofString_length]; omega⟩
def shB' (x:D):Bool:=x.shw && (decide (x.pd.depth<=10) && decide (x.pd.shown.length<=400))
theorem el_b {x:D} (T:String) (h:tyD x=some T) (s:shB' x=true):El x:=by
 unfold shB' at s
 simp only [Bool.and_eq_true,decide_eq_true_eq] at s
 exact ⟨⟨T,h⟩,.inl (.inl s.1),s.2.1,s.2.2⟩
theorem Zpi:El (.dct [] []):=⟨⟨_,rfl⟩,.inl (.inr ⟨[],[],rfl,fun _ h=>(nomatch h),fun _ h=>(nomatch h)⟩),by decide,by decide⟩
theorem Zoq {xs:List D} {z:Int} (h0:0<=z) (h1:z < (xs.length:Int)):∃ x,atI xs z=some x/\x ∈ xs:=by
 have hz:z.toNat < xs.length:=by omega
 refine ⟨xs[z.toNat],?_,List.getElem_mem hz⟩
 have:=Zcv (xs:=xs) (j:=z.toNat) (v:=xs[z.toNat]) (List.getElem?_eq_getElem hz)
 rw [Int.toNat_of_nonneg h0] at this
 exact this
end
section
variable {P:Program} {w:World} {K:PySem.W.Frag} {mg:Str->Option Value} {base:Heap} {f:Addr} {fd:FuncData}
theorem addT60 {K:PySem.W.Frag} {Δ:Evt} {ds es:List D} (a b:Nat) (h1:ds.length<=a) (h2:es.length<=b) (h:a + b<=1000):PR2 K (rAddU K) (.tup ds) (.tup es) Δ (.tup (ds ++ es)):=Zp9 (Nat.le_of_lt (small1000 (by omega)))
theorem Zdx:1<=sizeLine:=by decide
theorem Zc8 {ds es:List D} {a b:Nat} (h1:ds.length<=a) (h2:es.length<=b):(ds ++ es).length<=a + b:=by rw [List.length_append]; omega
theorem cut3 (ds:List D) (k:Int) (h0:0<=k) (h1:k<=(ds.length:Int)):(cutD ds none (some k) ++ cutD ds (some k) (some (k + 1)) ++ cutD ds (some k) none).length<=ds.length + 1:=by
 obtain ⟨j,rfl⟩:∃ j:Nat,k=(j:Int):=⟨k.toNat,by omega⟩
 have hj:j<=ds.length:=by omega
 rw [List.length_append,List.length_append,Zoy _ hj,Zje _ hj,List.length_take,List.length_drop]
 have:(cutD ds (some (j:Int)) (some ((j:Int) + 1))).length<=1:=by
  unfold cutD
  rw [show (j:Int) + 1=((j + 1:Nat):Int) by omega,HT.sIx_nat,HT.sIx_nat,List.length_take]
  omega
 omega
def Sg (x:PySem.Str):Prop:=∀ c ∈ x.cps.toList,c < 16 ^ 8
theorem Zlc (s:String):Sg (PySem.Str.ofString s):=by
 intro c hc
 rw [PySem.Str.ofString_eq_toList] at hc
 have hc:c ∈ s.toList.map Char.toNat:=by simpa using hc
 obtain ⟨a,_,rfl⟩:=List.mem_map.mp hc
 have h:a.toNat < 1114112:=by
  have:=a.valid
  unfold UInt32.isValidChar Nat.isValidChar at this
  have e:a.toNat=a.val.toNat:=rfl
  omega
 exact Nat.lt_trans h (by decide)
theorem Zj1 {x y:PySem.Str} (hx:Sg x) (hy:Sg y):Sg (x ++ y):=by
 intro c hc
 have hc:c ∈ (x.cps ++ y.cps).toList:=hc
 rw [Array.toList_append,List.mem_append] at hc
 exact hc.elim (hx c) (hy c)
theorem Zl7 {sep:PySem.Str} (hs:Sg sep):∀ {zs:List PySem.Str},(∀ z ∈ zs,Sg z)->Sg (PySem.Str.join sep zs)
 | [],_=>fun c hc=>by
  have hc:c ∈ ([]:List Nat):=hc
  cases hc
 | [x],h=>h x List.mem_cons_self
 | x :: y :: r,h=>Zj1 (Zj1 (h x List.mem_cons_self) hs) (Zl7 hs fun z hz=>h z (List.mem_cons_of_mem _ hz))
theorem Zsi (ns:List Int):Sg (D.pd (.tup (ns.map D.int))).shown:=by
 show Sg (tupleText (PyData.shownAll (D.pds (ns.map D.int))))
 refine Zj1 (Zj1 (Zlc _) (Zl7 (Zlc _) fun z hz=>?_)) (Zlc _)
 rw [Zel,Zfk] at hz
 obtain ⟨d,hd,rfl⟩:=List.mem_map.mp hz
 obtain ⟨e,he,rfl⟩:=List.mem_map.mp hd
 obtain ⟨i,_,rfl⟩:=List.mem_map.mp he
 exact Zlc _
end
structure Th (n B:Nat) (x:D):Prop where
 ty:TyN n x
 sh:shD n x
 dp:x.pd.depth<=10 + n
 sz:x.pd.shown.length<=B
structure Pp (d:D):Prop where
 ty:TyN 3 d
 rep:RepV d
theorem Zrp {x:D} (h:x.shU):∀ n,shD n x
 | 0=>h
 | _ + 1=>.inl h
theorem Ztr {x:D} (h:El x):Th 0 400 x:=⟨h.ty,h.sh,h.dp,h.sz⟩
theorem Zog {x:D} (h:∃ T,tyD x=some T) (hn:isTup x=false):∀ n,TyN n x
 | 0=>h
 | _ + 1=>⟨h,fun ds e=>by subst e; cases hn⟩
theorem Ztb {x:D} {n:Nat} (h:El x) (hn:isTup x=false):Th n 400 x:=⟨Zog h.ty hn n,Zrp h.sh n,Nat.le_trans h.dp (Nat.le_add_right _ _),h.sz⟩
theorem Th.up {n B B':Nat} {x:D} (h:Th n B x) (hb:B<=B'):Th n B' x:=⟨h.ty,h.sh,h.dp,Nat.le_trans h.sz hb⟩
theorem Zfn {n B:Nat} {ds:List D} (h:∀ x ∈ ds,Th n B x):PyData.depthAll (D.pds ds)<=10 + n:=Zjp fun x hx=>by
 rw [Zfk] at hx
 obtain ⟨d,hd,rfl⟩:=List.mem_map.mp hx
 exact (h d hd).dp
theorem Zfq {n B m:Nat} {ds:List D} (hl:ds.length<=m) (h:∀ x ∈ ds,Th n B x):(PyData.tuple (D.pds ds)).shown.length<=m * B + 2 * m + 3/\(PyData.list (D.pds ds)).shown.length<=m * B + 2 * m + 3:=by
 have hb:∀ x ∈ D.pds ds,x.shown.length<=B:=fun x hx=>by
  rw [Zfk] at hx
  obtain ⟨d,hd,rfl⟩:=List.mem_map.mp hx
  exact (h d hd).sz
 have h1:=Zlu hb
 have h2:=Zls hb
 have e:(D.pds ds).length=ds.length:=by rw [Zfk,List.length_map]
 rw [e] at h1 h2
 have:=Nat.mul_le_mul_right B hl
 omega
theorem Zdw {n B m B':Nat} {ds:List D} (hm:m<=60) (hl:ds.length<=m) (h:∀ x ∈ ds,Th n B x) (hb:m * B + 2 * m + 3<=B'):Th (n + 1) B' (.tup ds) where
 ty:=⟨⟨_,rfl⟩,fun ds' e=>by cases e; exact ⟨Nat.le_trans hl hm,fun x hx=>(h x hx).ty⟩⟩
 sh:=.inr ⟨ds,.inl rfl,fun x hx=>(h x hx).sh⟩
 dp:=by show PyData.depthAll (D.pds ds) + 1<=_; have:=Zfn h; omega
 sz:=Nat.le_trans (Zfq hl h).1 hb
theorem Zpb {n B m B':Nat} {ds:List D} (hl:ds.length<=m) (h:∀ x ∈ ds,Th n B x) (hb:m * B + 2 * m + 3<=B'):Th (n + 1) B' (.lst ds) where
 ty:=⟨⟨_,rfl⟩,fun ds' e=>by cases e⟩
 sh:=.inr ⟨ds,.inr rfl,fun x hx=>(h x hx).sh⟩
 dp:=by show PyData.depthAll (D.pds ds) + 1<=_; have:=Zfn h; omega
 sz:=Nat.le_trans (Zfq hl h).2 hb
theorem Zsy {n:Nat} {x:PySem.Str} (h:x.length<=400) (hs:Sg x):Th n 4002 (.str x):=⟨Zog ⟨_,rfl⟩ rfl n,Zrp (.inl (.inl rfl)) n,Nat.zero_le _,by
 show (reprText x).length<=4002
 have:=StrLaws.reprText_len x hs
 omega⟩
theorem Zge {m B:Nat} {ds:List D} (hm:m<=60) (hl:ds.length<=m) (h:∀ x ∈ ds,Th 2 B x) (hb:m * B + 2 * m + 3<=16777216):Pp (.tup ds) where
 ty:=(Zdw hm hl h (Nat.le_refl _)).ty
 rep:=⟨.inr ⟨2,.inr ⟨ds,rfl,fun x hx=>(h x hx).sh⟩⟩,by show PyData.depthAll (D.pds ds) + 1<=_; have:=Zfn h; omega,by rw [sizeLine_eq]; exact Nat.le_trans (Zfq hl h).1 hb⟩
theorem Zr8 {m B:Nat} {d:D} {ds:List D} (hl:(d :: ds).length<=m) (h:∀ x ∈ d :: ds,Th 2 B x) (hb:m * B + 2 * m + 3<=16777216):Pp (.lst (d :: ds)) where
 ty:=⟨⟨_,rfl⟩,fun ds' e=>by cases e⟩
 rep:=⟨.inr ⟨2,.inl ⟨d,ds,rfl,fun x hx=>(h x hx).sh⟩⟩,by show PyData.depthAll (D.pds (d :: ds)) + 1<=_; have:=Zfn h; omega,by rw [sizeLine_eq]; exact Nat.le_trans (Zfq hl h).2 hb⟩
theorem Znj {x:D} (h:El x) (hn:isTup x=false) (hs:x.shT):Pp x:=⟨Zog h.ty hn 3,⟨.inl hs,Nat.le_trans h.dp (by decide),Nat.le_trans h.sz (by rw [sizeLine_eq]; decide)⟩⟩
def RowH (ns:List Int):Prop:=ns.length<=25/\∀ x ∈ ns,0<=x/\x<=50
theorem Zkj {n:Nat} {i:Int} (h0:0<=i) (h1:i<=100):Th n 13 (.int i):=⟨Zog ⟨_,rfl⟩ rfl n,Zrp (Zcj (by omega) (by omega)).sh n,Nat.zero_le _,Znc h0 h1⟩
theorem Zo5 {n:Nat} {ns:List Int} (h:RowH ns):∀ x ∈ ns.map D.int,Th n 13 x:=fun x hx=>by
 obtain ⟨i,hi,rfl⟩:=List.mem_map.mp hx
 have:=h.2 i hi
 exact Zkj this.1 (by omega)
theorem Zkx {n:Nat} {ns:List Int} (h:RowH ns):Th (n + 1) 400 (encRow ns):=Zdw (m:=25) (by decide) (by rw [List.length_map]; exact h.1) (Zo5 h) (by decide)
theorem Zpk {i:Int} (h0:0<=i) (h1:i<=100):El (.str (toString i:String)):=⟨⟨_,rfl⟩,.inl (.inl rfl),Nat.zero_le _,by
 show (reprText _).length<=400
 have:=StrLaws.reprText_len (PySem.Str.ofString (toString i)) (Zlc _)
 have e:=int_text_length_le10 (k:=3) (by decide) (a:=i) (Nat.lt_of_le_of_lt (show i.natAbs<=100 by omega) (by decide))
 have e2:(PySem.Str.ofString (toString i)).length<=5:=by rw [ofString_length]; omega
 omega⟩
theorem Zlm {i:Int} (h0:0<=i) (h1:i<=100):El (.tup [.int i])/\El (.lst [.int i]):=by
 have hs:D.shws [D.int i]=true:=Zk6 fun d hd=>by
  rw [List.mem_singleton.mp hd]
  exact decide_eq_true (Zhu (i:=i) (by omega) (by omega))
 have ht:∀ x ∈ [D.int i],Th 0 13 x:=fun x hx=>by rw [List.mem_singleton.mp hx]; exact Zkj h0 h1
 have sz:=Zfq (m:=1) (ds:=[.int i]) (Nat.le_refl _) ht
 have dp:=Zfn ht
 exact ⟨⟨⟨_,rfl⟩,.inl (.inl hs),by show PyData.depthAll (D.pds [.int i]) + 1<=10; show 0 + 1<=10; decide,Nat.le_trans sz.1 (by decide)⟩,⟨⟨_,rfl⟩,.inl (.inl hs),by show 0 + 1<=10; decide,Nat.le_trans sz.2 (by decide)⟩⟩
def fSpr:BSp:=fun ps ds Post=>Pen ps/\∃ (W:D) (ns:List Int),ds=[encRow ns,W]/\1<=ns.length/\RowH ns/\∀ d ps',Pen ps' -> Th 1 24200 d->Post d ps'
theorem Zh3 {n B:Nat} {ds:List D} (h:∀ x ∈ ds,Th n B x) (lo hi:Option Int):∀ x ∈ cutD ds lo hi,Th n B x:=fun x hx=>h x (Zqf hx)
theorem Zei {n B:Nat} {ds es:List D} (h1:∀ x ∈ ds,Th n B x) (h2:∀ x ∈ es,Th n B x):∀ x ∈ ds ++ es,Th n B x:=fun x hx=>(List.mem_append.mp hx).elim (h1 x) (h2 x)
theorem Znn {n B:Nat} {x:D} (h:Th n B x):∀ y ∈ [x],Th n B y:=fun y hy=>by rw [List.mem_singleton.mp hy]; exact h
section
variable {P:Program} {w:World} {K:PySem.W.Frag} {mg:Str->Option Value} {base:Heap} {f:Addr} {fd:FuncData}
theorem Ztk (mb:Mb mg) (C__law_draw:Callee P w K mg base 1 "_law_draw" ["_law_pen_here","_law_many"] (spB K fDraw)) (F:Fun K "_law_spoiled_row" "_law_spoiled_row" s_law_spoiled_row f fd):FnOk P w K mg base CX0 2 f fd ["_law_pen_here","_law_row","_law_web_here"] (spB K fSpr):=by
 refine F.ok sc_law_spoiled_row (Zfu fun ps ds Post h=>by obtain ⟨_,_,_,rfl,_⟩:=h; rfl) (fun cdv A outer s H vs Q E hr h=>?_)
 have hu:=Zco hr
 refine ⟨_,(by (refine' Zaf ?s ?r); (case s=>exact (Zax (i:=3) sc_law_spoiled_row.nd rfl (Or.inl rfl) (Zbc C__law_draw (hr.mono (by decide)) (Zaa (pv 0) (Zaa (Zaj (lenK K) rfl (mb "len" (by decide)) Zbj (Zaa (pv 1) Zac)) Zac))))); (case r=>exact (by (refine' Zaf ?s ?r); (case s=>exact (Zax (i:=4) sc_law_spoiled_row.nd rfl (Or.inl rfl) (Zbc C__law_draw (hr.mono (by decide)) (Zaa (pv 0) (Zaa (Zan Zj7 Zae Zae) Zac))))); (case r=>exact (by (refine' Zaf ?s ?r); (case s=>exact (Zax (i:=5) sc_law_spoiled_row.nd rfl (Or.inl rfl) (Zb5 (Zaa (Zan (addK K) (Zap (ixK K hu) (pv 1) (pv 3) (fun _ _=>rfl)) Zae) (Zaa (Zan Zbw (Zap (ixK K hu) (pv 1) (pv 3) (fun _ _=>rfl)) Zae) (Zaa (Zan (addK K) (Zap (ixK K hu) (pv 1) (pv 3) (fun _ _=>rfl)) Zae) (Zaa (Zan Zbw (Zap (ixK K hu) (pv 1) (pv 3) (fun _ _=>rfl)) Zae) (Zaa (pv 4) (Zaa (Zan Zbw (Zan Zbw Zae Zae) (pv 4)) (Zaa Zc6 (Zaa Zc6 (Zaa Zgr (Zaa (Zbg strUK rfl (mb "str" (by decide)) Zl6 (Zaa (Zap (ixK K hu) (pv 1) (pv 3) (fun _ _=>rfl)) Zac)) Zac))))))))))))); (case r=>exact (by (refine' Zaf ?s ?r); (case s=>exact (Zax (i:=6) sc_law_spoiled_row.nd rfl (Or.inl rfl) (Zap (ixK K hu) (Zan (addK K) (pv 5) (Zb5 (Zaa (Zbl (Zaa (Zap (ixK K hu) (pv 1) (pv 3) (fun _ _=>rfl)) Zac)) (Zaa (Zb5 (Zaa (Zap (ixK K hu) (pv 1) (pv 3) (fun _ _=>rfl)) Zac)) (Zaa Zjy (Zaa (Zan (addK K) (Zap (ixK K hu) (pv 1) (pv 3) (fun _ _=>rfl)) (Zan Zj7 Zae Zae)) Zac)))))) (Zbc C__law_draw (hr.mono (by decide)) (Zaa (pv 0) (Zaa Zae Zac))) (fun _ _=>rfl)))); (case r=>exact (by (refine' Zaf ?s ?r); (case s=>exact (Zax (i:=7) sc_law_spoiled_row.nd rfl (Or.inl rfl) (Zan (addK K) (Zan (Zlb K) (Zb5 (Zaa (Zan (addK K) (Zan (addK K) (Zbs (slK K) (pv 1) Zci (Zby (pv 3))) (Zbl (Zaa (pv 6) Zac))) (Zbs (slK K) (pv 1) (Zby (Zan (addK K) (pv 3) Zae)) Zci)) Zac)) Zae) (Zb5 (Zaa (Zan (addK K) (Zbs (slK K) (pv 1) Zci (Zby (pv 3))) (Zbs (slK K) (pv 1) (Zby (Zan (addK K) (pv 3) Zae)) Zci)) (Zaa (Zan (addK K) (Zan (addK K) (Zbs (slK K) (pv 1) Zci (Zby (pv 3))) (Zbs (slK K) (pv 1) (Zby (pv 3)) (Zby (Zan (addK K) (pv 3) Zae)))) (Zbs (slK K) (pv 1) (Zby (pv 3)) Zci)) Zac)))))); (case r=>exact (by (refine' Zaf ?s ?r); (case s=>exact (Zax (i:=7) sc_law_spoiled_row.nd rfl (Or.inl rfl) (Zan (addK K) (pv 7) (Zb5 (Zaa (Zbg (lstK K) rfl (mb "list" (by decide)) Zi2 (Zaa (pv 1) Zac)) (Zaa Zgr (Zaa (Zbl Zac) (Zaa (Zan (addK K) (pv 1) (Zbl (Zaa Zae Zac))) (Zaa (Zbg (tupK K) rfl (mb "tuple" (by decide)) Zbk (Zaa (Zbn ["_law_height"] (show CompSc (defScope s_law_spoiled_row) ["_law_pen_here","_law_row","_law_web_here","_law_at","_law_far_here","_law_things","_law_thing","_law_some"] _ [] [] from ⟨rfl,by decide +kernel,by decide +kernel,by decide +kernel,rfl,by decide +kernel⟩) rfl (seqK K (pv 1)) (fun _ _ _ _ _=>(Zam (i:=0) (show List.Nodup (["_law_height"]:List Str) from by decide) rfl (Or.inl rfl))) (fun _ _ _ _ _=>Zb8) (fun _ _ _ _ _=>(Zan (addK K) (pv 0) Zae))) Zac)) (Zaa (Zbg (strAK K hr.gd (Zt0 hr)) rfl (mb "str" (by decide)) Zl6 (Zaa (pv 1) Zac)) (Zaa (slRK K (pv 1)) Zac))))))))))); (case r=>exact (Zak (Za9 (Zap (ixK K hu) (pv 7) (Zbc C__law_draw (hr.mono (by decide)) (Zaa (pv 0) (Zaa Zae Zac))) (fun _ _=>rfl)))))))))))))))),Zk3 (fun ps ds Post hf=>?_) h⟩
 obtain ⟨hp,W,ns,rfl,hl1,hR,q⟩:=hf
 refine ⟨by simp,?_⟩
 dsimp only [cxOf,startD,List.tail,List.map,List.length,List.replicate]
 have hrl:=hR.1
 have nl:(ns.map D.int).length<=25:=by rw [List.length_map]; exact hrl
 have nl1:1<=(ns.map D.int).length:=by rw [List.length_map]; exact hl1
 have ei:∀ x ∈ ns.map D.int,Th 0 400 x:=fun x hx=>(Zo5 hR x hx).up (by decide)
 have ec:=Zh3 ei
 have cl:∀ lo hi,(cutD (ns.map D.int) lo hi).length<=25:=fun lo hi=>Nat.le_trans (Zm5 _ _ _) nl
 unfold encRow at *
 refine Zau (Za5 (Zdj rfl rfl (Zab (Za1 (Zdz (Zag rfl)) (Zah (Zb6 (m:=((ns.map D.int).length:Int)) rfl rfl hp (by omega) (by omega) fun at_ p1 hp1 a0 a1=>?_))))))
 rw [List.length_map] at a1
 obtain ⟨c,hc,hat⟩:=Ziy (f:=D.int) a0 a1
 have cr:=hR.2 c (List.mem_of_getElem? hc)
 refine Zau (Za5 (Zdj rfl rfl (Zab (Za1 (Za7 Zal Zal (pr_I ⟨by decide,by decide,by decide⟩)) (Zah (Zb6 (m:=10 ^ (30:Int).toNat) rfl rfl hp1 (by decide) (by decide) fun far p2 hp2 f0 f1=>?_))))))
 have f1:far < 1000000000000000000000000000000:=f1
 refine Zbb (fun Δ=>∃ ys:List D,ys.length=10/\(∀ y ∈ ys,El y) /\ Δ = [.bor (.lst p2),.val (.tup (ns.map D.int)),.val W,.val (.int at_),.val (.int far),.val (.lst ys),.any,.any]) ?_ ?_
 ·refine Za5 (Za1 (Zc1 (Zai (Za7 (Zaw (Zag rfl) (Zag rfl) hat) Zal Zbt) (Zai (Za7 (Zaw (Zag rfl) (Zag rfl) hat) Zal Zc4) (Zai (Za7 (Zaw (Zag rfl) (Zag rfl) hat) Zal Zbt) (Zai (Za7 (Zaw (Zag rfl) (Zag rfl) hat) Zal Zc4) (Zai (Zag rfl) (Zai (Za7 (Za7 Zal Zal Zc4) (Zag rfl) Zc4) (Zai Zom (Zai Zom (Zai Zjm (Zai (Zlw (Zai (Zaw (Zag rfl) (Zag rfl) hat) Za3) fun P p=>Znd (Zhu (by omega) (by omega)) p) Za3)))))))))) (by show 10<=sizeLine; decide)) ⟨_,rfl,?_,rfl⟩)
  intro y hy
  simp only [List.mem_cons,List.not_mem_nil,or_false] at hy
  rcases hy with rfl | rfl | rfl | rfl | rfl | rfl | rfl | rfl | rfl | rfl
  ·exact Zcj (by omega) (by omega)
  ·exact Zcj (by omega) (by omega)
  ·exact Zcj (by omega) (by omega)
  ·exact Zcj (by omega) (by omega)
  ·exact Zcj (by omega) (by omega)
  ·exact Zcj (by omega) (by omega)
  ·exact el_b "bool" rfl (by decide +kernel)
  ·exact el_b "bool" rfl (by decide +kernel)
  ·exact el_b "NoneType" rfl (by decide +kernel)
  ·exact Zpk (by omega) (by omega)
 rintro Δ1 ⟨ys,hyl,hys,rfl⟩
 refine Zbb (fun Δ=>∃ (x:D) (p3:List D),Pen p3/\El x /\ Δ = [.bor (.lst p3),.val (.tup (ns.map D.int)),.val W,.val (.int at_),.val (.int far),.val (.lst ys),.val x,.any]) ?_ ?_
 ·refine Za5 (Zaz (Za1 (Za7 (Zag rfl) (Zc1 (Zai (Zcn (Zai (Zaw (Zag rfl) (Zag rfl) hat) Za3) Zdx) (Zai (Zc1 (Zai (Zaw (Zag rfl) (Zag rfl) hat) Za3) Zdx) (Zai Zl8 (Zai (Za7 (Zaw (Zag rfl) (Zag rfl) hat) (Za7 Zal Zal (pr_I ⟨by decide,by decide,by decide⟩)) Zbt) Za3)))) (by show 4<=sizeLine; decide)) (Zf4 (by rw [hyl]; show 10 + 4<=sizeLine; decide))) (Zeu rfl rfl hp2 (by decide) (by decide) fun z p3 hp3 z0 z1=>?_)))
  have hall:∀ y ∈ ys ++ [D.tup [.int c],.lst [.int c],.dct [] [],.int (c + 10 ^ (59:Int).toNat)],El y:=fun y hy=>by
   rcases List.mem_append.mp hy with hy | hy
   ·exact hys y hy
   ·simp only [List.mem_cons,List.not_mem_nil,or_false] at hy
    rcases hy with rfl | rfl | rfl | rfl
    ·exact (Zlm cr.1 (by omega)).1
    ·exact (Zlm cr.1 (by omega)).2
    ·exact Zpi
    ·have:(10:Int) ^ (59:Int).toNat=100000000000000000000000000000000000000000000000000000000000:=by decide
     rw [this]
     exact Zcj (by omega) (by omega)
  obtain ⟨x,ex,hx⟩:=Zoq (xs:=ys ++ [D.tup [.int c],.lst [.int c],.dct [] [],.int (c + 10 ^ (59:Int).toNat)]) (z:=z) z0 (by rw [List.length_append,hyl]; exact z1)
  exact Zcd ex ⟨x,p3,hp3,hall x hx,rfl⟩
 rintro Δ1 ⟨x,p3,hp3,hx,rfl⟩
 have e1:=Znn (Ztr hx)
 have l1:[x].length<=1:=Nat.le_refl _
 refine Zbb (fun Δ=>∃ zs:List D,zs.length=8/\(∀ y ∈ zs,Th 1 24200 y) /\ Δ = [.bor (.lst p3),.val (.tup (ns.map D.int)),.val W,.val (.int at_),.val (.int far),.val (.lst ys),.val x,.val (.lst zs)]) ?_ ?_
 ·refine Za5 (Za1 (Za7 (Za7 (Zc1 (Zai (Za7 (Za7 (Zfp (Zag rfl) Zcm (Zcb (Zag rfl))) (Zcn (Zai (Zag rfl) Za3) Zdx) (addT60 25 1 (cl _ _) l1 (by decide))) (Zfp (Zag rfl) (Zcb (Za7 (Zag rfl) Zal Zbt)) Zcm) (addT60 26 25 (Zc8 (cl _ _) l1) (cl _ _) (by decide))) Za3) Zdx) Zal (fun P p=>Zqu (n:=6) (by decide) p)) (Zc1 (Zai (Za7 (Zfp (Zag rfl) Zcm (Zcb (Zag rfl))) (Zfp (Zag rfl) (Zcb (Za7 (Zag rfl) Zal Zbt)) Zcm) (addT60 25 25 (cl _ _) (cl _ _) (by decide))) (Zai (Za7 (Za7 (Zfp (Zag rfl) Zcm (Zcb (Zag rfl))) (Zfp (Zag rfl) (Zcb (Zag rfl)) (Zcb (Za7 (Zag rfl) Zal Zbt))) (addT60 25 25 (cl _ _) (cl _ _) (by decide))) (Zfp (Zag rfl) (Zcb (Zag rfl)) Zcm) (addT60 50 25 (Zc8 (cl _ _) (cl _ _)) (cl _ _) (by decide))) Za3)) (by show 2<=sizeLine; decide)) (Zf4 (by show 6 + 2<=sizeLine; decide))) ⟨_,rfl,?_,rfl⟩)
  intro y hy
  rcases List.mem_append.mp hy with hy | hy
  ·rw [(List.mem_replicate.mp hy).2]
   exact Zdw (m:=60) (by decide) (Nat.le_trans (Zc8 (Zc8 (cl _ _) l1) (cl _ _)) (by decide)) (Zei (Zei (ec _ _) e1) (ec _ _)) (by decide)
  ·simp only [List.mem_cons,List.not_mem_nil,or_false] at hy
   rcases hy with rfl | rfl
   ·exact Zdw (m:=60) (by decide) (Nat.le_trans (Zc8 (cl _ _) (cl _ _)) (by decide)) (Zei (ec _ _) (ec _ _)) (by decide)
   ·refine Zdw (m:=60) (by decide) ?_ (Zei (Zei (ec _ _) (ec _ _)) (ec _ _)) (by decide)
    have:=cut3 (ns.map D.int) at_ a0 (by rw [List.length_map]; omega)
    omega
 rintro Δ1 ⟨zs,hzl,hzs,rfl⟩
 refine Zbb (fun Δ=>∃ zs:List D,zs.length=15/\(∀ y ∈ zs,Th 1 24200 y) /\ Δ = [.bor (.lst p3),.val (.tup (ns.map D.int)),.val W,.val (.int at_),.val (.int far),.val (.lst ys),.val x,.val (.lst zs)]) ?_ ?_
 ·refine Za5 (Za1 (Za7 (Zag rfl) (Zc1 (Zai (Zlw (Zai (Zag rfl) Za3) fun P p=>Zjw (Or.inr rfl) p) (Zai Zjm (Zai (Zcn Za3 (by show 0<=sizeLine; decide)) (Zai (Za7 (Zag rfl) (Zcn (Zai Zal Za3) Zdx) (addT60 25 1 nl (Nat.le_refl _) (by decide))) (Zai (d:=encRow (ns.map fun i=>i + 1)) (fun P p=>Za4 (Zab (Zce (by decide) (Zc7 (Zad rfl ⟨_,rfl,small1000 (by omega),fun _=>true,fun d=>.int (intD d + 1),fun i d hd=>?_,?_⟩))))) (Zai (Zlw (Zai (Zag rfl) Za3) fun P p=>Zqj (fun y hy=>(ei y hy).sh) ?_ ?_ p) (Zai (Zo6 (Zag rfl)) Za3))))))) (by show 7<=sizeLine; decide)) (Zf4 (by rw [hzl]; show 8 + 7<=sizeLine; decide))) ⟨_,?_,?_,rfl⟩)
  ·obtain ⟨i,hi,rfl⟩:=List.mem_map.mp (List.mem_of_getElem? hd)
   exact Zb7 ⟨rfl,Za1 (Za7 (Zag rfl) Zal Zbt) ⟨rfl,_,rfl⟩⟩
  ·refine Zah (Zc9 (Or.inl rfl) ?_)
   rw [List.filter_eq_self.mpr (by simp),List.map_map]
   have:((fun d=>D.int (intD d + 1)) ∘ D.int)=D.int ∘ fun i=>i + 1:=rfl
   rw [this,<- List.map_map]
   exact p
  ·exact Nat.le_trans (Zkx (n:=0) hR).dp (by decide)
  ·exact Nat.le_trans (Zkx (n:=0) hR).sz (by rw [sizeLine_eq]; decide)
  ·rw [List.length_append,hzl]; rfl
  ·intro y hy
   rcases List.mem_append.mp hy with hy | hy
   ·exact hzs y hy
   ·simp only [List.mem_cons,List.not_mem_nil,or_false] at hy
    rcases hy with rfl | rfl | rfl | rfl | rfl | rfl | rfl
    ·exact Zpb (m:=25) nl ei (by decide)
    ·exact (Ztb (el_b "NoneType" rfl (by decide +kernel)) rfl).up (by decide)
    ·exact Zdw (m:=25) (B:=400) (by decide) (Nat.zero_le _) (fun _ h=>nomatch h) (by decide)
    ·exact Zdw (m:=60) (by decide) (Nat.le_trans (Zc8 nl (Nat.le_refl _)) (by decide)) (Zei ei (Znn (Ztr (Zcj (by decide) (by decide))))) (by decide)
    ·refine Zdw (m:=25) (B:=13) (by decide) (by rw [List.length_map,List.length_map]; exact hrl) (fun y hy=>?_) (by decide)
     obtain ⟨i,hi,rfl⟩:=List.mem_map.mp hy
     obtain ⟨j,hj,rfl⟩:=List.mem_map.mp hi
     have:=hR.2 j hj
     exact Zkj (by omega) (by omega)
    ·exact (Zsy (Zkx (n:=0) hR).sz (Zsi ns)).up (by decide)
    ·exact Zdw (m:=25) (by decide) (by rw [List.length_reverse]; exact nl) (fun y hy=>ei y (List.mem_reverse.mp hy)) (by decide)
 rintro Δ1 ⟨zs2,hzl2,hzs2,rfl⟩
 refine Zav (Zaz (Zad rfl (Zeu rfl rfl hp3 (by decide) (by decide) fun z p4 hp4 z0 z1=>?_)))
 obtain ⟨y,ey,hy⟩:=Zoq (xs:=zs2) (z:=z) z0 (by omega)
 exact Zcd ey ⟨_,rfl,q y _ hp4 (hzs2 y hy)⟩
end
def RowsH (hs:List (List Int)):Prop:=1<=hs.length/\hs.length<=24/\∀ r ∈ hs,1<=r.length/\RowH r
def fBent:BSp:=fun ps ds Post=>Pen ps/\∃ (W:D) (g:Int) (hs:List (List Int)),ds=[W,paperD g hs]/\1<=g/\g<=25/\RowsH hs/\∀ d ps',Pen ps' -> Pp d->Post d ps'
theorem Zs0 {n:Nat} {hs:List (List Int)} (h:RowsH hs):∀ x ∈ hs.map encRow,Th (n + 1) 400 x:=fun x hx=>by
 obtain ⟨r,hr,rfl⟩:=List.mem_map.mp hx
 exact Zkx (h.2.2 r hr).2
theorem Zd0 {g:D} {xs:List D} (hg:Th 2 400 g) (hl:xs.length<=60) (h:∀ x ∈ xs,Th 1 24200 x):Pp (.tup [g,.tup xs]):=
 Zge (m:=2) (B:=1500000) (by decide) (Nat.le_refl _) (fun x hx=>by
  simp only [List.mem_cons,List.not_mem_nil,or_false] at hx
  rcases hx with rfl | rfl
  ·exact hg.up (by decide)
  ·exact Zdw (m:=60) (Nat.le_refl _) hl h (by decide)) (by decide)
section
variable {P:Program} {w:World} {K:PySem.W.Frag} {mg:Str->Option Value} {base:Heap} {f:Addr} {fd:FuncData}
theorem Zpu (mb:Mb mg) (C__law_draw:Callee P w K mg base 1 "_law_draw" ["_law_pen_here","_law_many"] (spB K fDraw)) (C__law_spoiled_row:Callee P w K mg base 2 "_law_spoiled_row" ["_law_pen_here","_law_row","_law_web_here"] (spB K fSpr)) (F:Fun K "_law_bent" "_law_bent" s_law_bent f fd):FnOk P w K mg base CX0 3 f fd ["_law_pen_here","_law_web_here","_law_paper_here"] (spB K fBent):=by
 refine F.ok sc_law_bent (Zfu fun ps ds Post h=>by obtain ⟨_,_,_,_,rfl,_⟩:=h; rfl) (fun cdv A outer s H vs Q E hr h=>?_)
 have hu:=Zco hr
 refine ⟨_,(by (refine' Zaf ?s ?r); (case s=>exact (Zc0 (pv 2) (gtupK (n:=2) K rfl (Zas (Zam (i:=3) sc_law_bent.nd rfl (Or.inl rfl)) (Zas (Zam (i:=4) sc_law_bent.nd rfl (Or.inl rfl)) Zbr))))); (case r=>exact (by (refine' Zaf ?s ?r); (case s=>exact (Zax (i:=5) sc_law_bent.nd rfl (Or.inl rfl) (Zbc C__law_draw (hr.mono (by decide)) (Zaa (pv 0) (Zaa Zae Zac))))); (case r=>exact (by (refine' Zaf ?s ?r); (case s=>exact (Zb0 (Zar Zbx (pv 5) Zae (nomark _)) (Zaf (Zax (i:=6) sc_law_bent.nd rfl (Or.inl rfl) (Zb5 (Zaa (Zan (addK K) (pv 3) Zae) (Zaa (Zan Zbw (pv 3) Zae) (Zaa Zae (Zaa Zae (Zaa (Zan Zbw Zae (pv 3)) (Zaa Zc6 (Zaa Zgr (Zaa (Zbg strUK rfl (mb "str" (by decide)) Zl6 (Zaa (pv 3) Zac)) (Zaa (Zan (addK K) (pv 3) (Zan Zj7 Zae Zae)) (Zaa (Zb5 (Zaa (pv 3) Zac)) (Zaa Zae (Zaa (Zan Zbw Zae Zae) Zac)))))))))))))) (Zak (Za9 (Zbl (Zaa (Zap (ixK K hu) (pv 6) (Zbc C__law_draw (hr.mono (by decide)) (Zaa (pv 0) (Zaa Zae Zac))) (fun _ _=>rfl)) (Zaa (pv 4) Zac)))))) Za8)); (case r=>exact (by (refine' Zaf ?s ?r); (case s=>exact (Zb0 (Zar Zbx (pv 5) Zae (nomark _)) (Zaf (Zax (i:=7) sc_law_bent.nd rfl (Or.inl rfl) (Zb5 (Zaa (Zb5 (Zaa (pv 3) (Zaa (pv 4) Zac))) (Zaa (Zbl (Zaa (pv 3) Zac)) (Zaa (Zbl (Zaa (pv 3) (Zaa (pv 4) (Zaa (pv 4) Zac)))) (Zaa (Zbl (Zaa (pv 4) (Zaa (pv 3) Zac))) (Zaa Zgr (Zaa (pv 4) (Zaa (Zbl (Zaa (pv 3) (Zaa (Zbg (lstK K) rfl (mb "list" (by decide)) Zi2 (Zaa (pv 4) Zac)) Zac))) (Zaa (pv 3) (Zaa Zjy Zac))))))))))) (Zaf (Zax (i:=7) sc_law_bent.nd rfl (Or.inl rfl) (Zan (addK K) (pv 7) (Zb5 (Zaa (Zbl (Zaa (pv 3) (Zaa (Zan (addK K) (pv 4) (Zbs (slK K) (pv 4) Zci (Zby Zae))) Zac))) (Zaa (Zbl (Zaa (pv 3) (Zaa (Zbs (slK K) (pv 4) (Zby Zae) Zci) Zac))) (Zaa (Zbl (Zaa (pv 3) (Zaa (slRK K (pv 4)) Zac))) (Zaa (Zbl (Zaa (pv 3) (Zaa (Zbl Zac) Zac))) (Zaa Zrq (Zaa Zc6 (Zaa (Zbl Zac) Zac)))))))))) (Zak (Za9 (Zap (ixK K hu) (pv 7) (Zbc C__law_draw (hr.mono (by decide)) (Zaa (pv 0) (Zaa Zae Zac))) (fun _ _=>rfl)))))) Za8)); (case r=>exact (by (refine' Zaf ?s ?r); (case s=>exact (Zb0 (Zar Zbx (pv 5) Zae (nomark _)) (Zaf (Zax (i:=8) sc_law_bent.nd rfl (Or.inl rfl) (Zbg (tupK K) rfl (mb "tuple" (by decide)) Zbk (Zaa (Zbn ["_law_row"] (show CompSc (defScope s_law_bent) ["_law_pen_here","_law_web_here","_law_paper_here","_law_least","_law_rows","_law_way","_law_numbers","_law_some","_law_flat","_law_at"] _ [] [] from ⟨rfl,by decide +kernel,by decide +kernel,by decide +kernel,rfl,by decide +kernel⟩) rfl (seqK K (pv 4)) (fun _ _ _ _ _=>(Zam (i:=0) (show List.Nodup (["_law_row"]:List Str) from by decide) rfl (Or.inl rfl))) (fun _ _ _ _ _=>Zb8) (fun _ _ _ _ _=>(Zbg (tupK K) rfl (mb "tuple" (by decide)) Zbk (Zaa (Zbn ["_law_height"] (show CompSc (relab (defScope s_law_bent) _) ["_law_row"] _ [] [] from ⟨rfl,by decide +kernel,by decide +kernel,by decide +kernel,rfl,by decide +kernel⟩) rfl (seqK K (pv 0)) (fun _ _ _ _ _=>(Zam (i:=0) (show List.Nodup (["_law_height"]:List Str) from by decide) rfl (Or.inl rfl))) (fun _ _ _ _ _=>Zb8) (fun _ _ _ _ _=>(Zan Zf5 (pv 0) Zae))) Zac)))) Zac))) (Zak (Za9 (Zbl (Zaa (Zan (addK K) Zae (Zbc C__law_draw (hr.mono (by decide)) (Zaa (pv 0) (Zaa Zae Zac)))) (Zaa (pv 8) Zac)))))) Za8)); (case r=>exact (by (refine' Zaf ?s ?r); (case s=>exact (Zax (i:=9) sc_law_bent.nd rfl (Or.inl rfl) (Zbc C__law_draw (hr.mono (by decide)) (Zaa (pv 0) (Zaa (Zaj (lenK K) rfl (mb "len" (by decide)) Zbj (Zaa (pv 4) Zac)) Zac))))); (case r=>exact (Zak (Za9 (Zbl (Zaa (pv 3) (Zaa (Zan (addK K) (Zan (addK K) (Zbs (slK K) (pv 4) Zci (Zby (pv 9))) (Zbl (Zaa (Zbc C__law_spoiled_row (hr.mono (by decide)) (Zaa (pv 0) (Zaa (Zap (ixK K hu) (pv 4) (pv 9) (fun _ _=>rfl)) (Zaa (pv 1) Zac)))) Zac))) (Zbs (slK K) (pv 4) (Zby (Zan (addK K) (pv 9) Zae)) Zci)) Zac))))))))))))))))),Zk3 (fun ps ds Post hf=>?_) h⟩
 obtain ⟨hp,W,g,hs,rfl,g0,g1,hR,q⟩:=hf
 refine ⟨by simp,?_⟩
 dsimp only [cxOf,startD,List.tail,List.map,List.length,List.replicate]
 have hrl:=hR.2.1
 have hr1:=hR.1
 have nl:(hs.map encRow).length<=24:=by rw [List.length_map]; exact hrl
 have gr:∀ {n},∀ x ∈ hs.map encRow,Th (n + 1) 400 x:=fun {n}=>Zs0 hR
 have gg:∀ {n},Th n 400 (.int g):=fun {n}=>(Zkj (by omega) (by omega)).up (by decide)
 have gR:∀ {n},Th (n + 2) 24200 (.tup (hs.map encRow)):=fun {n}=>Zdw (m:=24) (by decide) nl gr (by decide)
 have cl:∀ lo hi,(cutD (hs.map encRow) lo hi).length<=24:=fun lo hi=>Nat.le_trans (Zm5 _ _ _) nl
 have up:∀ {xs:List D},(∀ x ∈ xs,Th 1 400 x)->∀ x ∈ xs,Th 1 24200 x:=fun h x hx=>(h x hx).up (by decide)
 unfold paperD
 refine Zau (Zf2 (Zad rfl (Zdd rfl (Zba (Zbd (Zba (Zbd (Zck ?_))))))))
 refine Zau (Za5 (Zeu rfl rfl hp (by decide) (by decide) fun way p1 hp1 w0 w1=>?_))
 refine Zau (Zb4 (Za0 (Zaz (Zad rfl (Zay (Zdu ⟨_,rfl,?_⟩))))))
 by_cases c0:way=0
 ·rw [decide_eq_true c0]
  refine iteT ?_
  refine Zbb (fun Δ=>∃ ys:List D,ys.length=12/\(∀ y ∈ ys,El y/\isTup y=false) /\ Δ = [.bor (.lst p1),.val W,.val (.tup [.int g,.tup (hs.map encRow)]),.val (.int g),.val (.tup (hs.map encRow)),.val (.int way),.val (.lst ys),.any,.any,.any]) ?_ ?_
  ·refine Za5 (Za1 (Zc1 (Zai (Za7 (Zag rfl) Zal Zbt) (Zai (Za7 (Zag rfl) Zal Zc4) (Zai Zal (Zai Zal (Zai (Za7 Zal (Zag rfl) Zc4) (Zai Zom (Zai Zjm (Zai (Zlw (Zai (Zag rfl) Za3) fun P p=>Znd (Zhu (by omega) (by omega)) p) (Zai (Za7 (Zag rfl) (Za7 Zal Zal (pr_I ⟨by decide,by decide,by decide⟩)) Zbt) (Zai (Zc1 (Zai (Zag rfl) Za3) Zdx) (Zai Zal (Zai (Za7 Zal Zal Zc4) Za3)))))))))))) (by show 12<=sizeLine; decide)) ⟨_,rfl,?_,rfl⟩)
   intro y hy
   simp only [List.mem_cons,List.not_mem_nil,or_false] at hy
   rcases hy with rfl | rfl | rfl | rfl | rfl | rfl | rfl | rfl | rfl | rfl | rfl | rfl
   ·exact ⟨Zcj (by omega) (by omega),rfl⟩
   ·exact ⟨Zcj (by omega) (by omega),rfl⟩
   ·exact ⟨Zcj (by omega) (by omega),rfl⟩
   ·exact ⟨Zcj (by omega) (by omega),rfl⟩
   ·exact ⟨Zcj (by omega) (by omega),rfl⟩
   ·exact ⟨el_b "bool" rfl (by decide +kernel),rfl⟩
   ·exact ⟨el_b "NoneType" rfl (by decide +kernel),rfl⟩
   ·exact ⟨Zpk (by omega) (by omega),rfl⟩
   ·have:(10:Int) ^ (30:Int).toNat=1000000000000000000000000000000:=by decide
    rw [this]
    exact ⟨Zcj (by omega) (by omega),rfl⟩
   ·exact ⟨(Zlm (by omega) (by omega)).2,rfl⟩
   ·exact ⟨Zcj (by omega) (by omega),rfl⟩
   ·exact ⟨Zcj (by omega) (by omega),rfl⟩
  rintro Δ1 ⟨ys,hyl,hys,rfl⟩
  refine Zav (Zdf (Zab (Zaz (Zad rfl (Zeu rfl rfl hp1 (by decide) (by decide) fun z p2 hp2 z0 z1=>?_)))))
  obtain ⟨y,ey,hy⟩:=Zoq (xs:=ys) (z:=z) z0 (by omega)
  refine Zcd ey (Zab (Zad rfl (Zah ⟨Zb9,_,rfl,q _ _ hp2 ?_⟩)))
  exact Zd0 (Ztb (hys y hy).1 (hys y hy).2) (by omega) (up gr)
 rw [decide_eq_false c0]
 refine iteF (Za2 ?_)
 refine Zau (Zb4 (Za0 (Zaz (Zad rfl (Zay (Zdu ⟨_,rfl,?_⟩))))))
 by_cases c1:way=1
 ·rw [decide_eq_true c1]
  refine iteT ?_
  refine Zbb (fun Δ=>∃ zs:List D,zs.length=9/\(∀ y ∈ zs,Pp y) /\ Δ = [.bor (.lst p1),.val W,.val (.tup [.int g,.tup (hs.map encRow)]),.val (.int g),.val (.tup (hs.map encRow)),.val (.int way),.any,.val (.lst zs),.any,.any]) ?_ ?_
  ·refine Za5 (Za1 (Zc1 (Zai (Zc1 (Zai (Zag rfl) (Zai (Zag rfl) Za3)) Zb9) (Zai (Zcn (Zai (Zag rfl) Za3) Zdx) (Zai (Zcn (Zai (Zag rfl) (Zai (Zag rfl) (Zai (Zag rfl) Za3))) (by show 3<=sizeLine; decide)) (Zai (Zcn (Zai (Zag rfl) (Zai (Zag rfl) Za3)) Zb9) (Zai Zjm (Zai (Zag rfl) (Zai (Zcn (Zai (Zag rfl) (Zai (Zlw (Zai (Zag rfl) Za3) fun P p=>Zjw (Or.inr rfl) p) Za3)) Zb9) (Zai (Zag rfl) (Zai Zl8 Za3))))))))) (by show 9<=sizeLine; decide)) ⟨_,rfl,?_,rfl⟩)
   intro y hy
   have h24:∀ y ∈ [D.int g,.tup (hs.map encRow)],Th 2 24200 y:=fun y hy=>by
    simp only [List.mem_cons,List.not_mem_nil,or_false] at hy
    rcases hy with rfl | rfl
    ·exact gg.up (by decide)
    ·exact gR
   simp only [List.mem_cons,List.not_mem_nil,or_false] at hy
   rcases hy with rfl | rfl | rfl | rfl | rfl | rfl | rfl | rfl | rfl
   ·exact Zr8 (m:=2) (Nat.le_refl _) h24 (by decide)
   ·exact Zge (m:=1) (by decide) (Nat.le_refl _) (Znn gg) (by decide)
   ·refine Zge (m:=3) (B:=24200) (by decide) (Nat.le_refl _) (fun y hy=>?_) (by decide)
    simp only [List.mem_cons,List.not_mem_nil,or_false] at hy
    rcases hy with rfl | rfl | rfl
    ·exact gg.up (by decide)
    ·exact gR
    ·exact gR
   ·refine Zge (m:=2) (B:=24200) (by decide) (Nat.le_refl _) (fun y hy=>?_) (by decide)
    simp only [List.mem_cons,List.not_mem_nil,or_false] at hy
    rcases hy with rfl | rfl
    ·exact gR
    ·exact gg.up (by decide)
   ·exact Znj (el_b "NoneType" rfl (by decide +kernel)) rfl (.inl rfl)
   ·exact Zge (m:=24) (by decide) nl gr (by decide)
   ·refine Zge (m:=2) (B:=24200) (by decide) (Nat.le_refl _) (fun y hy=>?_) (by decide)
    simp only [List.mem_cons,List.not_mem_nil,or_false] at hy
    rcases hy with rfl | rfl
    ·exact gg.up (by decide)
    ·exact Zpb (m:=24) nl gr (by decide)
   ·exact Znj (Zcj (by omega) (by omega)) rfl (.inl (decide_eq_true (Zhu (by omega) (by omega))))
   ·exact Znj Zpi rfl (.inr ⟨[],[],rfl,fun _ h=>(nomatch h),fun _ h=>(nomatch h)⟩)
  rintro Δ1 ⟨zs,hzl,hzs,rfl⟩
  refine Zbb (fun Δ=>∃ zs:List D,zs.length=16/\(∀ y ∈ zs,Pp y) /\ Δ = [.bor (.lst p1),.val W,.val (.tup [.int g,.tup (hs.map encRow)]),.val (.int g),.val (.tup (hs.map encRow)),.val (.int way),.any,.val (.lst zs),.any,.any]) ?_ ?_
  ·refine Za5 (Za1 (Za7 (Zag rfl) (Zc1 (Zai (Zcn (Zai (Zag rfl) (Zai (Za7 (Zag rfl) (Zfp (Zag rfl) Zcm (Zcb Zal)) (addT60 24 24 nl (cl _ _) (by decide))) Za3)) Zb9) (Zai (Zcn (Zai (Zag rfl) (Zai (Zfp (Zag rfl) (Zcb Zal) Zcm) Za3)) Zb9) (Zai (Zcn (Zai (Zag rfl) (Zai (Zo6 (Zag rfl)) Za3)) Zb9) (Zai (Zcn (Zai (Zag rfl) (Zai (Zcn Za3 (by show 0<=sizeLine; decide)) Za3)) Zb9) (Zai Zry (Zai Zom (Zai (Zcn Za3 (by show 0<=sizeLine; decide)) Za3))))))) (by show 7<=sizeLine; decide)) (Zf4 (by rw [hzl]; show 9 + 7<=sizeLine; decide))) ⟨_,?_,?_,rfl⟩)
   ·rw [List.length_append,hzl]; rfl
   intro y hy
   rcases List.mem_append.mp hy with hy | hy
   ·exact hzs y hy
   simp only [List.mem_cons,List.not_mem_nil,or_false] at hy
   rcases hy with rfl | rfl | rfl | rfl | rfl | rfl | rfl
   ·exact Zd0 gg (Nat.le_trans (Zc8 nl (cl _ _)) (by decide)) (up (Zei gr (Zh3 gr _ _)))
   ·exact Zd0 gg (Nat.le_trans (cl _ _) (by decide)) (up (Zh3 gr _ _))
   ·exact Zd0 gg (by rw [List.length_reverse]; omega) (up fun y hy=>gr y (List.mem_reverse.mp hy))
   ·exact Zd0 gg (Nat.zero_le _) (fun _ h=>nomatch h)
   ·exact Znj (el_b "str" rfl (by decide +kernel)) rfl (.inl rfl)
   ·exact Znj (el_b "bool" rfl (by decide +kernel)) rfl (.inl rfl)
   ·exact Zge (m:=0) (B:=0) (by decide) (Nat.le_refl _) (fun _ h=>nomatch h) (by decide)
  rintro Δ1 ⟨zs2,hzl2,hzs2,rfl⟩
  refine Zav (Zaz (Zad rfl (Zeu rfl rfl hp1 (by decide) (by decide) fun z p4 hp4 z0 z1=>?_)))
  obtain ⟨y,ey,hy⟩:=Zoq (xs:=zs2) (z:=z) z0 (by omega)
  exact Zcd ey ⟨_,rfl,q y _ hp4 (hzs2 y hy)⟩
 rw [decide_eq_false c1]
 refine iteF (Za2 ?_)
 refine Zau (Zb4 (Za0 (Zaz (Zad rfl (Zay (Zdu ⟨_,rfl,?_⟩))))))
 by_cases c2:way=2
 ·rw [decide_eq_true c2]
  refine iteT ?_
  refine Zbb (fun Δ=>Δ = [.bor (.lst p1),.val W,.val (.tup [.int g,.tup (hs.map encRow)]),.val (.int g),.val (.tup (hs.map encRow)),.val (.int way),.any,.any,.val (.tup ((hs.map fun r=>r.map fun i=>i / 2).map encRow)),.any]) ?_ ?_
  ·refine Za5 (Za4 (Zab (Zce (by decide) (Zc7 (Zad rfl ⟨_,rfl,small1000 (by omega),fun _=>true,fun d=>encRow ((tupI d).map fun i=>i / 2),fun i d hd=>?_,?_⟩)))))
   ·obtain ⟨r,hr,rfl⟩:=List.mem_map.mp (List.mem_of_getElem? hd)
    have hrr:=(hR.2.2 r hr).2
    have hrl:=hrr.1
    refine Zb7 ⟨rfl,Za4 (Zab (Zce (by decide) (Zc7 (Zad rfl ⟨_,rfl,by rw [List.length_map]; exact small1000 (by omega),fun _=>true,fun d=>.int (intD d / 2),fun i d hd=>?_,?_⟩))))⟩
    ·obtain ⟨i,hi,rfl⟩:=List.mem_map.mp (List.mem_of_getElem? hd)
     exact Zb7 ⟨rfl,Za1 (Za7 (Zag rfl) Zal (pr_I ⟨by decide,by decide⟩)) ⟨rfl,_,rfl⟩⟩
    ·refine Zah (Zc9 (Or.inl rfl) ⟨?_,_,rfl⟩)
     rw [List.filter_eq_self.mpr (by simp),List.map_map]
     show _=D.tup ((((r.map D.int).map intD).map fun i=>i / 2).map D.int)
     rw [List.map_map,List.map_map,List.map_map]; rfl
   ·refine Zah (Zc9 (Or.inl rfl) ?_)
    rw [List.filter_eq_self.mpr (by simp),List.map_map,List.map_map]
    have:((fun d=>encRow ((tupI d).map fun i=>i / 2)) ∘ encRow)=encRow ∘ fun r=>r.map fun i=>i / 2:=by
     funext r
     show encRow (((r.map D.int).map intD).map _)=encRow _
     rw [List.map_map,List.map_map]; rfl
    rw [this]
    rfl
  rintro Δ1 rfl
  refine Zav (Zdf (Zab (Zaz (Zay (Zeu rfl rfl hp1 (by decide) (by decide) fun z p2 hp2 z0 z1=>Zcc (Zab (Zad rfl (Zah ⟨Zb9,_,rfl,q _ _ hp2 ?_⟩))))))))
  refine Zd0 ((Zkj (by omega) (by omega)).up (by decide)) (by rw [List.length_map,List.length_map]; omega) fun x hx=>?_
  obtain ⟨r,hr,rfl⟩:=List.mem_map.mp hx
  obtain ⟨r0,hr0,rfl⟩:=List.mem_map.mp hr
  have h0:=(hR.2.2 r0 hr0).2
  refine (Zkx ⟨by rw [List.length_map]; exact h0.1,fun x hx=>?_⟩).up (by decide)
  obtain ⟨i,hi,rfl⟩:=List.mem_map.mp hx
  have:=h0.2 i hi
  omega
 rw [decide_eq_false c2]
 refine iteF (Za2 ?_)
 refine Zau (Za5 (Zdj rfl rfl (Zab (Za1 (Zdz (Zag rfl)) (Zah (Zb6 (m:=((hs.map encRow).length:Int)) rfl rfl hp1 (by rw [List.length_map]; omega) (by omega) fun at_ p2 hp2 a0 a1=>?_))))))
 rw [List.length_map] at a1
 obtain ⟨r,hc,hat⟩:=Ziy (f:=encRow) a0 a1
 have cr:=hR.2.2 r (List.mem_of_getElem? hc)
 refine Zav (Zdf (Zab (Zad rfl (Zab (Zaz (Zaz (Za1 (Zfp (Zag rfl) Zcm (Zcb (Zag rfl))) (Zdf (Zab (Zdj rfl rfl (Zab (Za1 (Zaw (Zag rfl) (Zag rfl) hat) (Zab (Zad rfl (Zah ⟨_,_,rfl,rfl,hp2,W,r,rfl,cr.1,cr.2,fun x p3 hp3 hx=>?_⟩)))))))))))))))
 have l1:[x].length<=1:=Nat.le_refl _
 refine Zah ⟨Zdx,addT60 24 1 (cl _ _) l1 (by decide) _ (Za1 (Zfp (Zag rfl) (Zcb (Za7 (Zag rfl) Zal Zbt)) Zcm) (addT60 25 24 (Zc8 (cl _ _) l1) (cl _ _) (by decide) _ (Zah ⟨Zb9,_,rfl,q _ _ hp3 ?_⟩)))⟩
 exact Zd0 gg (Nat.le_trans (Zc8 (Zc8 (cl _ _) l1) (cl _ _)) (by decide)) (Zei (Zei (up (Zh3 gr _ _)) (Znn hx)) (up (Zh3 gr _ _)))
end
section
variable {P:Program} {w:World} {K:PySem.W.Frag} {mg:Str->Option Value} {base:Heap} {f:Addr} {fd:FuncData}
theorem Zq9 {K:PySem.W.Frag} {Δ:Evt} {Pd:D->Evt->Prop} {i:Int} (p:Pd (.int (-i)) Δ):JR1 K (rU fun i=>.int (-i)) (.int i) Δ Pd:=fun g G H σ Q x k r c=>by
 cases r
 exact ⟨i,rfl,c _ _ G H Δ k (Same.refl _) (.int _) p⟩
end
section
variable {P:Program} {w:World} {K:PySem.W.Frag} {mg:Str->Option Value} {base:Heap} {f:Addr} {fd:FuncData}
theorem neg60 {K:PySem.W.Frag} {Δ:Evt} {i:Int}:PV K (tUn (rU fun i=>.int (-i)) (tC (.int i))) Δ (.int (-i)):=fun P p=>Ztj (Zay (Zq9 p))
end
theorem Zq8 {K:PySem.W.Frag} {Δ:Evt} {ta tb:TE} {Po:OD->Evt->Prop} (h:JE K ta Δ fun d Δ1=>JE K tb Δ1 fun e Δ2=>∃ ds es:List D,d=.lst ds/\e=.lst es/\ds.length + es.length<=sizeLine/\Po (.lst (ds ++ es)) Δ2):JO K (tOp (rAddU K) ta tb) Δ Po:=fun g G H σ Q k c=>
 h g G H σ _ k fun x d G1 H1 Δ1 k1 s1 r1 p1=>p1 g G1 H1 σ _ k1 fun y e G2 H2 Δ2 k2 s2 r2 ⟨ds,es,hd,he,hz,p⟩=>by
  subst hd he
  obtain ⟨_,_,rfl,ha,ra⟩:=(r1.mono s2).inv
  obtain ⟨_,_,rfl,hb,rb⟩:=r2.inv
  refine .inr (.inr ⟨_,_,_,_,rfl,rfl,k2.live _ _ ha,k2.live _ _ hb,by rw [ra.length,rb.length]; exact hz,fun q hq=>?_⟩)
  obtain ⟨k4,pd⟩:=k2.fresh (od:=.lst (ds ++ es)) hq (show OwnRep K G2 (.lst _) (.lst (ds ++ es)) from ra.append rb)
  exact c q _ G2 _ Δ2 k4 (s1.trans s2) pd p
def FarH (N:Nat) (hs:List (List Int)):Prop:=∀ r ∈ hs,r.length=N/\∀ x ∈ r,0<=x/\x<=25
theorem Zjl {N:Nat} {hs:List (List Int)} (h:FarH N hs) (h1:1<=N) (h2:N<=25) (l1:1<=hs.length) (l2:hs.length<=24):RowsH hs:=⟨l1,l2,fun r hr=>by
 have:=h r hr
 exact ⟨by omega,by omega,fun x hx=>by have:=this.2 x hx; omega⟩⟩
theorem Znm {N:Nat} {g:Int} {hs:List (List Int)} (h:FarH N hs) (h2:N<=25) (l2:hs.length<=24) (g0:1<=g) (g1:g<=25):Pp (paperD g hs):=Zd0 ((Zkj (by omega) (by omega)).up (by decide)) (by rw [List.length_map]; omega) fun x hx=>by
 obtain ⟨r,hr,rfl⟩:=List.mem_map.mp hx
 have:=h r hr
 exact (Zkx ⟨by omega,fun x hx=>by have:=this.2 x hx; omega⟩).up (by decide)
theorem Zjk {N:Nat} {hs:List (List Int)} {r:List Int} (h:FarH N hs) (hl:r.length=N) (hr:∀ x ∈ r,0<=x/\x<=25):FarH N (hs ++ [r]):=fun q hq=>by
 rcases List.mem_append.mp hq with hq | hq
 ·exact h q hq
 ·rw [List.mem_singleton.mp hq]; exact ⟨hl,hr⟩
section
variable {P:Program} {w:World} {K:PySem.W.Frag} {mg:Str->Option Value} {base:Heap} {f:Addr} {fd:FuncData}
theorem ok_law (mb:Mb mg) (C__law_pen:Callee P w K mg base 1 "_law_pen" ["_law_script"] (spN K fPen)) (C__law_draw:Callee P w K mg base 1 "_law_draw" ["_law_pen_here","_law_many"] (spB K fDraw)) (C__law_one:Callee P w K mg base 2 "_law_one" ["_law_pen_here","_law_places","_law_ties"] (spB K fOne25)) (C__law_web:Callee P w K mg base 2 "_law_web" ["_law_pen_here","_law_places","_law_ties"] (spB K fWeb)) (C__law_far:Callee P w K mg base 1 "_law_far" ["_law_web_here","_law_tie"] (spD K fFar)) (C__law_bent:Callee P w K mg base 3 "_law_bent" ["_law_pen_here","_law_web_here","_law_paper_here"] (spB K fBent)) (C_ring_paper:Callee P w K mg base 3 "ring_paper" ["web"] (spD K fRp)) (C_ring_bars:Callee P w K mg base 5 "ring_bars" ["web","paper"] (spD K fRbX)) (C__law_paper:Callee P w K mg base 3 "_law_paper" ["_law_web_here","_law_paper_here"] (spD K fIrpX)) (C__law_bars:Callee P w K mg base 1 "_law_bars" ["_law_web_here","_law_least"] (spD K fLB)) (C__law_whole:Callee P w K mg base 1 "_law_whole" ["_law_found"] (spD K fIsWX))
  (F:Fun K "law" "law" s_law f fd):FnOk P w K mg base CX0 6 f fd ["_law_script"] (spD K fLaw):=by
 refine F.ok sc_law (Zb2 fun ds Post h=>by obtain ⟨_,rfl,_⟩:=h; rfl) (fun cdv A outer s H vs Q E hr h=>?_)
 have hu:=Zco hr
 have hv:=Zp0 hr
 refine ⟨_,(Zaf (Zax (i:=1) sc_law.nd rfl (Or.inl rfl) (Zbc C__law_pen (hr.mono (by decide)) (Zaa (pv 0) Zac))) (Zaf (Zax (i:=2) sc_law.nd rfl (Or.inr rfl) (Zbc C__law_one (hr.mono (by decide)) (Zaa (pv 1) (Zaa Zae (Zaa Zae Zac))))) (Zaf (Zax (i:=3) sc_law.nd rfl (Or.inl rfl) (Zb5 (Zaa (Zbl (Zaa (Zan (addK K) Zae (Zbc C__law_draw (hr.mono (by decide)) (Zaa (pv 1) (Zaa Zae Zac)))) (Zaa (Zbg (tupK K) rfl (mb "tuple" (by decide)) Zbk (Zaa (Zbn ["_law_tie"] (show CompSc (defScope s_law) ["_law_script","_law_pen_here","_law_web_here","_law_papers","_law_k","_law_other","_law_place","_law_paper_here","_law_kept","_law_found"] _ ["_law_web_here"] [2] from ⟨rfl,by decide +kernel,by decide +kernel,by decide +kernel,rfl,by decide +kernel⟩) rfl (Zbz rfl (mb "range" (by decide)) (Zaa (Zaj (lenK K) rfl (mb "len" (by decide)) Zbj (Zaa (Zap (ixK K hu) (pv 2) Zae (fun _ _=>rfl)) Zac)) Zac)) (fun _ _ _ _ _=>(Zam (i:=0) (show List.Nodup (["_law_tie","_law_web_here"]:List Str) from by decide) rfl (Or.inl rfl))) (fun _ _ _ _ _=>Zb8) (fun _ _ _ _ _=>(Zbc C__law_far (hr.mono (by decide)) (Zaa (pv 1) (Zaa (pv 0) Zac))))) Zac)) Zac))) Zac))) (Zaf (Zb0 (Zar Zn0 (Zaj (lenK K) rfl (mb "len" (by decide)) Zbj (Zaa (Zap (ixK K hu) (pv 2) Zae (fun _ _=>rfl)) Zac)) (Zap (ixK K hu) (pv 2) Zae (fun _ _=>rfl)) (nomark _)) (Zaf (Zax (i:=3) sc_law.nd rfl (Or.inl rfl) (Zan (addK K) (pv 3) (Zb5 (Zaa (Zbc C_ring_paper (hr.mono (by decide)) (Zaa (pv 2) Zac)) Zac)))) (Zak (Zcq PassesOwn.never rfl (Zbz rfl (mb "range" (by decide)) (Zaa Zae Zac)) (Zam (i:=4) sc_law.nd rfl (Or.inl rfl)) (Zak (Zd8 (bmK K PySem.F.plainAttrs_list PySem.F.slot_list_append PySem.F.type_list_append Zdb (pv 3) (Zaa (Zbc C__law_bent (hr.mono (by decide)) (Zaa (pv 1) (Zaa (pv 2) (Zaa (Zap (ixK K hu) (pv 3) (Zan Zcw (pv 4) Zae) (fun _ _=>rfl)) Zac)))) Zac))))))) Za8) (Zaf (Zax (i:=5) sc_law.nd rfl (Or.inr rfl) (Zbc C__law_web (hr.mono (by decide)) (Zaa (pv 1) (Zaa Zae (Zaa Zae Zac))))) (Zaf (Zd8 (bmK K PySem.F.plainAttrs_list PySem.F.slot_list_append PySem.F.type_list_append Zdb (pv 3) (Zaa (Zbl (Zaa Zae (Zaa (Zbg (tupK K) rfl (mb "tuple" (by decide)) Zbk (Zaa (Zbn ["_law_tie"] (show CompSc (defScope s_law) ["_law_script","_law_pen_here","_law_web_here","_law_papers","_law_k","_law_other","_law_place","_law_paper_here","_law_kept","_law_found"] _ ["_law_other"] [5] from ⟨rfl,by decide +kernel,by decide +kernel,by decide +kernel,rfl,by decide +kernel⟩) rfl (Zbz rfl (mb "range" (by decide)) (Zaa (Zaj (lenK K) rfl (mb "len" (by decide)) Zbj (Zaa (Zap (ixK K hu) (pv 5) Zae (fun _ _=>rfl)) Zac)) Zac)) (fun _ _ _ _ _=>(Zam (i:=0) (show List.Nodup (["_law_tie","_law_other"]:List Str) from by decide) rfl (Or.inl rfl))) (fun _ _ _ _ _=>Zb8) (fun _ _ _ _ _=>(Zbc C__law_far (hr.mono (by decide)) (Zaa (pv 1) (Zaa (pv 0) Zac))))) Zac)) Zac))) Zac))) (Zaf (Zcq PassesOwn.never rfl (seqK K (Zb5 (Zaa (pv 2) (Zaa (pv 5) Zac)))) (Zam (i:=6) sc_law.nd rfl (Or.inl rfl)) (Zak (Zcq PassesOwn.never rfl (seqK K (Zan (addK K) (pv 3) (Zb5 (Zaa (Zap (ixK K hu) (pv 3) (Zrx Zo8 Zae) (fun _ _=>rfl)) Zac)))) (Zam (i:=7) sc_law.nd rfl (Or.inl rfl)) (Zaf (Zax (i:=8) sc_law.nd rfl (Or.inl rfl) (Zaj (reprVK K hr.gd (Zsx hr)) rfl (mb "repr" (by decide)) Zlv (Zaa (pv 7) Zac))) (Zaf (Zax (i:=9) sc_law.nd rfl (Or.inl rfl) (Zbc C_ring_bars (hr.mono (by decide)) (Zaa (pv 6) (Zaa (pv 7) Zac)))) (Zaf (Zb0 (truK K (Zbc C__law_paper (hr.mono (by decide)) (Zaa (pv 6) (Zaa (pv 7) Zac))) (fun _=>rfl)) (Zak (Zb0 (PW.pt (pw_or (Zd7 (truK K (Zbc C__law_whole (hr.mono (by decide)) (Zaa (pv 9) Zac)) (fun _=>rfl))) (pw_or1 (Zar Zds (pv 9) (Zbc C__law_bars (hr.mono (by decide)) (Zaa (pv 6) (Zaa (Zap (ixK K hu) (pv 7) Zae (fun _ _=>rfl)) Zac))) (nomark _))))) (Zak (Za9 Zc6)) Za8)) (Zak (Zb0 (Zar Zqh (pv 9) Zgr (nomark _)) (Zak (Za9 Zc6)) Za8))) (Zak (Zb0 (Zar Zds (Zaj (reprVK K hr.gd (Zsx hr)) rfl (mb "repr" (by decide)) Zlv (Zaa (pv 7) Zac)) (pv 8) (nomark _)) (Zak (Za9 Zc6)) Za8)))))))) (Zak (Za9 Zc6))))))))),Zdy (fun ds Post hf=>?_) h⟩
 obtain ⟨ns,rfl,hl,q⟩:=hf
 refine ⟨by simp,?_⟩
 dsimp only [startD,List.tail,List.map,List.length,List.replicate]
 refine Zau (Zdn (Zes (Zab (Zad rfl (Zah ⟨ns,rfl,hl,fun ps hp=>?_⟩)))))
 refine Zau (Za5 (Zdj rfl rfl (Zab (Zay (Zab (Zay (Zah ⟨_,_,rfl,rfl,hp,rfl,fun N ts p1 hp1 hW hone=>?_⟩)))))))
 have hlen:=hW.len
 have hN:=hW.hi
 have hN1:=hW.lo
 refine Zbb (fun Δ=>∃ (px:List D) (g:Int) (hs:List (List Int)),Pen px/\1<=g/\g<=25/\hs.length=ts.length/\FarH N hs /\ Δ = [.val (.scr (ns.map .int)),.own (.lst px),.val (encWeb (N:Int) ts),.own (.lst [paperD g hs]),.any,.any,.any,.any,.any,.any]) ?_ ?_
 ·refine Zdn (Zhx (Zab (Zdf (Zab (Zaz (Zay (Zeu rfl rfl hp1 (by decide) (by decide) fun z px hpx z0 z1=>Zcc (Zab (Za4 (Zab (Zg9 (n:=1) (by decide) (Zb1 (Zab (Za4 (Zab (Za1 (Zaw (d:=.tup (ts.map encTie)) (Zag rfl) Zal rfl) (Zah (Zbp (Or.inr rfl) ?_))))))))))))))))))
  rw [List.length_map]
  refine Zah ⟨_,rfl,by omega,by omega,?_⟩
  refine ⟨by rw [Zbm]; exact small1000 (by omega),fun i ys Δ2=>∃ (hs:List (List Int)) (x:L2.Slot),hs.length=i/\FarH N hs/\ys=hs.map encRow /\ Δ2=[x,.val (encWeb (N:Int) ts)],⟨[],.any,rfl,fun _ h=>(nomatch h),rfl,rfl⟩,?_,?_⟩
  ·rintro i d ys Δ2 hd ⟨hs,x,hsl,hF,rfl,rfl⟩
   obtain ⟨hi,rfl⟩:=Zb3 hd
   have hi:i < ts.length:=by omega
   rw [Int.zero_add]
   refine Zg2 (by decide) (Nat.succ_pos _) (Zb7 (iteT ?_))
   exact Zbi (Zab (Zad rfl (Zab (Zad rfl (Zah ⟨N,ts,i,rfl,hW,hi,fun r hl hx=>⟨hs ++ [r],_,by rw [List.length_append,hsl]; rfl,Zjk hF hl hx,by rw [List.map_append]; rfl,rfl⟩⟩)))))
  ·rintro ys Δ2 ⟨hs,x,hsl,hF,rfl,rfl⟩
   rw [Zbm,Int.toNat_natCast] at hsl
   exact Zah (Zc9 (Or.inl rfl) (Zah ⟨Zb9,Zah ⟨Zdx,px,1 + z,hs,hpx,by omega,by omega,hsl,hF,rfl⟩⟩))
 rintro Δ1 ⟨px,g,hs,hpx,g0,g1,hsl,hF,rfl⟩
 have P0:Pp (paperD g hs):=Znm hF (by omega) (by omega) g0 g1
 refine Zbb (fun Δ=>∃ (px ys:List D) (x4:L2.Slot),Pen px/\ys.length<=20/\(∀ y ∈ ys,Pp y) /\ Δ = [.val (.scr (ns.map .int)),.own (.lst px),.val (encWeb (N:Int) ts),.own (.lst ys),x4,.any,.any,.any,.any,.any]) ?_ ?_
 ·refine Zb4 (Za0 (Zaz (Za1 (Zdz (Zaw (d:=.tup (ts.map encTie)) (Zag rfl) Zal rfl)) (Za1 (Zaw (d:=.int (N:Int)) (Zag rfl) Zal rfl) (Zfa ⟨_,rfl,?_⟩)))))
  rw [List.length_map]
  by_cases c:(ts.length:Int) ≥ (N:Int)
  rotate_left
  ·rw [decide_eq_false c]
   exact iteF (Za2 ⟨px,_,_,hpx,by show 1<=20; decide,fun y hy=>by rw [List.mem_singleton.mp hy]; exact P0,rfl⟩)
  rw [decide_eq_true c]
  refine iteT (Zau (Zdn (Zq8 (Zf1 rfl (Zjr (Zab (Zbi (Zab (Zad rfl (Zah ⟨N,ts,rfl,hW,hone,by omega,fun g2 hs2 h0 h1 hsl2 hF2 _=>Zah ⟨Zdx,_,_,rfl,rfl,Zb9,?_⟩⟩))))))))))
  have P1:Pp (paperD g2 hs2):=Znm hF2 (by omega) (by omega) h0 h1
  refine Zcr (Zb1 (Zab (Zay (Zah ⟨_,rfl,by decide,by decide,?_⟩))))
  refine ⟨fun i Δ=>∃ (px ys:List D) (x4:L2.Slot),Pen px/\ys.length=i/\(∀ y ∈ ys,Pp y) /\ Δ = [.val (.scr (ns.map .int)),.own (.lst px),.val (encWeb (N:Int) ts),.own (.lst (paperD g hs :: paperD g2 hs2 :: ys)),x4,.any,.any,.any,.any,.any],⟨px,[],_,hpx,rfl,fun _ h=>(nomatch h),rfl⟩,?_,?_⟩
  ·rintro i d Δ2 hd ⟨px,ys,x4,hpx,hyl,hys,rfl⟩
   obtain ⟨hi,rfl⟩:=Zb3 hd
   have hi:i < 9:=hi
   have hat:∃ g3 hs3,atI (paperD g hs :: paperD g2 hs2 :: ys) ((0 + (i:Int)) % 2)=some (paperD g3 hs3)/\1<=g3/\g3<=25/\RowsH hs3:=by
    rcases (by omega:(0 + (i:Int)) % 2=0\/(0 + (i:Int)) % 2=1) with e | e
    ·exact ⟨g,hs,by rw [e]; exact Zcv (j:=0) rfl,g0,g1,Zjl hF (by omega) (by omega) (by omega) (by omega)⟩
    ·exact ⟨g2,hs2,by rw [e]; exact Zcv (j:=1) rfl,h0,h1,Zjl hF2 (by omega) (by omega) (by omega) (by omega)⟩
   obtain ⟨g3,hs3,hat,k0,k1,hR3⟩:=hat
   refine Zbd (Zi9 rfl rfl (Zdj rfl rfl (Zab (Zad rfl (Zab (Zcz rfl rfl (Za1 (Za7 (Zag rfl) Zal (pr_I (by show (0:Int) < 2; decide))) ⟨_,_,_,_,rfl,rfl,rfl,hat,Zah ⟨_,_,rfl,rfl,hpx,_,g3,hs3,rfl,k0,k1,hR3,fun d pz hpz hd=>⟨_,_,rfl,rfl,?_,?_⟩⟩⟩)))))))
   ·exact small1000 (by show ys.length + 1 + 1<=1000; omega)
   ·exact ⟨pz,ys ++ [d],_,hpz,by rw [List.length_append,hyl]; rfl,fun y hy=>by
     rcases List.mem_append.mp hy with h | h
     ·exact hys y h
     ·rw [List.mem_singleton.mp h]; exact hd,rfl⟩
  ·rintro Δ2 ⟨px,ys,x4,hpx,hyl,hys,rfl⟩
   rw [Zbm] at hyl
   have hyl:ys.length=9:=hyl
   refine ⟨px,_,x4,hpx,by show ys.length + 1 + 1<=20; omega,fun y hy=>?_,rfl⟩
   simp only [List.mem_cons] at hy
   rcases hy with rfl | rfl | h
   ·exact P0
   ·exact P1
   ·exact hys y h
 rintro Δ1 ⟨px,ys,x4,hpx,hyl,hys,rfl⟩
 refine Zau (Za5 (Zdj rfl rfl (Zab (Zay (Zab (Zay (Zah (Ztc rfl rfl hpx (by decide) (by decide) (by decide) (by decide) fun m us p2 hp2 hV _ _=>?_))))))))
 obtain ⟨M,rfl⟩:∃ M:Nat,m=(M:Int):=⟨m.toNat,by have:=hV.lo; omega⟩
 have hlen2:=hV.len
 have hM:=hV.hi
 refine Zbb (fun Δ=>∃ (y:D),Pp y /\ Δ = [.val (.scr (ns.map .int)),.own (.lst p2),.val (encWeb (N:Int) ts),.own (.lst (ys ++ [y])),x4,.val (encWeb (M:Int) us),.any,.any,.any,.any]) ?_ ?_
 ·refine Zi9 rfl rfl (Zdf (Zab (Zay (Zab (Za4 (Zab (Zg9 (n:=1) (by decide) (Zb1 (Zab (Za4 (Zab (Za1 (Zaw (d:=.tup (us.map encTie)) (Zag rfl) Zal rfl) (Zah (Zbp (Or.inr rfl) ?_))))))))))))))
  rw [List.length_map]
  refine Zah ⟨_,rfl,by omega,by omega,?_⟩
  refine ⟨by rw [Zbm]; exact small1000 (by omega),fun i ys Δ2=>∃ (hs:List (List Int)) (x:L2.Slot),hs.length=i/\FarH M hs/\ys=hs.map encRow /\ Δ2=[x,.val (encWeb (M:Int) us)],⟨[],.any,rfl,fun _ h=>(nomatch h),rfl,rfl⟩,?_,?_⟩
  ·rintro i d ys Δ2 hd ⟨hs,x,hsl,hF,rfl,rfl⟩
   obtain ⟨hi,rfl⟩:=Zb3 hd
   have hi:i < us.length:=by omega
   rw [Int.zero_add]
   refine Zg2 (by decide) (Nat.succ_pos _) (Zb7 (iteT ?_))
   exact Zbi (Zab (Zad rfl (Zab (Zad rfl (Zah ⟨M,us,i,rfl,hV,hi,fun r hl hx=>⟨hs ++ [r],_,by rw [List.length_append,hsl]; rfl,Zjk hF hl hx,by rw [List.map_append]; rfl,rfl⟩⟩)))))
  ·rintro ys' Δ2 ⟨hs,x,hsl,hF,rfl,rfl⟩
   rw [Zbm,Int.toNat_natCast] at hsl
   exact Zah (Zc9 (Or.inl rfl) (Zah ⟨Zb9,_,_,rfl,rfl,small1000 (by omega),paperD 1 hs,Znm hF (by omega) (by omega) (by decide) (by decide),by cases x4 <;> rfl⟩))
 rintro Δ1 ⟨yl,hyl2,rfl⟩
 refine Zse (i:=3) rfl ?_
 refine Zbb (fun _=>True) ?_ (fun Δ1 _=>Zav (Zcg q))
 refine Zcr (Zeq (Za1 (Zc1 (Zai (Zag rfl) (Zai (Zag rfl) Za3)) Zb9) ⟨_,Or.inl rfl,fun _ Δ=>∃ x6 x7 x8 x9:L2.Slot,Δ = [.val (.scr (ns.map .int)),.own (.lst p2),.val (encWeb (N:Int) ts),.val (.lst (ys ++ [yl])),x4,.val (encWeb (M:Int) us),x6,x7,x8,x9],⟨_,_,_,_,rfl⟩,?_,fun _ _=>trivial⟩))
 rintro i d Δ2 hd ⟨x6,x7,x8,x9,rfl⟩
 obtain ⟨L,vs,rfl,hL⟩:∃ (L:Nat) (vs:List (Int × Int)),d=encWeb (L:Int) vs/\WebOk (L:Int) vs:=by
  rcases i with _ | _ | i
  ·cases hd; exact ⟨N,ts,rfl,hW⟩
  ·cases hd; exact ⟨M,us,rfl,hV⟩
  ·cases hd
 refine Zbd (Zcr (Zeq (Za1 (Za7 (Zag rfl) (Zc1 (Zai (Zsf (Zag rfl) neg60 (Zop _ _)) Za3) Zdx) (Zf4 ?_)) ⟨_,Or.inl rfl,fun _ Δ=>∃ x7 x8 x9:L2.Slot,Δ = [.val (.scr (ns.map .int)),.own (.lst p2),.val (encWeb (N:Int) ts),.val (.lst (ys ++ [yl])),x4,.val (encWeb (M:Int) us),.val (encWeb (L:Int) vs),x7,x8,x9],⟨_,_,_,rfl⟩,?_,fun Δ3 ⟨y7,y8,y9,e⟩=>⟨_,y7,y8,y9,e⟩⟩)))
 ·rw [List.length_append]; exact Nat.le_of_lt (small1000 (by show ys.length + 1 + 1<=1000; omega))
 rintro j d Δ3 hd ⟨x7,x8,x9,rfl⟩
 have hT:Pp d:=by
  have hm:=List.mem_of_getElem? hd
  rcases List.mem_append.mp hm with h | h
  ·rcases List.mem_append.mp h with h | h
   ·exact hys d h
   ·rw [List.mem_singleton.mp h]; exact hyl2
  ·rw [List.mem_singleton.mp h]; exact hyl2
 refine Zbd (Zau (Za5 (Za4 (Zab (Zad rfl (Zah (Zj9 hT.rep ?_)))))))
 refine Zau (Za5 (Zbi (Zab (Zad rfl (Zab (Zad rfl (Zah ⟨L,vs,d,rfl,hL,hT.ty,?_⟩)))))))
 refine Zbb (fun Δ=>Δ = [.val (.scr (ns.map .int)),.own (.lst p2),.val (encWeb (N:Int) ts),.val (.lst (ys ++ [yl])),x4,.val (encWeb (M:Int) us),.val (encWeb (L:Int) vs),.val d,.val (.str d.pd.shown),.val (rbV L vs d)]) ?_ ?_
 ·refine Zb4 (Zdk (Zbi (Zab (Zad rfl (Zab (Zad rfl (Zah ⟨L,vs,d,rfl,hL,hT.ty,_,rfl,?_⟩)))))))
  cases c:rpB L vs d with
  | true=>
   obtain ⟨_,_,e1,e2,rows,er⟩:=Zth hL c
   have ev:rbV L vs d=.int (barI L vs (ppG d)):=if_pos c
   rw [ev]
   generalize ppG d=gg at e1 e2 er ⊢
   subst er
   refine iteT (Zb4 (Ze0 (Zdv (Zdk (Zbi (Zab (Zad rfl (Zah ⟨_,_,rfl,rfl,true,rfl,iteF ?_⟩))))))))
   refine Za0 (Zaz (Zad rfl (Zbi (Zab (Zad rfl (Zab (Za1 (Zaw (d:=.int gg) (Zag rfl) Zal rfl) (Zah ⟨L,vs,gg,rfl,hL,e1,e2,Zga ⟨_,rfl,?_⟩⟩))))))))
   rw [decide_eq_true rfl]
   exact iteF (Za2 rfl)
  | false=>
   have ev:rbV L vs d=.non:=if_neg (by rw [c]; decide)
   rw [ev]
   exact iteF (Zb4 (Za0 (Zaz (Zad rfl (Zjn (Zoe ⟨_,rfl,iteF (Za2 rfl)⟩))))))
 rintro Δ1 rfl
 exact Zb4 (Za0 (Zaz (Za4 (Zab (Zad rfl (Zah (Zj9 hT.rep (Zad rfl (Zs2 ⟨_,rfl,iteF (Za2 ⟨_,_,_,rfl⟩)⟩)))))))))
end
theorem lenS {us:List Value} {n:Nat} (h:us.length=n + 1):∃ a t,us=a :: t/\t.length=n:=by
 cases us with
 | nil=>exact absurd h.symm (Nat.succ_ne_zero n)
 | cons a t=>exact ⟨a,t,rfl,Nat.succ.inj h⟩
theorem bK1 {α:Type _} {g r:List Value -> α} (h:∀ a0,g [a0]=r [a0]) (us:List Value) (l:us.length=1):g us=r us:=by
 obtain ⟨a0,u0,rfl,h0⟩:=lenS l
 obtain rfl:=List.eq_nil_of_length_eq_zero h0
 exact h a0
theorem bK2 {α:Type _} {g r:List Value -> α} (h:∀ a0 a1,g [a0,a1]=r [a0,a1]) (us:List Value) (l:us.length=2):g us=r us:=by
 obtain ⟨a0,u0,rfl,h0⟩:=lenS l
 obtain ⟨a1,u1,rfl,h1⟩:=lenS h0
 obtain rfl:=List.eq_nil_of_length_eq_zero h1
 exact h a0 a1
theorem bK3 {α:Type _} {g r:List Value -> α} (h:∀ a0 a1 a2,g [a0,a1,a2]=r [a0,a1,a2]) (us:List Value) (l:us.length=3):g us=r us:=by
 obtain ⟨a0,u0,rfl,h0⟩:=lenS l
 obtain ⟨a1,u1,rfl,h1⟩:=lenS h0
 obtain ⟨a2,u2,rfl,h2⟩:=lenS h1
 obtain rfl:=List.eq_nil_of_length_eq_zero h2
 exact h a0 a1 a2
theorem bK4 {α:Type _} {g r:List Value -> α} (h:∀ a0 a1 a2 a3,g [a0,a1,a2,a3]=r [a0,a1,a2,a3]) (us:List Value) (l:us.length=4):g us=r us:=by
 obtain ⟨a0,u0,rfl,h0⟩:=lenS l
 obtain ⟨a1,u1,rfl,h1⟩:=lenS h0
 obtain ⟨a2,u2,rfl,h2⟩:=lenS h1
 obtain ⟨a3,u3,rfl,h3⟩:=lenS h2
 obtain rfl:=List.eq_nil_of_length_eq_zero h3
 exact h a0 a1 a2 a3
def FnE (K:PySem.W.Frag) (x:Str) (st:Stmt):Prop:=∃ (f:Addr) (fd:FuncData),PySem.W.nsIn K mainGlobals x=some (some (.ref f))/\Fun K x x st f fd
theorem fnE {K:PySem.W.Frag} {x:Str} {st:Stmt} {f:Addr} {oc kV doc pm cdv ct:Value} {od an:Option Addr} {sl:Array (Option Value)} (a:PySem.W.nsIn K mainGlobals x=some (some (.ref f))) (l:K.lookup f=some ⟨oc,od,.func (PySem.W.fnOf x x (defArgs st) (defBody st) (defScope st) .none kV doc pm an cdv ct),sl⟩) (c:PySem.W.codeIn K cdv x=true) (k:PySem.W.keepIn K (.ref f)=true):FnE K x st:=⟨f,_,a,Zru l c k⟩
theorem Zpq {P:Program} {w:World} {K:PySem.W.Frag} {mg:Str->Option Value} {base h:Heap} (X:K.In h) (G:h.Ns mainGlobals mg) {x:Str} {st:Stmt} {ps:List Str} {lv:Nat} {sp:Sp} (e:FnE K x st) (ok:∀ {f:Addr} {fd:FuncData},Fun K x x st f fd->FnOk P w K mg base CX0 lv f fd ps sp) (hb:∀ (kV doc pm:Value) (an:Option Addr) (cdv ct:Value) (us:List Value),us.length=ps.length->bindArgs (PySem.W.fnOf x x (defArgs st) (defBody st) (defScope st) .none kV doc pm an cdv ct) ⟨us,[]⟩ = pure (ps.zip us)):Callee P w K mg base lv x ps sp:=by
 obtain ⟨f,fd,a,F⟩:=e
 exact ⟨⟨f,fd,ok F,F.binds hb,F.kp,PySem.W.mg_of X G a⟩⟩
theorem all_mk {l:PySem.W.OpenLaw} {w:World} {K:PySem.W.Frag} {h:Heap} {mg:Str->Option Value} {fa:Addr} (X:K.In h) (G:h.Ns mainGlobals mg) (hfa:mg "law" = some (.ref fa))
  (e1:FnE K "_law_draw" s_law_draw)
  (e2:FnE K "_law_pen" s_law_pen)
  (e3:FnE K "_law_web" s_law_web)
  (e4:FnE K "parts_of" s_parts_of)
  (e5:FnE K "_law_parts" s_law_parts)
  (e6:FnE K "refuse_parts" s_refuse_parts)
  (e7:FnE K "rank_of" s_rank_of)
  (e8:FnE K "lacking" s_lacking)
  (e9:FnE K "is_whole" s_is_whole)
  (e10:FnE K "other_ties" s_other_ties)
  (e11:FnE K "steps_beside" s_steps_beside)
  (e12:FnE K "bars_of" s_bars_of)
  (e13:FnE K "ring_paper" s_ring_paper)
  (e14:FnE K "_law_one" s_law_one)
  (e15:FnE K "are_wholes" s_are_wholes)
  (e16:FnE K "are_heights" s_are_heights)
  (e17:FnE K "is_ring_paper" s_is_ring_paper)
  (e18:FnE K "ring_bars" s_ring_bars)
  (e19:FnE K "_law_whole" s_law_whole)
  (e20:FnE K "_law_heights" s_law_heights)
  (e21:FnE K "_law_bars" s_law_bars)
  (e22:FnE K "_law_paper" s_law_paper)
  (e23:FnE K "_law_far" s_law_far)
  (e24:FnE K "_law_spoiled_row" s_law_spoiled_row)
  (e25:FnE K "_law_bent" s_law_bent)
  (e26:FnE K "law" s_law)
  (z0:PySem.W.nsIn K mainGlobals "abs" = some none)
  (z1:PySem.W.nsIn K mainGlobals "all" = some none)
  (z2:PySem.W.nsIn K mainGlobals "bool" = some none)
  (z3:PySem.W.nsIn K mainGlobals "enumerate" = some none)
  (z4:PySem.W.nsIn K mainGlobals "int" = some none)
  (z5:PySem.W.nsIn K mainGlobals "isinstance" = some none)
  (z6:PySem.W.nsIn K mainGlobals "len" = some none)
  (z7:PySem.W.nsIn K mainGlobals "list" = some none)
  (z8:PySem.W.nsIn K mainGlobals "max" = some none)
  (z9:PySem.W.nsIn K mainGlobals "min" = some none)
  (z10:PySem.W.nsIn K mainGlobals "range" = some none)
  (z11:PySem.W.nsIn K mainGlobals "repr" = some none)
  (z12:PySem.W.nsIn K mainGlobals "set" = some none)
  (z13:PySem.W.nsIn K mainGlobals "sorted" = some none)
  (z14:PySem.W.nsIn K mainGlobals "str" = some none)
  (z15:PySem.W.nsIn K mainGlobals "tuple" = some none)
  (z16:PySem.W.nsIn K mainGlobals "zip" = some none) :
  ∃ fd:FuncData,(∀ (s:Shared) (v:Value),BindsTo s fd ⟨[v],[]⟩ [("_law_script",v)])/\∀ base:Heap,K.In base->base.Ns mainGlobals mg->FnOk l.prog w K mg base CX0 6 fa fd ["_law_script"] (spD K fLaw):=by
 obtain ⟨f,fd,a,F⟩:=e26
 have e:=hfa.symm.trans (PySem.W.mg_of X G a)
 cases e
 have mb:Mb mg:=by
  intro x hx
  simp only [List.mem_cons,List.not_mem_nil,or_false] at hx
  rcases hx with rfl | rfl | rfl | rfl | rfl | rfl | rfl | rfl | rfl | rfl | rfl | rfl | rfl | rfl | rfl | rfl | rfl
  ·exact PySem.W.mg_none_of X G z0
  ·exact PySem.W.mg_none_of X G z1
  ·exact PySem.W.mg_none_of X G z2
  ·exact PySem.W.mg_none_of X G z3
  ·exact PySem.W.mg_none_of X G z4
  ·exact PySem.W.mg_none_of X G z5
  ·exact PySem.W.mg_none_of X G z6
  ·exact PySem.W.mg_none_of X G z7
  ·exact PySem.W.mg_none_of X G z8
  ·exact PySem.W.mg_none_of X G z9
  ·exact PySem.W.mg_none_of X G z10
  ·exact PySem.W.mg_none_of X G z11
  ·exact PySem.W.mg_none_of X G z12
  ·exact PySem.W.mg_none_of X G z13
  ·exact PySem.W.mg_none_of X G z14
  ·exact PySem.W.mg_none_of X G z15
  ·exact PySem.W.mg_none_of X G z16
 obtain ⟨oc,od,kV,doc,pm,an,cdv,ct,osl,rfl,lk,hcd⟩:=F.ex
 refine ⟨PySem.W.fnOf "law" "law" (defArgs s_law) (defBody s_law) (defScope s_law) .none kV doc pm an cdv ct,fun s v=>.of_eq rfl,fun base _ _=>?_⟩
 have M:=@Zpq l.prog w K mg base h X G
 have C1:=M e1 (Zqc mb) fun _ _ _ _ _ _=>bK2 fun _ _=>rfl
 have C2:=M e2 (Zrr mb) fun _ _ _ _ _ _=>bK1 fun _=>rfl
 have C3:=M e3 (Zsl mb C1) fun _ _ _ _ _ _=>bK3 fun _ _ _=>rfl
 have C4:=M e4 (Ziz mb) fun _ _ _ _ _ _=>bK1 fun _=>rfl
 have C5:=M e5 (Zlk mb) fun _ _ _ _ _ _=>bK1 fun _=>rfl
 have C6:=M e6 (Zrz mb C4) fun _ _ _ _ _ _=>bK1 fun _=>rfl
 have C7:=M e7 (Zqx mb C4) fun _ _ _ _ _ _=>bK1 fun _=>rfl
 have C8:=M e8 (Zk0 mb C4) fun _ _ _ _ _ _=>bK2 fun _ _=>rfl
 have C9:=M e9 (Zpv mb) fun _ _ _ _ _ _=>bK1 fun _=>rfl
 have C10:=M e10 (Zr4 mb) fun _ _ _ _ _ _=>bK2 fun _ _=>rfl
 have C11:=M e11 (Zto mb C10) fun _ _ _ _ _ _=>bK2 fun _ _=>rfl
 have C12:=M e12 (Zqs mb C8) fun _ _ _ _ _ _=>bK2 fun _ _=>rfl
 have C13:=M e13 (Zt1 mb C6 C7 C11) fun _ _ _ _ _ _=>bK1 fun _=>rfl
 have C14:=M e14 (Zr0 mb C1) fun _ _ _ _ _ _=>bK3 fun _ _ _=>rfl
 have C15:=M e15 (Zot mb C9) fun _ _ _ _ _ _=>bK1 fun _=>rfl
 have C16:=M e16 (Zsj mb C15 C10) fun _ _ _ _ _ _=>bK4 fun _ _ _ _=>rfl
 have C17:=M e17 (Zqw mb C4 C7 C9 C16) fun _ _ _ _ _ _=>bK2 fun _ _=>rfl
 have C18:=M e18 (Zs8 mb C12 C17) fun _ _ _ _ _ _=>bK2 fun _ _=>rfl
 have C19:=M e19 (Zmz mb) fun _ _ _ _ _ _=>bK1 fun _=>rfl
 have C20:=M e20 (Zii mb C19) fun _ _ _ _ _ _=>bK4 fun _ _ _ _=>rfl
 have C21:=M e21 (Zn7 mb) fun _ _ _ _ _ _=>bK2 fun _ _=>rfl
 have C22:=M e22 (Zml mb C19 C20 C5) fun _ _ _ _ _ _=>bK2 fun _ _=>rfl
 have C23:=M e23 (Zqp mb) fun _ _ _ _ _ _=>bK2 fun _ _=>rfl
 have C24:=M e24 (Ztk mb C1) fun _ _ _ _ _ _=>bK3 fun _ _ _=>rfl
 have C25:=M e25 (Zpu mb C1 C24) fun _ _ _ _ _ _=>bK3 fun _ _ _=>rfl
 exact ok_law mb C2 C1 C14 C3 C23 C25 C13 C18 C22 C21 C19 F
end Lw
open PySem PySem.W PyProof.Rows
namespace PySem.W.Fast
theorem te14272173687278142251:True:=trivial
def tw13537885475233314518:PySem.Program:=PySem.Challenge.pw_holefloor_k54_ring_papers_that_are_none
theorem te13537885475233314518:PySem.Challenge.pw_holefloor_k54_ring_papers_that_are_none=tw13537885475233314518:=rfl
def tw6812697363804319434:Unit:=()
def tw7472824645063034224:Unit:=()
def tw3640062239380005107:Unit:=()
def tw4928799597067778628:Unit:=()
def tw245257364841308310:Unit:=()
def tw14598823450546131565:Unit:=()
def tw14598449407967955731:Unit:=()
def tw5473079267972347883:Unit:=()
def tw16887915380316042527:Unit:=()
def tw2990900775235483071:Unit:=()
def tw10433140679540347372:Unit:=()
def tw13266020203127182729:Unit:=()
def tw14413883233925617318:Unit:=()
def tw1029357645983792688:Unit:=()
def tw1976199386234869280:Unit:=()
def tw5908003561224860095:Unit:=()
def tw3203228428677077833:Unit:=()
def tw3848617386242280880:Unit:=()
def tw9885187563843177347:Unit:=()
def tw11955103873403986104:Unit:=()
def tw2663530208705947254:Unit:=()
def tw7749037086383452062:Unit:=()
def tw10748477752845176418:Unit:=()
def tw11791164490201194319:Unit:=()
def tw1641617623516486668:Unit:=()
def tw17291377863716598772:Unit:=()
end PySem.W.Fast
set_option maxRecDepth 100000 in
set_option maxHeartbeats 0 in
theorem PySem.Challenge.cw_holefloor_k54_ring_papers_that_are_none_holds : PySem.Challenge.rw_holefloor_k54_ring_papers_that_are_none.Holds := by
 w_on; o_law; k_head; (case hw=>w_witness2)
 k_fill
 refine L2.walk_law (k:=6) (x:="_law_script") (l:=PySem.Challenge.rw_holefloor_k54_ring_papers_that_are_none) ⟨rfl,by decide,by decide,rfl⟩ rfl rfl (fun w h Y=>PySem.W.kIn_of Y) ?F
 case F=>
  intro w mg fa h KX G hmg
  refine' Lw.all_mk KX G hmg ?e1 ?e2 ?e3 ?e4 ?e5 ?e6 ?e7 ?e8 ?e9 ?e10 ?e11 ?e12 ?e13 ?e14 ?e15 ?e16 ?e17 ?e18 ?e19 ?e20 ?e21 ?e22 ?e23 ?e24 ?e25 ?e26 ?z0 ?z1 ?z2 ?z3 ?z4 ?z5 ?z6 ?z7 ?z8 ?z9 ?z10 ?z11 ?z12 ?z13 ?z14 ?z15 ?z16
  all_goals first | (refine' Lw.fnE ?a ?l ?c ?k; (case a=>k_is); (case l=>k_is); (case c=>k_is); (case k=>k_is)) | k_is

